import PyProof.Rows.All
import Wide.All
import OpenK.AllK
import Wide.FinOn
import HandS.ForMost
import HandS.ForExc
import HandS.Defaults
import HandS.MakeKwOnly
import HandS.IsInst
import HandS.RaiseMore
import HandS.FStr
import HandS.Flow
import HandS.Zip
import HandS.Conv
import HandS.Wide
import HandS.Gcd
import HandS.DictComp
import HandS.TupAny
import HandS.TupMul
import KE.GoesMore
import KE.KMathGC
import PyProof.EnumMake
import PyProof.Draws
import PyProof.LongRange
import HandS.TryOnly
import HandS.Deep
import KE.SortData
import HandS.SortRule
import HandS.StrMore
import HandS.MapJoin
import PyProof.Transfer
import HandS.Exc
import HandS.ExcIs
import HandS.Iter
import HandS.SetBool
import HandS.SetFor
import HandS.Strs
import HandS.Star
import KE.KRevSl
import PySem.Challenge.RW_dayspread_k24_normal_form
set_option Elab.async false
set_option linter.all false
set_option maxRecDepth 100000
set_option maxHeartbeats 4000000
/-! Layer F: what a piece of the program does, as a total function on plain data (D), without heaps. -/
namespace FL
open PySem PySem.Spec PyProof.Rows L2

/-! ### plain data -/
inductive D where
  | non | bl (b : Bool) | int (i : Int) | str (x : Str)
  | tup (xs : List D) | lst (xs : List D)
  | obj (C : Addr) (ns : List Str) (xs : List D)
  | dct (ks : List Key) (xs : List D)
  | ref (a : Addr)

mutual
/-- the value v stands for the data, over the heap B -/
def Rep (K : PySem.W.Frag) (B : Hp) : D → V → Prop
  | .non, v => v = .non
  | .bl b, v => v = .bl b
  | .int i, v => v = .int i
  | .str x, v => v = .str x
  | .tup ds, v => ∃ a vs, v = .ref a ∧ SqT K B a vs ∧ Reps K B ds vs
  | .lst ds, v => ∃ a vs, v = .ref a ∧ SqL K B a vs ∧ Reps K B ds vs
  | .obj C ns ds, v => ∃ a dx fs, v = .ref a ∧ B a = some (.ins C dx fs) ∧ fs.map (·.1) = ns ∧ Reps K B ds (fs.map (·.2))
  | .dct ks ds, v => ∃ a kvs, v = .ref a ∧ B a = some (.dK kvs) ∧ kvs.map (·.1) = ks ∧ Reps K B ds (kvs.map (·.2))
  | .ref a, v => v = .ref a
def Reps (K : PySem.W.Frag) (B : Hp) : List D → List V → Prop
  | [], vs => vs = []
  | d :: ds, vs => ∃ v r, vs = v :: r ∧ Rep K B d v ∧ Reps K B ds r
end

theorem seqT {K : PySem.W.Frag} {H H' : Hp} {a : Addr} {xs : List V} (e : Same H H') (h : SqT K H a xs) : SqT K H' a xs := by
  rcases h with (h | ⟨o, h⟩) | h
  · exact .inl (.inl (e _ _ h))
  · exact .inl (.inr ⟨o, e _ _ h⟩)
  · exact .inr h
mutual
theorem Rep.mono {K : PySem.W.Frag} {B B' : Hp} (e : Same B B') : ∀ {d : D} {v : V}, Rep K B d v → Rep K B' d v
  | .non, _, h => by unfold Rep at h ⊢; exact h
  | .bl _, _, h => by unfold Rep at h ⊢; exact h
  | .int _, _, h => by unfold Rep at h ⊢; exact h
  | .str _, _, h => by unfold Rep at h ⊢; exact h
  | .ref _, _, h => by unfold Rep at h ⊢; exact h
  | .tup ds, _, h => by
    unfold Rep at h ⊢
    obtain ⟨a, vs, rfl, q, r⟩ := h
    exact ⟨a, vs, rfl, seqT e q, Reps.mono e r⟩
  | .lst ds, _, h => by
    unfold Rep at h ⊢
    obtain ⟨a, vs, rfl, q, r⟩ := h
    exact ⟨a, vs, rfl, e.seq q, Reps.mono e r⟩
  | .obj C ns ds, _, h => by
    unfold Rep at h ⊢
    obtain ⟨a, dx, fs, rfl, q, n, r⟩ := h
    exact ⟨a, dx, fs, rfl, e _ _ q, n, Reps.mono e r⟩
  | .dct ks ds, _, h => by
    unfold Rep at h ⊢
    obtain ⟨a, kvs, rfl, q, n, r⟩ := h
    exact ⟨a, kvs, rfl, e _ _ q, n, Reps.mono e r⟩
theorem Reps.mono {K : PySem.W.Frag} {B B' : Hp} (e : Same B B') : ∀ {ds : List D} {vs : List V}, Reps K B ds vs → Reps K B' ds vs
  | [], _, h => by unfold Reps at h ⊢; exact h
  | d :: ds, _, h => by
    unfold Reps at h ⊢
    obtain ⟨v, r, rfl, q, s⟩ := h
    exact ⟨v, r, rfl, q.mono e, Reps.mono e s⟩
end
theorem rep_non {K : PySem.W.Frag} {B : Hp} {v : V} : Rep K B .non v ↔ v = .non := by rw [Rep]
theorem rep_bl {K : PySem.W.Frag} {B : Hp} {b : Bool} {v : V} : Rep K B (.bl b) v ↔ v = .bl b := by rw [Rep]
theorem rep_int {K : PySem.W.Frag} {B : Hp} {i : Int} {v : V} : Rep K B (.int i) v ↔ v = .int i := by rw [Rep]
theorem rep_ref {K : PySem.W.Frag} {B : Hp} {a : Addr} {v : V} : Rep K B (.ref a) v ↔ v = .ref a := by rw [Rep]
theorem rep_str {K : PySem.W.Frag} {B : Hp} {x : Str} {v : V} : Rep K B (.str x) v ↔ v = .str x := by rw [Rep]
theorem rep_tup {K : PySem.W.Frag} {B : Hp} {ds : List D} {v : V} : Rep K B (.tup ds) v ↔ ∃ a vs, v = .ref a ∧ SqT K B a vs ∧ Reps K B ds vs := by rw [Rep]
theorem rep_lst {K : PySem.W.Frag} {B : Hp} {ds : List D} {v : V} : Rep K B (.lst ds) v ↔ ∃ a vs, v = .ref a ∧ SqL K B a vs ∧ Reps K B ds vs := by rw [Rep]
theorem rep_obj {K : PySem.W.Frag} {B : Hp} {C : Addr} {ns : List Str} {ds : List D} {v : V} : Rep K B (.obj C ns ds) v ↔ ∃ a dx fs, v = .ref a ∧ B a = some (.ins C dx fs) ∧ fs.map (·.1) = ns ∧ Reps K B ds (fs.map (·.2)) := by rw [Rep]
theorem rep_dct {K : PySem.W.Frag} {B : Hp} {ks : List Key} {ds : List D} {v : V} : Rep K B (.dct ks ds) v ↔ ∃ a kvs, v = .ref a ∧ B a = some (.dK kvs) ∧ kvs.map (·.1) = ks ∧ Reps K B ds (kvs.map (·.2)) := by rw [Rep]
theorem reps_nil {K : PySem.W.Frag} {B : Hp} {vs : List V} : Reps K B [] vs ↔ vs = [] := by rw [Reps]
theorem reps_cons {K : PySem.W.Frag} {B : Hp} {d : D} {ds : List D} {vs : List V} : Reps K B (d :: ds) vs ↔ ∃ v r, vs = v :: r ∧ Rep K B d v ∧ Reps K B ds r := by rw [Reps]
theorem Reps.one {K : PySem.W.Frag} {B : Hp} {d : D} {v : V} (h : Rep K B d v) : Reps K B [d] [v] := reps_cons.mpr ⟨v, [], rfl, h, reps_nil.mpr rfl⟩
theorem Reps.cons {K : PySem.W.Frag} {B : Hp} {d : D} {ds : List D} {v : V} {vs : List V} (h : Rep K B d v) (r : Reps K B ds vs) : Reps K B (d :: ds) (v :: vs) := reps_cons.mpr ⟨v, vs, rfl, h, r⟩
theorem Reps.length {K : PySem.W.Frag} {B : Hp} : ∀ {ds : List D} {vs : List V}, Reps K B ds vs → vs.length = ds.length
  | [], _, h => by rw [reps_nil.mp h]; rfl
  | d :: ds, _, h => by
    obtain ⟨v, r, rfl, _, s⟩ := reps_cons.mp h
    rw [List.length_cons, List.length_cons, s.length]
theorem Reps.get {K : PySem.W.Frag} {B : Hp} : ∀ {ds : List D} {vs : List V} {i : Nat} {d : D}, Reps K B ds vs → ds[i]? = some d → ∃ v, vs[i]? = some v ∧ Rep K B d v
  | [], _, i, d, _, e => by simp at e
  | c :: ds, _, 0, d, h, e => by
    obtain ⟨v, r, rfl, q, s⟩ := reps_cons.mp h
    have e' : c = d := Option.some.inj e
    subst e'
    exact ⟨v, rfl, q⟩
  | c :: ds, _, i + 1, d, h, e => by
    obtain ⟨v, r, rfl, q, s⟩ := reps_cons.mp h
    exact s.get e
theorem Reps.getV {K : PySem.W.Frag} {B : Hp} {ds : List D} {vs : List V} {i : Nat} {v : V} (h : Reps K B ds vs) (e : vs[i]? = some v) : ∃ d, ds[i]? = some d ∧ Rep K B d v := by
  have hl := h.length
  have hi : i < vs.length := (List.getElem?_eq_some_iff.mp e).1
  have hd : ds[i]? = some ds[i] := List.getElem?_eq_getElem (by omega)
  obtain ⟨w, e2, r⟩ := h.get hd
  rw [e] at e2
  cases e2
  exact ⟨_, hd, r⟩
theorem Reps.append {K : PySem.W.Frag} {B : Hp} : ∀ {ds es : List D} {vs us : List V}, Reps K B ds vs → Reps K B es us → Reps K B (ds ++ es) (vs ++ us)
  | [], es, _, us, h, k => by rw [reps_nil.mp h]; exact k
  | d :: ds, es, _, us, h, k => by
    obtain ⟨v, r, rfl, q, s⟩ := reps_cons.mp h
    exact reps_cons.mpr ⟨v, r ++ us, rfl, q, s.append k⟩
theorem Reps.take {K : PySem.W.Frag} {B : Hp} : ∀ (n : Nat) {ds : List D} {vs : List V}, Reps K B ds vs → Reps K B (ds.take n) (vs.take n)
  | 0, _, _, _ => by rw [List.take_zero, List.take_zero]; exact reps_nil.mpr rfl
  | n + 1, [], _, h => by rw [reps_nil.mp h]; exact reps_nil.mpr rfl
  | n + 1, d :: ds, _, h => by
    obtain ⟨v, r, rfl, q, s⟩ := reps_cons.mp h
    exact reps_cons.mpr ⟨v, r.take n, rfl, q, s.take n⟩
theorem Reps.drop {K : PySem.W.Frag} {B : Hp} : ∀ (n : Nat) {ds : List D} {vs : List V}, Reps K B ds vs → Reps K B (ds.drop n) (vs.drop n)
  | 0, _, _, h => h
  | n + 1, [], _, h => by rw [reps_nil.mp h]; exact reps_nil.mpr rfl
  | n + 1, d :: ds, _, h => by
    obtain ⟨v, r, rfl, q, s⟩ := reps_cons.mp h
    exact s.drop n
theorem Reps.set {K : PySem.W.Frag} {B : Hp} : ∀ (n : Nat) {ds : List D} {vs : List V} {d : D} {v : V}, Reps K B ds vs → Rep K B d v → Reps K B (ds.set n d) (vs.set n v)
  | _, [], _, _, _, h, _ => by rw [reps_nil.mp h]; exact reps_nil.mpr rfl
  | 0, d :: ds, _, _, _, h, k => by
    obtain ⟨v, r, rfl, q, s⟩ := reps_cons.mp h
    exact reps_cons.mpr ⟨_, r, rfl, k, s⟩
  | n + 1, d :: ds, _, _, _, h, k => by
    obtain ⟨v, r, rfl, q, s⟩ := reps_cons.mp h
    exact reps_cons.mpr ⟨v, _, rfl, q, s.set n k⟩

/-! ### the heaps: B what the data stand in, H all -/
structure Ext (B H B' H' : Hp) : Prop where
  b : Same B B'
  h : Same H H'
  bh : Same B' H'
  new : ∀ a, B a = none → H a ≠ none → B' a = none
theorem Ext.refl {B H : Hp} (h : Same B H) : Ext B H B H := ⟨Same.refl _, Same.refl _, h, fun _ q _ => q⟩
theorem Ext.trans {B H B1 H1 B2 H2 : Hp} (x : Ext B H B1 H1) (y : Ext B1 H1 B2 H2) : Ext B H B2 H2 :=
  ⟨x.b.trans y.b, x.h.trans y.h, y.bh, fun a q r => y.new a (x.new a q r) (by
    cases e : H a with
    | none => exact absurd e r
    | some o =>
      rw [x.h a o e]
      exact fun z => nomatch z)⟩
theorem same_upd {H : Hp} {p : Addr} {o : HO} (h : H p = none) : Same H (upd H p o) := fun b x e => by
  rw [upd_ne (ne_of_none e h)]
  exact e
/-- what is not in H is not in B -/
theorem Same.none_of {B H : Hp} (s : Same B H) {a : Addr} (h : H a = none) : B a = none := s.free h
/-- one new object, in both -/
theorem Ext.laid {B H : Hp} {p : Addr} {o : HO} (s : Same B H) (h : H p = none) : Ext B H (upd B p o) (upd H p o) :=
  ⟨same_upd (s.free h), same_upd h, fun b x e => by
    by_cases q : b = p
    · rw [q, upd_same] at e ⊢
      exact e
    · rw [upd_ne q] at e ⊢
      exact s _ _ e, fun a q r => by
    have n : a ≠ p := fun z => r (by rw [z]; exact h)
    rw [upd_ne n]
    exact q⟩
/-- one new object, not in B -/
theorem Ext.own {B H : Hp} {p : Addr} {o : HO} (s : Same B H) (h : H p = none) : Ext B H B (upd H p o) := ⟨Same.refl _, same_upd h, s.trans (same_upd h), fun _ q _ => q⟩
/-- an object of H, new since H0, comes into B -/
theorem Ext.adopt {B0 H0 B H : Hp} {p : Addr} {o : HO} (x : Ext B0 H0 B H) (h0 : H0 p = none) (hb : B p = none) (h : H p = some o) : Ext B0 H0 (upd B p o) H :=
  ⟨x.b.trans (same_upd hb), x.h, fun b z e => by
    by_cases q : b = p
    · rw [q, upd_same] at e
      rw [q, h]
      exact e
    · rw [upd_ne q] at e
      exact x.bh _ _ e, fun a q r => by
    have n : a ≠ p := fun z => r (by rw [z]; exact h0)
    rw [upd_ne n]
    exact x.new a q r⟩
/-- an object that H0 does not know changes -/
theorem Ext.mut {B0 H0 B H : Hp} {p : Addr} {o : HO} (x : Ext B0 H0 B H) (h0 : H0 p = none) (hb : B p = none) : Ext B0 H0 B (upd H p o) :=
  ⟨x.b, fun b z e => by rw [upd_ne (ne_of_none e h0)]; exact x.h _ _ e, fun b z e => by rw [upd_ne (ne_of_none e hb)]; exact x.bh _ _ e, x.new⟩
theorem Ext.alive {B H B' H' : Hp} (x : Ext B H B' H') {a : Addr} {o : HO} (hb : B a = none) (h : H a = some o) : B' a = none := x.new a hb (by rw [h]; exact fun z => nomatch z)

/-! ### the names of a def -/
inductive Sl where
  | no | d (x : D) | own (xs : List D) | obj (q : Addr) (C : Addr) (ns : List Str) (xs : List D)
abbrev PS1 := List Sl
def Sl.isOwn : Sl → Bool
  | .own _ => true
  | .obj _ _ _ _ => true
  | _ => false
def SlotOk (K : PySem.W.Frag) (B H : Hp) (p : Addr) (ov : Option (Option V)) : Sl → Prop
  | .no => True
  | .d x => ∃ v, ov = some (some v) ∧ Rep K B x v
  | .own xs => ov = some (some (.ref p)) ∧ B p = none ∧ ∃ vs, H p = some (.lst vs) ∧ Reps K B xs vs
  | .obj q C ns xs => p = q ∧ ov = some (some (.ref p)) ∧ B p = none ∧ ∃ dx fs, H p = some (.ins C dx fs) ∧ fs.map (·.1) = ns ∧ Reps K B xs (fs.map (·.2))
structure Slots (K : PySem.W.Frag) (B H : Hp) (ad : Nat → Addr) (σ : L2.St) (s : PS1) : Prop where
  bh : Same B H
  len : σ.length = s.length
  ok : ∀ i x, s[i]? = some x → SlotOk K B H (ad i) σ[i]? x
  apart : ∀ i j x y, s[i]? = some x → s[j]? = some y → x.isOwn = true → y.isOwn = true → ad i = ad j → i = j
theorem SlotOk.mono {K : PySem.W.Frag} {B H B' H' : Hp} {p : Addr} {ov : Option (Option V)} {x : Sl} (e : Ext B H B' H') (h : SlotOk K B H p ov x) : SlotOk K B' H' p ov x := by
  cases x with
  | no => trivial
  | d x =>
    obtain ⟨v, q, r⟩ := h
    exact ⟨v, q, r.mono e.b⟩
  | own xs =>
    obtain ⟨q, hb, vs, hh, r⟩ := h
    exact ⟨q, e.alive hb hh, vs, e.h _ _ hh, r.mono e.b⟩
  | obj q0 C ns xs =>
    obtain ⟨q1, q, hb, dx, fs, hh, hn, r⟩ := h
    exact ⟨q1, q, e.alive hb hh, dx, fs, e.h _ _ hh, hn, r.mono e.b⟩
theorem Slots.mono {K : PySem.W.Frag} {B H B' H' : Hp} {ad : Nat → Addr} {σ : L2.St} {s : PS1} (e : Ext B H B' H') (h : Slots K B H ad σ s) : Slots K B' H' ad σ s :=
  ⟨e.bh, h.len, fun i x q => (h.ok i x q).mono e, h.apart⟩

/-! ### results -/
/-- an error: its class, its own fields -/
structure Er where
  C : Addr
  fs : Option (List Str × List D) := none
inductive R (α : Type) where
  | ok (a : α) | er (x : Er)
def RepX (K : PySem.W.Frag) (B : Hp) (x : Er) (cls : Value) (d : Option Addr) : Prop :=
  cls = .ref x.C ∧ match x.fs with
    | none => d = none
    | some (ns, ds) => ∃ dx vfs, d = some dx ∧ B dx = some (.xd vfs) ∧ vfs.map (·.1) = ns ∧ Reps K B ds (vfs.map (·.2))
def bnd {α β : Type} (x : Option (R α)) (k : α → Option (R β)) : Option (R β) :=
  match x with
  | some (.ok a) => k a
  | some (.er e) => some (.er e)
  | none => none
@[simp] theorem bnd_ok {α β : Type} (a : α) (k : α → Option (R β)) : bnd (some (.ok a)) k = k a := rfl
@[simp] theorem bnd_er {α β : Type} (e : Er) (k : α → Option (R β)) : bnd (some (.er e)) k = some (.er e) := rfl
@[simp] theorem bnd_none {α β : Type} (k : α → Option (R β)) : bnd none k = none := rfl
/-- where the end may be an error, what is wished of it -/
def ErOk (K : PySem.W.Frag) (W : WX) (B H : Hp) (σ : L2.St) (x : Er) : Prop := ∀ cls dd B' H', Ext B H B' H' → RepX K B' x cls dd → W cls dd σ H'
theorem ErOk.mono {K : PySem.W.Frag} {W : WX} {B H B' H' : Hp} {σ : L2.St} {x : Er} (e : Ext B H B' H') (h : ErOk K W B H σ x) : ErOk K W B' H' σ x := fun cls dd B2 H2 e2 r => h cls dd B2 H2 (e.trans e2) r

/-! ### the readings by functions -/
def Fin {α : Type} (K : PySem.W.Frag) (W : WX) (B H : Hp) (σ : L2.St) (r : R α) (P : α → Hp → Hp → Prop) : Prop :=
  match r with
  | .ok a => ∀ B' H', Ext B H B' H' → P a B' H'
  | .er x => ErOk K W B H σ x
/-- f runs at the slots σ, over B and H, and behind it P -/
def Run {α : Type} (K : PySem.W.Frag) (W : WX) (σ : L2.St) (P : α → Hp → Hp → Prop) (f : PS1 → Option (R α)) (B H : Hp) : Prop :=
  ∃ ad s r, Slots K B H ad σ s ∧ f s = some r ∧ Fin K W B H σ r P
def RV (K : PySem.W.Frag) (Q : VK) : D → Hp → Hp → Prop := fun d B' H' => ∀ v, Rep K B' d v → Q v H'
def RVs (K : PySem.W.Frag) (Q : List V → Hp → Prop) : List D → Hp → Hp → Prop := fun ds B' H' => ∀ vs, Reps K B' ds vs → Q vs H'
def RB (Q : Bool → Hp → Prop) : Bool → Hp → Hp → Prop := fun b _ H' => Q b H'
/-- a new list, no one else's -/
def RN (K : PySem.W.Frag) (Q : VK) : List D → Hp → Hp → Prop := fun ds B' H' => ∀ p vs, B' p = none → H' p = some (.lst vs) → Reps K B' ds vs → Q (.ref p) H'
def tD (K : PySem.W.Frag) (W : WX) (f : PS1 → Option (R D)) : TE := fun σ H Q => ∃ B, Run K W σ (RV K Q) f B H
def tDs (K : PySem.W.Frag) (W : WX) (f : PS1 → Option (R (List D))) : TA := fun σ H Q => ∃ B, Run K W σ (RVs K Q) f B H
def tDb (K : PySem.W.Frag) (W : WX) (f : PS1 → Option (R Bool)) : TT := fun σ H Q => ∃ B, Run K W σ (RB Q) f B H
/-- H₀: the heap ahead; the new list is not in it -/
def tDN (K : PySem.W.Frag) (W : WX) (f : PS1 → Option (R (List D))) : TE := fun σ H Q => ∃ B, Run K W σ (fun ds B' H' => ∀ p vs, H p = none → B' p = none → H' p = some (.lst vs) → Reps K B' ds vs → Q (.ref p) H') f B H
section
variable {α β : Type} {K : PySem.W.Frag} {W : WX} {σ : L2.St} {P P' : α → Hp → Hp → Prop} {f : PS1 → Option (R α)} {B H : Hp}
theorem Fin.imp {r : R α} (h : Fin K W B H σ r P) (i : ∀ a B' H', Ext B H B' H' → P a B' H' → P' a B' H') : Fin K W B H σ r P' := by
  cases r with
  | ok a => exact fun B' H' x => i a B' H' x (h B' H' x)
  | er x => exact h
theorem Run.imp (h : Run K W σ P f B H) (i : ∀ a B' H', Ext B H B' H' → P a B' H' → P' a B' H') : Run K W σ P' f B H := by
  obtain ⟨ad, s, r, hs, hf, hq⟩ := h
  exact ⟨ad, s, r, hs, hf, hq.imp i⟩
theorem Run.same (h : Run K W σ P f B H) : Same B H := by
  obtain ⟨ad, s, r, hs, hf, hq⟩ := h
  exact hs.bh
theorem Run.bind {fa : PS1 → Option (R β)} {k : β → PS1 → Option (R α)} (h : Run K W σ P (fun s => bnd (fa s) fun a => k a s) B H) : Run K W σ (fun a B' H' => Run K W σ P (k a) B' H') fa B H := by
  obtain ⟨ad, s, r, hs, hf, hq⟩ := h
  have hf : bnd (fa s) (fun a => k a s) = some r := hf
  cases e : fa s with
  | none => rw [e] at hf; cases hf
  | some ra =>
    rw [e] at hf
    cases ra with
    | er x =>
      have hf : some (R.er x) = some r := hf
      cases hf
      exact ⟨ad, s, .er x, hs, e, hq⟩
    | ok a =>
      refine ⟨ad, s, .ok a, hs, e, fun B' H' x => ⟨ad, s, r, hs.mono x, hf, ?_⟩⟩
      cases r with
      | ok b => exact fun B2 H2 x2 => hq B2 H2 (x.trans x2)
      | er y => exact ErOk.mono x hq
theorem Run.map {fa : PS1 → Option (R β)} {g : β → α} (h : Run K W σ P (fun s => bnd (fa s) fun a => some (.ok (g a))) B H) : Run K W σ (fun a _ _ => ∀ B2 H2, Ext B H B2 H2 → P (g a) B2 H2) fa B H := by
  obtain ⟨ad, s, r, hs, hf, hq⟩ := h
  have hf : bnd (fa s) (fun a => some (.ok (g a))) = some r := hf
  cases e : fa s with
  | none => rw [e] at hf; cases hf
  | some ra =>
    rw [e] at hf
    cases ra with
    | er x =>
      have hf : some (R.er x) = some r := hf
      cases hf
      exact ⟨ad, s, .er x, hs, e, hq⟩
    | ok a =>
      have hf : some (R.ok (g a)) = some r := hf
      cases hf
      exact ⟨ad, s, .ok a, hs, e, fun _ _ _ => hq⟩
/-- a value that is there -/
theorem Run.now {a : α} (h : Run K W σ P (fun _ => some (.ok a)) B H) : P a B H := by
  obtain ⟨ad, s, r, hs, hf, hq⟩ := h
  cases hf
  exact hq B H (Ext.refl hs.bh)
theorem Run.to {a : α} {B' H' : Hp} (h : Run K W σ P (fun _ => some (.ok a)) B H) (x : Ext B H B' H') : P a B' H' := by
  obtain ⟨ad, s, r, hs, hf, hq⟩ := h
  cases hf
  exact hq B' H' x
def lft {α : Type} (o : Option α) : Option (R α) := o.map .ok
@[simp] theorem lft_some {α : Type} (a : α) : lft (some a) = some (.ok a) := rfl
@[simp] theorem lft_none {α : Type} : lft (none : Option α) = none := rfl
theorem Run.lifted {o : Option α} (h : Run K W σ P (fun _ => lft o) B H) : ∃ a, o = some a ∧ ∀ B' H', Ext B H B' H' → P a B' H' := by
  obtain ⟨ad, s, r, hs, hf, hq⟩ := h
  cases o with
  | none => cases hf
  | some a =>
    cases hf
    exact ⟨a, rfl, hq⟩
end
theorem PE.imp {X : Cx} {e : Expr} {t t' : TE} (h : PE X e t) (i : ∀ σ H Q, t' σ H Q → t σ H Q) : PE X e t' := ⟨fun pins s σ H Q I q => h.run pins s σ H Q I (i σ H Q q)⟩
theorem PT.imp {X : Cx} {e : Expr} {t t' : TT} (h : PT X e t) (i : ∀ σ H Q, t' σ H Q → t σ H Q) : PT X e t' := ⟨fun pins s σ H Q I q => h.run pins s σ H Q I (i σ H Q q)⟩
theorem PW.imp {X : Cx} {e : Expr} {t t' : TT} (h : PW X e t) (i : ∀ σ H Q, t' σ H Q → t σ H Q) : PW X e t' := ⟨fun w pins s σ H Q I q => h.run w pins s σ H Q I (i σ H Q q)⟩
theorem PA.imp {X : Cx} {e : List Expr} {t t' : TA} (h : PA X e t) (i : ∀ σ H Q, t' σ H Q → t σ H Q) : PA X e t' := ⟨fun pos pins s σ H Q I q => h.run pos pins s σ H Q I (i σ H Q q)⟩
theorem PK.imp {X : Cx} {e : List Keyword} {t t' : TA} (h : PK X e t) (i : ∀ σ H Q, t' σ H Q → t σ H Q) : PK X e t' := ⟨fun pos pins s σ H Q I q => h.run pos pins s σ H Q I (i σ H Q q)⟩
theorem PS.imp {X : Cx} {e : Stmt} {t t' : TS} (h : PS X e t) (i : ∀ D σ H, t' D σ H → t D σ H) : PS X e t' := ⟨fun pins s σ H D I q => h.run pins s σ H D I (i D σ H q)⟩
theorem PSs.imp {X : Cx} {e : List Stmt} {t t' : TS} (h : PSs X e t) (i : ∀ D σ H, t' D σ H → t D σ H) : PSs X e t' := ⟨fun pins s σ H D I q => h.run pins s σ H D I (i D σ H q)⟩

abbrev DE (X : Cx) (W : WX) (e : Expr) (f : PS1 → Option (R D)) : Prop := PE X e (tD X.K W f)
abbrev DN (X : Cx) (W : WX) (e : Expr) (f : PS1 → Option (R (List D))) : Prop := PE X e (tDN X.K W f)
abbrev DT (X : Cx) (W : WX) (e : Expr) (f : PS1 → Option (R Bool)) : Prop := PT X e (tDb X.K W f)
abbrev DW (X : Cx) (W : WX) (e : Expr) (f : PS1 → Option (R Bool)) : Prop := PW X e (tDb X.K W f)
abbrev DA (X : Cx) (W : WX) (e : List Expr) (f : PS1 → Option (R (List D))) : Prop := PA X e (tDs X.K W f)
abbrev DK (X : Cx) (W : WX) (e : List Keyword) (f : PS1 → Option (R (List D))) : Prop := PK X e (tDs X.K W f)

end FL

namespace FL
open PySem PySem.Spec PyProof.Rows L2

/-! ### names, constants -/
def getv (s : PS1) (i : Nat) : Option D :=
  match s[i]? with
  | some (.d x) => some x
  | _ => none
theorem getv_some {s : PS1} {i : Nat} {x : D} (h : getv s i = some x) : s[i]? = some (.d x) := by
  unfold getv at h
  split at h
  · cases h
    assumption
  · cases h
def fVar (i : Nat) : PS1 → Option (R D) := fun s => lft (getv s i)
def fC (d : D) : PS1 → Option (R D) := fun _ => some (.ok d)
section
variable {X : Cx} {W : WX} {e a b : Expr} {pos : Pos} {fa fb fc : PS1 → Option (R D)} {ft fu : PS1 → Option (R Bool)}
theorem lft_eq {α : Type} {o : Option α} {r : R α} (h : lft o = some r) : ∃ a, o = some a ∧ r = .ok a := by
  cases o with
  | none => cases h
  | some a =>
    cases h
    exact ⟨a, rfl, rfl⟩
theorem de_var (i : Nat) {x : Str} (hN : X.N[i]? = some x := by rfl) (hv : Vis X.env.scope x := by first | exact Or.inl rfl | exact Or.inr (Or.inl rfl) | exact Or.inr (Or.inr rfl)) (hd : (x == ("__debug__" : Str)) = false := by decide)
    (hcd : (x == ("__classdict__" : Str)) = false := by decide) : DE X W (.Name x pos) (fVar i) := by
  refine PE.imp (pe_var hN hv hd hcd) fun σ H Q h => ?_
  obtain ⟨B, ad, s, r, hs, hf, hq⟩ := h
  obtain ⟨d, hd, rfl⟩ := lft_eq hf
  obtain ⟨v, ev, rv⟩ := hs.ok i _ (getv_some hd)
  exact ⟨v, ev, hq B H (Ext.refl hs.bh) v rv⟩
theorem de_c {d : D} {v : V} (h : PE X e (tC v)) (hr : ∀ {B u}, Rep X.K B d u ↔ u = v) : DE X W e (fC d) := by
  refine PE.imp h fun σ H Q h => ?_
  obtain ⟨B, ad, s, r, hs, hf, hq⟩ := h
  cases hf
  exact hq B H (Ext.refl hs.bh) v (hr.mpr rfl)
theorem de_int {i j} : DE X W (.Constant (.int i) j pos) (fC (.int i)) := de_c pe_int rep_int
theorem de_bl {b j} : DE X W (.Constant (.bool b) j pos) (fC (.bl b)) := de_c pe_bl rep_bl
theorem de_non {j} : DE X W (.Constant .none j pos) (fC .non) := de_c pe_non rep_non
theorem de_str {x j} : DE X W (.Constant (.str x) j pos) (fC (.str x)) := de_c pe_str rep_str
/-- a module's constant: an int, a bool, a text -/
theorem de_glob {x : Str} {d : D} {v : V} {u : Value} (hg : Gl X x) (hm : X.mg x = some u) (r : RelV v u) (hr : ∀ {B w}, Rep X.K B d w ↔ w = v) (hdb : (x == ("__debug__" : Str)) = false := by decide) : DE X W (.Name x pos) (fC d) := de_c (pe_glob hg hm r hdb) hr

/-! ### operators -/
def Pure2 (K : PySem.W.Frag) (r : R2) (g : D → D → Option D) : Prop := ∀ {B H : Hp} {x y z : D} {v u : V} (Q : VK), Same B H → g x y = some z → Rep K B x v → Rep K B y u → (∀ B' H', Ext B H B' H' → ∀ w, Rep K B' z w → Q w H') → r v u H Q
def Pure1 (K : PySem.W.Frag) (r : V → Hp → VK → Prop) (g : D → Option D) : Prop := ∀ {B H : Hp} {x z : D} {v : V} (Q : VK), Same B H → g x = some z → Rep K B x v → (∀ B' H', Ext B H B' H' → ∀ w, Rep K B' z w → Q w H') → r v H Q
def PureC (K : PySem.W.Frag) (r : List V → Hp → VK → Prop) (g : List D → Option D) : Prop := ∀ {B H : Hp} {xs : List D} {z : D} {vs : List V} (Q : VK), Same B H → g xs = some z → Reps K B xs vs → (∀ B' H', Ext B H B' H' → ∀ w, Rep K B' z w → Q w H') → r vs H Q
def fop (g : D → D → Option D) (fa fb : PS1 → Option (R D)) : PS1 → Option (R D) := fun s => bnd (fa s) fun x => bnd (fb s) fun y => lft (g x y)
def fun1 (g : D → Option D) (fa : PS1 → Option (R D)) : PS1 → Option (R D) := fun s => bnd (fa s) fun x => lft (g x)
theorem tD_op {K : PySem.W.Frag} {r : R2} {g : D → D → Option D} (hp : Pure2 K r g) {σ : L2.St} {H : Hp} {Q : VK} (h : tD K W (fop g fa fb) σ H Q) : tOp r (tD K W fa) (tD K W fb) σ H Q := by
  obtain ⟨B, h⟩ := h
  refine ⟨B, (Run.bind h).imp fun x B1 H1 e1 h1 v rv => ⟨B1, (Run.bind h1).imp fun y B2 H2 e2 h2 u ru => ?_⟩⟩
  obtain ⟨z, hz, q⟩ := Run.lifted h2
  exact hp Q h2.same hz (rv.mono e2.b) ru q
theorem de_op {op : Operator} {r : R2} {g : D → D → Option D} (ho : OpR X (binaryOp op) r) (hp : Pure2 X.K r g) (ha : DE X W a fa) (hb : DE X W b fb) : DE X W (.BinOp a op b pos) (fop g fa fb) :=
  PE.imp (pe_op ho ha hb) fun _ _ _ h => tD_op hp h
theorem de_un {op : UnaryOp} {r : V → Hp → VK → Prop} {g : D → Option D} (ho : UnR X (unaryOp op) r) (hp : Pure1 X.K r g) (ha : DE X W a fa) : DE X W (.UnaryOp op a pos) (fun1 g fa) := by
  refine PE.imp (pe_un ho ha) fun σ H Q h => ?_
  obtain ⟨B, h⟩ := h
  refine ⟨B, (Run.bind h).imp fun x B1 H1 e1 h1 v rv => ?_⟩
  obtain ⟨z, hz, q⟩ := Run.lifted h1
  exact hp Q h1.same hz rv q
theorem de_cmp {op : CmpOp} {r : R2} {g : D → D → Option D} (ho : OpR X (compareOp op) r) (hp : Pure2 X.K r g) (ha : DE X W a fa) (hb : DE X W b fb) (hm : behindInMarks op b = false) : DE X W (.Compare a [op] [b] pos) (fop g fa fb) :=
  PE.imp (pe_cmpR ho ha hb hm) fun _ _ _ h => tD_op hp h
theorem Pure2.or {K : PySem.W.Frag} {r r' : R2} {g g' : D → D → Option D} (h : Pure2 K r g) (h' : Pure2 K r' g') : Pure2 K (fun x y H Q => r x y H Q ∨ r' x y H Q) (fun x y => (g x y).or (g' x y)) := by
  intro B H x y z v u Q bh e rv ru q
  cases e1 : g x y with
  | some z1 =>
    have e : (g x y).or (g' x y) = some z := e
    rw [e1] at e
    cases e
    exact .inl (h Q bh e1 rv ru q)
  | none =>
    have e : (g x y).or (g' x y) = some z := e
    rw [e1] at e
    exact .inr (h' Q bh e rv ru q)
/-- two ints -/
def gI (C : Int → Int → Bool) (g : Int → Int → D) : D → D → Option D
  | .int i, .int j => if C i j = true then some (g i j) else none
  | _, _ => none
def gI0 (g : Int → Int → D) : D → D → Option D
  | .int i, .int j => some (g i j)
  | _, _ => none
theorem gI0_inv {g : Int → Int → D} {x y z : D} (h : gI0 g x y = some z) : ∃ i j, x = .int i ∧ y = .int j ∧ z = g i j := by
  unfold gI0 at h
  split at h
  · cases h; exact ⟨_, _, rfl, rfl, rfl⟩
  · cases h
theorem gI_inv {C : Int → Int → Bool} {g : Int → Int → D} {x y z : D} (h : gI C g x y = some z) : ∃ i j, x = .int i ∧ y = .int j ∧ C i j = true ∧ z = g i j := by
  unfold gI at h
  split at h
  · split at h
    · cases h; exact ⟨_, _, rfl, rfl, by assumption, rfl⟩
    · cases h
  · cases h
theorem pure_I0 {K : PySem.W.Frag} {g : Int → Int → D} {gv : Int → Int → V} (hg : ∀ {B i j w}, Rep K B (g i j) w ↔ w = gv i j) : Pure2 K (rI0 gv) (gI0 g) := by
  intro B H x y z v u Q bh e rv ru q
  obtain ⟨i, j, rfl, rfl, rfl⟩ := gI0_inv e
  exact ⟨i, j, rep_int.mp rv, rep_int.mp ru, q B H (Ext.refl bh) _ (hg.mpr rfl)⟩
theorem pure_I {K : PySem.W.Frag} {C : Int → Int → Bool} {C' : Int → Int → Prop} {g : Int → Int → D} {gv : Int → Int → V} (hc : ∀ i j, C i j = true → C' i j) (hg : ∀ {B i j w}, Rep K B (g i j) w ↔ w = gv i j) : Pure2 K (rI C' gv) (gI C g) := by
  intro B H x y z v u Q bh e rv ru q
  obtain ⟨i, j, rfl, rfl, c, rfl⟩ := gI_inv e
  exact ⟨i, j, rep_int.mp rv, rep_int.mp ru, hc i j c, q B H (Ext.refl bh) _ (hg.mpr rfl)⟩
def cMod (_ j : Int) : Bool := decide (0 < j)
def cModN (_ j : Int) : Bool := decide (j ≠ 0)
def cDiv (_ j : Int) : Bool := decide (0 < j) && decide (j.natAbs.log2 < 9000)
def cMul (i j : Int) : Bool := (decide (-(2 ^ 64) < i) && decide (i < 2 ^ 64)) || ((decide (-(2 ^ 64) < j) && decide (j < 2 ^ 64)) || decide (i.natAbs.log2 + j.natAbs.log2 < 1000000))
def cPow (i j : Int) : Bool := decide (0 ≤ j) && (decide (j ≤ 1000000) && decide (i.natAbs < 2 ^ 64))
theorem pure_lt {K : PySem.W.Frag} : Pure2 K (rI0 fun i j => .bl (decide (i < j))) (gI0 fun i j => .bl (decide (i < j))) := pure_I0 rep_bl
theorem pure_le {K : PySem.W.Frag} : Pure2 K (rI0 fun i j => .bl (decide (i ≤ j))) (gI0 fun i j => .bl (decide (i ≤ j))) := pure_I0 rep_bl
theorem pure_gt {K : PySem.W.Frag} : Pure2 K (rI0 fun i j => .bl (decide (j < i))) (gI0 fun i j => .bl (decide (j < i))) := pure_I0 rep_bl
theorem pure_ge {K : PySem.W.Frag} : Pure2 K (rI0 fun i j => .bl (decide (j ≤ i))) (gI0 fun i j => .bl (decide (j ≤ i))) := pure_I0 rep_bl
def gLt : D → D → Option D := gI0 fun i j => .bl (decide (i < j))
def gLe : D → D → Option D := gI0 fun i j => .bl (decide (i ≤ j))
def gGt : D → D → Option D := gI0 fun i j => .bl (decide (j < i))
def gGe : D → D → Option D := gI0 fun i j => .bl (decide (j ≤ i))
def gAddI : D → D → Option D := gI0 fun i j => .int (i + j)
def gSub : D → D → Option D := gI0 fun i j => .int (i - j)
def gMulI : D → D → Option D := gI cMul fun i j => .int (i * j)
def gMod : D → D → Option D := gI cMod fun i j => .int (i % j)
def gDiv : D → D → Option D := gI cDiv fun i j => .int (i / j)
def gPow : D → D → Option D := gI cPow fun i j => .int (i ^ j.toNat)
theorem mul_c {i j : Int} (h : cMul i j = true) : (CMul i j) ∨ CMulW i j := by
  unfold cMul at h
  simp only [Bool.or_eq_true, Bool.and_eq_true, decide_eq_true_eq] at h
  rcases h with h | h | h
  · exact .inl (.inl h)
  · exact .inl (.inr h)
  · exact .inr h
theorem op_mulA : OpR X (binaryOp .Mult) (rI (fun i j => CMul i j ∨ CMulW i j) fun i j => .int (i * j)) := by
  intro pins s σ H x y v u Q I rx ry h
  obtain ⟨i, j, e1, e2, c, q⟩ := h
  rcases c with c | c
  · exact op_mul pins s σ H x y v u Q I rx ry ⟨i, j, e1, e2, c, q⟩
  · exact op_mulW pins s σ H x y v u Q I rx ry ⟨i, j, e1, e2, c, q⟩
theorem de_sub (ha : DE X W a fa) (hb : DE X W b fb) : DE X W (.BinOp a .Sub b pos) (fop gSub fa fb) := de_op op_sub (pure_I0 rep_int) ha hb
theorem de_addI (ha : DE X W a fa) (hb : DE X W b fb) : DE X W (.BinOp a .Add b pos) (fop gAddI fa fb) := de_op op_add (pure_I0 rep_int) ha hb
theorem de_mul (ha : DE X W a fa) (hb : DE X W b fb) : DE X W (.BinOp a .Mult b pos) (fop gMulI fa fb) := de_op op_mulA (pure_I (fun i j h => mul_c h) rep_int) ha hb
theorem de_mod (ha : DE X W a fa) (hb : DE X W b fb) : DE X W (.BinOp a .Mod b pos) (fop gMod fa fb) := de_op op_mod (pure_I (fun i j h => of_decide_eq_true h) rep_int) ha hb
theorem de_div (ha : DE X W a fa) (hb : DE X W b fb) : DE X W (.BinOp a .FloorDiv b pos) (fop gDiv fa fb) := de_op op_fdivW (pure_I (fun i j h => by
  unfold cDiv at h
  simp only [Bool.and_eq_true, decide_eq_true_eq] at h
  exact h) rep_int) ha hb
theorem de_pow (ha : DE X W a fa) (hb : DE X W b fb) : DE X W (.BinOp a .Pow b pos) (fop gPow fa fb) := de_op op_pow (pure_I (fun i j h => by
  unfold cPow at h
  simp only [Bool.and_eq_true, decide_eq_true_eq] at h
  exact h) rep_int) ha hb
def gNeg : D → Option D
  | .int i => some (.int (-i))
  | _ => none
theorem de_neg (ha : DE X W a fa) : DE X W (.UnaryOp .USub a pos) (fun1 gNeg fa) := de_un un_neg (fun {B H x z v} Q bh e rv q => by
  unfold gNeg at e
  split at e
  · cases e
    exact ⟨_, rep_int.mp rv, q B H (Ext.refl bh) _ (rep_int.mpr rfl)⟩
  · cases e) ha
theorem de_lt (ha : DE X W a fa) (hb : DE X W b fb) : DE X W (.Compare a [.Lt] [b] pos) (fop gLt fa fb) := de_cmp op_lt pure_lt ha hb (nomark _)
theorem de_le (ha : DE X W a fa) (hb : DE X W b fb) : DE X W (.Compare a [.LtE] [b] pos) (fop gLe fa fb) := de_cmp op_le pure_le ha hb (nomark _)
theorem de_gt (ha : DE X W a fa) (hb : DE X W b fb) : DE X W (.Compare a [.Gt] [b] pos) (fop gGt fa fb) := de_cmp op_gt pure_gt ha hb (nomark _)
theorem de_ge (ha : DE X W a fa) (hb : DE X W b fb) : DE X W (.Compare a [.GtE] [b] pos) (fop gGe fa fb) := de_cmp op_ge pure_ge ha hb (nomark _)

/-! ### == of data -/
mutual
def toPy : D → Option PyData
  | .non => some .none
  | .bl b => some (.bool b)
  | .int i => some (.int i)
  | .str x => some (.str x)
  | .tup ds => (toPys ds).map .tuple
  | .lst ds => (toPys ds).map .list
  | .obj _ _ _ => none
  | .dct _ _ => none
  | .ref _ => none
def toPys : List D → Option (List PyData)
  | [] => some []
  | d :: ds => (toPy d).bind fun p => (toPys ds).map fun ps => p :: ps
end
mutual
theorem Rep.dp {K : PySem.W.Frag} {B : Hp} : ∀ {d : D} {p : PyData} {v : V}, toPy d = some p → Rep K B d v → Dp K B v p
  | .non, _, _, h, r => by rw [toPy] at h; cases h; rw [rep_non.mp r]; exact .non
  | .bl b, _, _, h, r => by rw [toPy] at h; cases h; rw [rep_bl.mp r]; exact .bl b
  | .int i, _, _, h, r => by rw [toPy] at h; cases h; rw [rep_int.mp r]; exact .int i
  | .str x, _, _, h, r => by rw [toPy] at h; cases h; rw [rep_str.mp r]; exact .str x
  | .tup ds, _, _, h, r => by
    rw [toPy] at h
    obtain ⟨ps, e, rfl⟩ := Option.map_eq_some_iff.mp h
    obtain ⟨a, vs, rfl, q, rs⟩ := rep_tup.mp r
    exact .tup q (Reps.dp e rs)
  | .lst ds, _, _, h, r => by
    rw [toPy] at h
    obtain ⟨ps, e, rfl⟩ := Option.map_eq_some_iff.mp h
    obtain ⟨a, vs, rfl, q, rs⟩ := rep_lst.mp r
    exact .lst q (Reps.dp e rs)
  | .obj _ _ _, _, _, h, _ => by rw [toPy] at h; cases h
  | .dct _ _, _, _, h, _ => by rw [toPy] at h; cases h
  | .ref _, _, _, h, _ => by rw [toPy] at h; cases h
theorem Reps.dp {K : PySem.W.Frag} {B : Hp} : ∀ {ds : List D} {ps : List PyData} {vs : List V}, toPys ds = some ps → Reps K B ds vs → DpAll K B vs ps
  | [], _, _, h, r => by rw [toPys] at h; cases h; rw [reps_nil.mp r]; exact .nil
  | d :: ds, _, _, h, r => by
    rw [toPys] at h
    obtain ⟨p, e1, h⟩ := Option.bind_eq_some_iff.mp h
    obtain ⟨ps, e2, rfl⟩ := Option.map_eq_some_iff.mp h
    obtain ⟨v, vs, rfl, r1, r2⟩ := reps_cons.mp r
    exact .cons (Rep.dp e1 r1) (Reps.dp e2 r2)
end
mutual
theorem Dp.mono {K : PySem.W.Frag} {B H : Hp} (e : Same B H) : ∀ {p : PyData} {v : V}, Dp K B v p → Dp K H v p
  | .none, _, h => by cases h; exact .non
  | .bool b, _, h => by cases h; exact .bl b
  | .int i, _, h => by cases h; exact .int i
  | .str x, _, h => by cases h; exact .str x
  | .list ds, _, h => by
    cases h with
    | lst q r => exact .lst (e.seq q) (DpAll.mono e r)
  | .tuple ds, _, h => by
    cases h with
    | tup q r => exact .tup (seqT e q) (DpAll.mono e r)
  | .dict _, _, h => by cases h
theorem DpAll.mono {K : PySem.W.Frag} {B H : Hp} (e : Same B H) : ∀ {ps : List PyData} {vs : List V}, DpAll K B vs ps → DpAll K H vs ps
  | [], _, h => by cases h; exact .nil
  | p :: ps, _, h => by
    cases h with
    | cons q r => exact .cons (Dp.mono e q) (DpAll.mono e r)
end
def eqD (x y : D) : Option Bool :=
  match toPy x, toPy y with
  | some p, some q => if (SeqAt.shaped p && SeqAt.shaped q) = true then some (PyData.eqv p q) else none
  | _, _ => none
def gEq (x y : D) : Option D := (eqD x y).map .bl
def gNe (x y : D) : Option D := (eqD x y).map fun b => .bl (!b)
theorem eqD_inv {x y : D} {b : Bool} (h : eqD x y = some b) : ∃ p q, toPy x = some p ∧ toPy y = some q ∧ SeqAt.shaped p = true ∧ SeqAt.shaped q = true ∧ PyData.eqv p q = b := by
  unfold eqD at h
  split at h
  · split at h
    · rename_i c
      cases h
      rw [Bool.and_eq_true] at c
      exact ⟨_, _, by assumption, by assumption, c.1, c.2, rfl⟩
    · cases h
  · cases h
theorem de_eq (hu : X.A.units + 64 < cLine) (ha : DE X W a fa) (hb : DE X W b fb) : DE X W (.Compare a [.Eq] [b] pos) (fop gEq fa fb) := de_cmp (op_eqD hu) (fun {B H x y z v u} Q bh e rv ru q => by
  obtain ⟨k, e1, rfl⟩ := Option.map_eq_some_iff.mp e
  obtain ⟨p, p', h1, h2, s1, s2, rfl⟩ := eqD_inv e1
  exact ⟨p, p', Dp.mono bh (rv.dp h1), Dp.mono bh (ru.dp h2), s1, s2, q B H (Ext.refl bh) _ (rep_bl.mpr rfl)⟩) ha hb (nomark _)
theorem de_ne (hu : X.A.units + 64 < cLine) (ha : DE X W a fa) (hb : DE X W b fb) : DE X W (.Compare a [.NotEq] [b] pos) (fop gNe fa fb) := de_cmp (op_neD hu) (fun {B H x y z v u} Q bh e rv ru q => by
  obtain ⟨k, e1, rfl⟩ := Option.map_eq_some_iff.mp e
  obtain ⟨p, p', h1, h2, s1, s2, rfl⟩ := eqD_inv e1
  exact ⟨p, p', Dp.mono bh (rv.dp h1), Dp.mono bh (ru.dp h2), s1, s2, q B H (Ext.refl bh) _ (rep_bl.mpr rfl)⟩) ha hb (nomark _)
/-- is None, is not None -/
def isNon : D → Bool
  | .non => true
  | _ => false
def gIsN (x y : D) : Option D := if isNon y = true then some (.bl (isNon x)) else none
def gNotN (x y : D) : Option D := if isNon y = true then some (.bl (!isNon x)) else none
theorem isNon_v {K : PySem.W.Frag} {B : Hp} {x : D} {v : V} (r : Rep K B x v) : decide (v = .non) = isNon x := by
  cases x with
  | non => rw [rep_non.mp r]; rfl
  | bl b => rw [rep_bl.mp r]; rfl
  | int b => rw [rep_int.mp r]; rfl
  | str b => rw [rep_str.mp r]; rfl
  | tup b => obtain ⟨_, _, rfl, _⟩ := rep_tup.mp r; rfl
  | lst b => obtain ⟨_, _, rfl, _⟩ := rep_lst.mp r; rfl
  | obj _ _ b => obtain ⟨_, _, _, rfl, _⟩ := rep_obj.mp r; rfl
  | dct _ b => obtain ⟨_, _, rfl, _⟩ := rep_dct.mp r; rfl
  | ref _ => rw [rep_ref.mp r]; rfl
theorem isNon_eq {y : D} (h : isNon y = true) : y = .non := by
  cases y <;> first | rfl | cases h
theorem de_isN (ha : DE X W a fa) (hb : DE X W b fb) : DE X W (.Compare a [.Is] [b] pos) (fop gIsN fa fb) := de_cmp op_isN (fun {B H x y z v u} Q bh e rv ru q => by
  unfold gIsN at e
  split at e
  · rename_i c
    have ey := isNon_eq c
    subst ey
    cases e
    exact ⟨rep_non.mp ru, q B H (Ext.refl bh) _ (rep_bl.mpr (by rw [isNon_v rv]))⟩
  · cases e) ha hb (nomark _)
theorem de_notN (ha : DE X W a fa) (hb : DE X W b fb) : DE X W (.Compare a [.IsNot] [b] pos) (fop gNotN fa fb) := de_cmp op_notN (fun {B H x y z v u} Q bh e rv ru q => by
  unfold gNotN at e
  split at e
  · rename_i c
    have ey := isNon_eq c
    subst ey
    cases e
    exact ⟨rep_non.mp ru, q B H (Ext.refl bh) _ (rep_bl.mpr (by rw [isNon_v rv]))⟩
  · cases e) ha hb (nomark _)
/-! ### in, not in: flat things in a list or tuple -/
def flatD : D → Bool
  | .non => true
  | .bl _ => true
  | .int _ => true
  | .str _ => true
  | _ => false
def eqF : D → D → Bool
  | .non, .non => true
  | .bl a, .bl b => a == b
  | .bl a, .int b => (if a then 1 else 0) == b
  | .int a, .bl b => a == (if b then 1 else 0)
  | .int a, .int b => a == b
  | .str a, .str b => a == b
  | _, _ => false
def seqOf : D → Option (List D)
  | .tup xs => some xs
  | .lst xs => some xs
  | _ => none
def inD (x y : D) : Option Bool := (seqOf y).bind fun xs => if (flatD x && xs.all flatD) = true then some (xs.any fun y => eqF y x) else none
def gIn (x y : D) : Option D := (inD x y).map .bl
def gNotIn (x y : D) : Option D := (inD x y).map fun b => .bl (!b)
theorem flat_v {K : PySem.W.Frag} {B : Hp} {x : D} {v : V} (r : Rep K B x v) (h : flatD x = true) : flatV v = true := by
  cases x with
  | non => rw [rep_non.mp r]; rfl
  | bl b => rw [rep_bl.mp r]; rfl
  | int b => rw [rep_int.mp r]; rfl
  | str b => rw [rep_str.mp r]; rfl
  | _ => cases h
theorem eqF_v {K : PySem.W.Frag} {B : Hp} {x y : D} {v u : V} (r : Rep K B x v) (q : Rep K B y u) (h : flatD x = true) (h2 : flatD y = true) : eqV v u = eqF x y := by
  cases x <;> first | (cases h; done) | skip
  all_goals (cases y <;> first | (cases h2; done) | skip)
  all_goals (first | rw [rep_non.mp r] | rw [rep_bl.mp r] | rw [rep_int.mp r] | rw [rep_str.mp r])
  all_goals (first | rw [rep_non.mp q] | rw [rep_bl.mp q] | rw [rep_int.mp q] | rw [rep_str.mp q])
  all_goals rfl
theorem all_v {K : PySem.W.Frag} {B : Hp} : ∀ {xs : List D} {vs : List V}, Reps K B xs vs → xs.all flatD = true → vs.all flatV = true
  | [], _, r, _ => by rw [reps_nil.mp r]; rfl
  | x :: xs, _, r, h => by
    obtain ⟨v, vs, rfl, r1, r2⟩ := reps_cons.mp r
    rw [List.all_cons, Bool.and_eq_true] at h
    rw [List.all_cons, flat_v r1 h.1, all_v r2 h.2]
    rfl
theorem any_v {K : PySem.W.Frag} {B : Hp} {x : D} {v : V} (rx : Rep K B x v) (hx : flatD x = true) : ∀ {xs : List D} {vs : List V}, Reps K B xs vs → xs.all flatD = true → inV v vs = xs.any fun y => eqF y x
  | [], _, r, _ => by rw [reps_nil.mp r]; rfl
  | y :: xs, _, r, h => by
    obtain ⟨u, vs, rfl, r1, r2⟩ := reps_cons.mp r
    rw [List.all_cons, Bool.and_eq_true] at h
    have ih := any_v rx hx r2 h.2
    unfold inV at ih ⊢
    rw [List.any_cons, List.any_cons, eqF_v r1 rx h.1 hx, ih]
theorem seqOf_rep {K : PySem.W.Frag} {B : Hp} {y : D} {ys : List D} {u : V} (h : seqOf y = some ys) (r : Rep K B y u) : ∃ p vs, u = .ref p ∧ (SqL K B p vs ∨ SqT K B p vs) ∧ Reps K B ys vs := by
  cases y with
  | tup xs =>
    cases h
    obtain ⟨a, vs, rfl, q, rs⟩ := rep_tup.mp r
    exact ⟨a, vs, rfl, .inr q, rs⟩
  | lst xs =>
    cases h
    obtain ⟨a, vs, rfl, q, rs⟩ := rep_lst.mp r
    exact ⟨a, vs, rfl, .inl q, rs⟩
  | _ => cases h
theorem inD_rep {K : PySem.W.Frag} {B H : Hp} {x y : D} {v u : V} {b : Bool} (bh : Same B H) (h : inD x y = some b) (rv : Rep K B x v) (ru : Rep K B y u) :
    ∃ p xs, u = .ref p ∧ (SqL K H p xs ∨ SqT K H p xs) ∧ flatV v = true ∧ xs.all flatV = true ∧ inV v xs = b := by
  obtain ⟨ys, e1, e2⟩ := Option.bind_eq_some_iff.mp h
  split at e2
  · rename_i c
    cases e2
    rw [Bool.and_eq_true] at c
    obtain ⟨p, vs, rfl, q, rs⟩ := seqOf_rep e1 ru
    exact ⟨p, vs, rfl, q.imp bh.seq (seqT bh), flat_v rv c.1, all_v rs c.2, any_v rv c.1 rs c.2⟩
  · cases e2
theorem de_in (ha : DE X W a fa) (hb : DE X W b fb) (hm : behindInMarks .In b = false := by rfl) : DE X W (.Compare a [.In] [b] pos) (fop gIn fa fb) := de_cmp op_in_seq (fun {B H x y z v u} Q bh e rv ru q => by
  obtain ⟨k, e1, rfl⟩ := Option.map_eq_some_iff.mp e
  obtain ⟨p, xs, rfl, h1, h2, h3, rfl⟩ := inD_rep bh e1 rv ru
  exact ⟨p, xs, rfl, h1, h2, h3, q B H (Ext.refl bh) _ (rep_bl.mpr rfl)⟩) ha hb hm
theorem de_notIn (ha : DE X W a fa) (hb : DE X W b fb) (hm : behindInMarks .NotIn b = false := by rfl) : DE X W (.Compare a [.NotIn] [b] pos) (fop gNotIn fa fb) := de_cmp op_notIn_seq (fun {B H x y z v u} Q bh e rv ru q => by
  obtain ⟨k, e1, rfl⟩ := Option.map_eq_some_iff.mp e
  obtain ⟨p, xs, rfl, h1, h2, h3, rfl⟩ := inD_rep bh e1 rv ru
  exact ⟨p, xs, rfl, h1, h2, h3, q B H (Ext.refl bh) _ (rep_bl.mpr rfl)⟩) ha hb hm

/-! ### a < b < c -/
def fChain (g g' : D → D → Option D) (fa fb fc : PS1 → Option (R D)) : PS1 → Option (R D) := fun s => bnd (fa s) fun x => bnd (fb s) fun y => bnd (lft (g x y)) fun k =>
  match k with
  | .bl true => bnd (fc s) fun z => lft (g' y z)
  | .bl false => some (.ok (.bl false))
  | _ => none
theorem chain_imp {K : PySem.W.Frag} {r r' : R2} {g g' : D → D → Option D} (hp : Pure2 K r g) (hp' : Pure2 K r' g') {σ : L2.St} {H : Hp} {Q : VK} (h : tD K W (fChain g g' fa fb fc) σ H Q) : tChain r r' (tD K W fa) (tD K W fb) (tD K W fc) σ H Q := by
  obtain ⟨B, h⟩ := h
  refine ⟨B, (Run.bind h).imp fun x B1 H1 e1 h1 v rv => ⟨B1, (Run.bind h1).imp fun y B2 H2 e2 h2 u ru => ?_⟩⟩
  have h3 := Run.bind h2
  obtain ⟨k, hk, q⟩ := Run.lifted h3
  refine hp _ h2.same hk (rv.mono e2.b) ru fun B3 H3 e3 w rw => ?_
  have h4 := q B3 H3 e3
  cases k with
  | bl k =>
    refine ⟨k, rep_bl.mp rw, ?_⟩
    cases k with
    | true =>
      (try unfold RB); (try dsimp only); rw [if_pos rfl]
      refine ⟨B3, (Run.bind h4).imp fun z B4 H4 e4 h5 t rt => ?_⟩
      obtain ⟨z', hz, q'⟩ := Run.lifted h5
      exact hp' Q h5.same hz ((ru.mono e3.b).mono e4.b) rt q'
    | false =>
      (try unfold RB); (try dsimp only); rw [if_neg Bool.false_ne_true]
      exact Run.now h4 _ (rep_bl.mpr rfl)
  | _ => obtain ⟨_, _, _, _, hf, _⟩ := h4; cases hf

theorem de_chain {c : Expr} {op op' : CmpOp} {r r' : R2} {g g' : D → D → Option D} (ho : OpR X (compareOp op) r) (ho' : OpR X (compareOp op') r') (hp : Pure2 X.K r g) (hp' : Pure2 X.K r' g') (ha : DE X W a fa) (hb : DE X W b fb) (hc : DE X W c fc)
    (hm2 : lastMarks [op, op'] [b, c] = false := by with_unfolding_all rfl) : DE X W (.Compare a [op, op'] [b, c] pos) (fChain g g' fa fb fc) := PE.imp (pe_chain ho ho' ha hb hc hm2) fun σ H Q h => chain_imp hp hp' h

/-! ### tests -/
def truD : D → Option Bool
  | .non => some false
  | .bl b => some b
  | .int i => some (i != 0)
  | .str x => if x.length ≤ 100000 then some ((x.length : Int) != 0) else none
  | .tup xs => some (!xs.isEmpty)
  | .lst xs => some (!xs.isEmpty)
  | .obj _ _ _ => none
  | .dct _ _ => none
  | .ref _ => none
def fTr (fa : PS1 → Option (R D)) : PS1 → Option (R Bool) := fun s => bnd (fa s) fun x => lft (truD x)
def blOf : D → Option Bool
  | .bl b => some b
  | _ => none
def fBl (fa : PS1 → Option (R D)) : PS1 → Option (R Bool) := fun s => bnd (fa s) fun x => lft (blOf x)
theorem blOf_inv {x : D} {b : Bool} (h : blOf x = some b) : x = .bl b := by
  cases x <;> cases h
  rfl
/-- a True or False as a test -/
theorem dt_val (ha : DE X W a fa) (h : PT X a (tB (tD X.K W fa))) : DT X W a (fBl fa) := by
  refine PT.imp h fun σ H Q h => ?_
  obtain ⟨B, h⟩ := h
  refine ⟨B, (Run.bind h).imp fun x B1 H1 e1 h1 v rv => ?_⟩
  obtain ⟨b, hb, q⟩ := Run.lifted h1
  have ex := blOf_inv hb
  subst ex
  exact ⟨b, rep_bl.mp rv, q B1 H1 (Ext.refl h1.same)⟩
theorem dt_cmp {op : CmpOp} {r : R2} {g : D → D → Option D} (ho : OpR X (compareOp op) r) (hp : Pure2 X.K r g) (ha : DE X W a fa) (hb : DE X W b fb) (hm : behindInMarks op b = false) : DT X W (.Compare a [op] [b] pos) (fBl (fop g fa fb)) := by
  refine PT.imp (pt_cmpR ho ha hb hm) fun σ H Q h => ?_
  obtain ⟨B, h⟩ := h
  show tOp r (tD X.K W fa) (tD X.K W fb) σ H _
  refine tD_op hp ⟨B, (Run.bind h).imp fun x B1 H1 e1 h1 v rv => ?_⟩
  obtain ⟨b, hb, q⟩ := Run.lifted h1
  have ex := blOf_inv hb
  subst ex
  exact ⟨b, rep_bl.mp rv, q B1 H1 (Ext.refl h1.same)⟩
theorem dt_truth (ha : DE X W a fa) (he : ∀ whole, isTrue a X.env whole = (do let v ← whole; standAt a.pos; holding [v] (truthy v))) : DT X W a (fTr fa) := by
  refine PT.imp (pt_truth ha he) fun σ H Q h => ?_
  obtain ⟨B, h⟩ := h
  refine ⟨B, (Run.bind h).imp fun x B1 H1 e1 h1 v rv => ?_⟩
  obtain ⟨b, hb, q⟩ := Run.lifted h1
  refine ⟨b, ?_, q B1 H1 (Ext.refl h1.same)⟩
  have bh := h1.same
  cases x with
  | non => cases hb; rw [rep_non.mp rv]; rfl
  | bl k => cases hb; rw [rep_bl.mp rv]; rfl
  | int i => cases hb; rw [rep_int.mp rv]; rfl
  | str x =>
    rw [rep_str.mp rv]
    have hb : (if x.length ≤ 100000 then some ((x.length : Int) != 0) else none) = some b := hb
    split at hb
    · cases hb
      exact ⟨Nat.le_trans (by assumption) (by decide), rfl⟩
    · cases hb
  | tup xs =>
    cases hb
    obtain ⟨p, vs, rfl, q, rs⟩ := rep_tup.mp rv
    refine .inr (.inl ⟨vs, seqT bh q, ?_⟩)
    have := rs.length
    cases vs <;> cases xs <;> first | rfl | (simp at this)
  | lst xs =>
    cases hb
    obtain ⟨p, vs, rfl, q, rs⟩ := rep_lst.mp rv
    refine .inl ⟨vs, bh.seq q, ?_⟩
    have := rs.length
    cases vs <;> cases xs <;> first | rfl | (simp at this)
  | obj _ _ _ => cases hb
  | dct _ _ => cases hb
  | ref _ => cases hb
def fNot (ft : PS1 → Option (R Bool)) : PS1 → Option (R Bool) := fun s => bnd (ft s) fun b => some (.ok (!b))
theorem dt_not (ha : DT X W a ft) : DT X W (.UnaryOp .Not a pos) (fNot ft) := by
  refine PT.imp (pt_not ha) fun σ H Q h => ?_
  obtain ⟨B, h⟩ := h
  exact ⟨B, (Run.bind h).imp fun x B1 H1 e1 h1 => Run.now (P := RB Q) h1⟩
def fAndB (ft fu : PS1 → Option (R Bool)) : PS1 → Option (R Bool) := fun s => bnd (ft s) fun b => match b with
  | true => fu s
  | false => some (.ok false)
def fOrB (ft fu : PS1 → Option (R Bool)) : PS1 → Option (R Bool) := fun s => bnd (ft s) fun b => match b with
  | true => some (.ok true)
  | false => fu s
theorem dw_and1 (h : DT X W a ft) : DW X W (.BoolOp .And [a] pos) ft := pw_and1 h
theorem dw_or1 (h : DT X W a ft) : DW X W (.BoolOp .Or [a] pos) ft := pw_or1 h
theorem dw_and {rest : List Expr} (h : DT X W a ft) (h2 : DW X W (.BoolOp .And (b :: rest) pos) fu) : DW X W (.BoolOp .And (a :: b :: rest) pos) (fAndB ft fu) := by
  refine PW.imp (pw_and h h2) fun σ H Q h => ?_
  obtain ⟨B, h⟩ := h
  refine ⟨B, (Run.bind h).imp fun x B1 H1 e1 h1 => ?_⟩
  cases x with
  | true =>
    (try unfold RB); (try dsimp only); rw [if_pos rfl]
    exact ⟨B1, h1⟩
  | false =>
    (try unfold RB); (try dsimp only); rw [if_neg Bool.false_ne_true]
    exact Run.now (P := RB Q) h1
theorem dw_or {rest : List Expr} (h : DT X W a ft) (h2 : DW X W (.BoolOp .Or (b :: rest) pos) fu) : DW X W (.BoolOp .Or (a :: b :: rest) pos) (fOrB ft fu) := by
  refine PW.imp (pw_or h h2) fun σ H Q h => ?_
  obtain ⟨B, h⟩ := h
  refine ⟨B, (Run.bind h).imp fun x B1 H1 e1 h1 => ?_⟩
  cases x with
  | true =>
    (try unfold RB); (try dsimp only); rw [if_pos rfl]
    exact Run.now (P := RB Q) h1
  | false =>
    (try unfold RB); (try dsimp only); rw [if_neg Bool.false_ne_true]
    exact ⟨B1, h1⟩
theorem dw_pt (h : DW X W a ft) : DT X W a ft := h.pt
/-- and, or, not as values: Trues and Falses -/
def fAndV (fa fb : PS1 → Option (R D)) : PS1 → Option (R D) := fun s => bnd (fa s) fun x => match x with
  | .bl true => fb s
  | .bl false => some (.ok (.bl false))
  | _ => none
def fOrV (fa fb : PS1 → Option (R D)) : PS1 → Option (R D) := fun s => bnd (fa s) fun x => match x with
  | .bl true => some (.ok (.bl true))
  | .bl false => fb s
  | _ => none
theorem de_one {op} (h : DE X W a fa) : DE X W (.BoolOp op [a] pos) fa := pe_one h
theorem de_and {rest : List Expr} (h : DE X W a fa) (h2 : DE X W (.BoolOp .And (b :: rest) pos) fb) : DE X W (.BoolOp .And (a :: b :: rest) pos) (fAndV fa fb) := by
  refine PE.imp (pe_and h h2) fun σ H Q h => ?_
  obtain ⟨B, h⟩ := h
  refine ⟨B, (Run.bind h).imp fun x B1 H1 e1 h1 v rv => ?_⟩
  cases x with
  | bl k =>
    refine ⟨k, rep_bl.mp rv, ?_⟩
    cases k with
    | true =>
    (try unfold RB); (try dsimp only); rw [if_pos rfl]
    exact ⟨B1, h1⟩
    | false =>
      (try unfold RB); (try dsimp only); rw [if_neg Bool.false_ne_true]
      exact Run.now (P := RV X.K Q) h1 _ (rep_bl.mpr rfl)
  | _ => obtain ⟨_, _, _, _, hf, _⟩ := h1; cases hf
theorem de_or {rest : List Expr} (h : DE X W a fa) (h2 : DE X W (.BoolOp .Or (b :: rest) pos) fb) : DE X W (.BoolOp .Or (a :: b :: rest) pos) (fOrV fa fb) := by
  refine PE.imp (pe_or h h2) fun σ H Q h => ?_
  obtain ⟨B, h⟩ := h
  refine ⟨B, (Run.bind h).imp fun x B1 H1 e1 h1 v rv => ?_⟩
  cases x with
  | bl k =>
    refine ⟨k, rep_bl.mp rv, ?_⟩
    cases k with
    | true =>
      (try unfold RB); (try dsimp only); rw [if_pos rfl]
      exact Run.now (P := RV X.K Q) h1 _ (rep_bl.mpr rfl)
    | false =>
    (try unfold RB); (try dsimp only); rw [if_neg Bool.false_ne_true]
    exact ⟨B1, h1⟩
  | _ => obtain ⟨_, _, _, _, hf, _⟩ := h1; cases hf
def fNotV (fa : PS1 → Option (R D)) : PS1 → Option (R D) := fun s => bnd (fa s) fun x => match x with
  | .bl k => some (.ok (.bl (!k)))
  | _ => none
theorem de_not (h : DE X W a fa) : DE X W (.UnaryOp .Not a pos) (fNotV fa) := by
  refine PE.imp (pe_not h) fun σ H Q h => ?_
  obtain ⟨B, h⟩ := h
  refine ⟨B, (Run.bind h).imp fun x B1 H1 e1 h1 v rv => ?_⟩
  cases x with
  | bl k => exact ⟨k, rep_bl.mp rv, Run.now (P := RV X.K Q) h1 _ (rep_bl.mpr rfl)⟩
  | _ => obtain ⟨_, _, _, _, hf, _⟩ := h1; cases hf
def fIf {α : Type} (ft : PS1 → Option (R Bool)) (fa fb : PS1 → Option (R α)) : PS1 → Option (R α) := fun s => bnd (ft s) fun b => match b with
  | true => fa s
  | false => fb s
theorem de_if {c : Expr} (hc : DT X W c ft) (ha : DE X W a fa) (hb : DE X W b fb) : DE X W (.IfExp c a b pos) (fIf ft fa fb) := by
  refine PE.imp (pe_ifExp hc ha hb) fun σ H Q h => ?_
  obtain ⟨B, h⟩ := h
  refine ⟨B, (Run.bind h).imp fun x B1 H1 e1 h1 => ?_⟩
  cases x with
  | true =>
    (try unfold RB); (try dsimp only); rw [if_pos rfl]
    exact ⟨B1, h1⟩
  | false =>
    (try unfold RB); (try dsimp only); rw [if_neg Bool.false_ne_true]
    exact ⟨B1, h1⟩

/-! ### argument lists, displays -/
def fNil : PS1 → Option (R (List D)) := fun _ => some (.ok [])
def fCons (fa : PS1 → Option (R D)) (fr : PS1 → Option (R (List D))) : PS1 → Option (R (List D)) := fun s => bnd (fa s) fun x => bnd (fr s) fun xs => some (.ok (x :: xs))
variable {es : List Expr} {fr : PS1 → Option (R (List D))} {kws : List Keyword}
theorem nil_imp {K : PySem.W.Frag} {σ : L2.St} {H : Hp} {Q : List V → Hp → Prop} (h : tDs K W fNil σ H Q) : tNil σ H Q := by
  obtain ⟨B, h⟩ := h
  exact Run.now h _ (reps_nil.mpr rfl)
theorem cons_imp {K : PySem.W.Frag} {σ : L2.St} {H : Hp} {Q : List V → Hp → Prop} (h : tDs K W (fCons fa fr) σ H Q) : tCons (tD K W fa) (tDs K W fr) σ H Q := by
  obtain ⟨B, h⟩ := h
  refine ⟨B, (Run.bind h).imp fun x B1 H1 e1 h1 v rv => ⟨B1, (Run.bind h1).imp fun xs B2 H2 e2 h2 vs rs => ?_⟩⟩
  exact Run.now h2 _ (Reps.cons (rv.mono e2.b) rs)
theorem da_nil : DA X W [] fNil := PA.imp pa_nil fun _ _ _ h => nil_imp h
theorem da_cons (ha : DE X W e fa) (hr : DA X W es fr) (hs : starEach (e :: es) X.env = (false, eval e X.env) :: starEach es X.env := by rfl) : DA X W (e :: es) (fCons fa fr) := PA.imp (pa_cons ha hr hs) fun _ _ _ h => cons_imp h
theorem dk_nil : DK X W [] fNil := PK.imp pk_nil fun _ _ _ h => nil_imp h
theorem dk_cons {nm : Option Str} {kpos : Pos} (ha : DE X W e fa) (hr : DK X W kws fr) : DK X W (⟨nm, e, kpos⟩ :: kws) (fCons fa fr) := PK.imp (pk_cons ha hr) fun _ _ _ h => cons_imp h
/-- new lists -/
def szOk (xs : List D) : Option (List D) := if xs.length ≤ 100000 then some xs else none
theorem szOk_inv {xs ys : List D} (h : szOk xs = some ys) : xs.length ≤ sizeLine ∧ ys = xs := by
  unfold szOk at h
  split at h
  · cases h
    exact ⟨Nat.le_trans (by assumption) (by decide), rfl⟩
  · cases h
def fSz (fr : PS1 → Option (R (List D))) : PS1 → Option (R (List D)) := fun s => bnd (fr s) fun xs => lft (szOk xs)
def fTup (fr : PS1 → Option (R (List D))) : PS1 → Option (R D) := fun s => bnd (fr s) fun xs => bnd (lft (szOk xs)) fun xs => some (.ok (.tup xs))
theorem de_tup {x1} (h : DA X W es fr) : DE X W (.Tuple es x1 pos) (fTup fr) := by
  refine PE.imp (pe_tup h) fun σ H Q h => ?_
  obtain ⟨B, h⟩ := h
  refine ⟨B, (Run.bind h).imp fun xs B1 H1 e1 h1 vs rs => ?_⟩
  obtain ⟨ys, hy, q⟩ := Run.lifted (Run.bind h1)
  obtain ⟨hl, rfl⟩ := szOk_inv hy
  refine ⟨by rw [rs.length]; exact hl, fun p hp => ?_⟩
  have E := Ext.laid (o := .tup vs) h1.same hp
  exact Run.now (q _ _ E) _ (rep_tup.mpr ⟨p, vs, rfl, SqT.of upd_same, rs.mono E.b⟩)
theorem dn_lst (h : DA X W es fr) : DN X W (.List es pos) (fSz fr) := by
  refine PE.imp (pe_lst h) fun σ H Q h => ?_
  obtain ⟨B, h⟩ := h
  refine ⟨B, (Run.bind h).imp fun xs B1 H1 e1 h1 vs rs => ?_⟩
  obtain ⟨ys, hy, q⟩ := Run.lifted h1
  obtain ⟨hl, rfl⟩ := szOk_inv hy
  refine ⟨by rw [rs.length]; exact hl, fun p hp => ?_⟩
  exact q _ _ (Ext.own h1.same hp) p vs (e1.h.free hp) (h1.same.free hp) upd_same rs
def fLst (fr : PS1 → Option (R (List D))) : PS1 → Option (R D) := fun s => bnd (fr s) fun xs => some (.ok (.lst xs))
/-- a new list as a value -/
theorem lst_imp {K : PySem.W.Frag} {σ : L2.St} {H : Hp} {Q : VK} (h : tD K W (fLst fr) σ H Q) : tDN K W fr σ H Q := by
  obtain ⟨B, h⟩ := h
  refine ⟨B, (Run.map h).imp fun xs B1 H1 e1 h1 p vs hp hb hv rs => ?_⟩
  have E : Ext B H (upd B1 p (.lst vs)) H1 := Ext.adopt e1 hp hb hv
  exact h1 _ _ E _ (rep_lst.mpr ⟨p, vs, rfl, SqL.of upd_same, rs.mono (same_upd hb)⟩)
theorem DN.de (h : DN X W e fr) : DE X W e (fLst fr) := PE.imp h fun σ H Q h => lst_imp h
end
end FL

namespace FL
open PySem PySem.Spec PyProof.Rows L2

/-! ### statements -/
inductive Fl where
  | nx (s : PS1) | rt (d : D) | bk (s : PS1) | ct (s : PS1) | er (x : Er) (s : PS1)
structure Good (K : PySem.W.Frag) (B0 H0 B H : Hp) (ad : Nat → Addr) (σ : L2.St) (s : PS1) : Prop where
  sl : Slots K B H ad σ s
  ex : Ext B0 H0 B H
  nw : ∀ i x, s[i]? = some x → x.isOwn = true → H0 (ad i) = none
def FlOk (K : PySem.W.Frag) (W : WX) (B0 H0 Bs : Hp) (D : Ends) : Fl → Prop
  | .nx s => ∀ σ H B ad, Same Bs B → Good K B0 H0 B H ad σ s → D.nx σ H
  | .bk s => ∀ σ H B ad, Same Bs B → Good K B0 H0 B H ad σ s → D.bk σ H
  | .ct s => ∀ σ H B ad, Same Bs B → Good K B0 H0 B H ad σ s → D.ct σ H
  | .rt d => ∀ v B H, Ext B0 H0 B H → Rep K B d v → D.rt v H
  | .er x s => ∀ cls dd σ H B ad, Same Bs B → Good K B0 H0 B H ad σ s → RepX K B x cls dd → W cls dd σ H
def tF (K : PySem.W.Frag) (W : WX) (f : PS1 → Option Fl) : TS := fun D σ H => ∃ B0 H0 B ad s r, Good K B0 H0 B H ad σ s ∧ f s = some r ∧ FlOk K W B0 H0 B D r
theorem FlOk.mono {K : PySem.W.Frag} {W : WX} {B0 H0 Bs Bt : Hp} {D : Ends} {r : Fl} (e : Same Bs Bt) (h : FlOk K W B0 H0 Bs D r) : FlOk K W B0 H0 Bt D r := by
  cases r with
  | nx s => exact fun σ H B ad x => h σ H B ad (e.trans x)
  | bk s => exact fun σ H B ad x => h σ H B ad (e.trans x)
  | ct s => exact fun σ H B ad x => h σ H B ad (e.trans x)
  | rt d => exact h
  | er x s => exact fun cls dd σ H B ad x => h cls dd σ H B ad (e.trans x)
abbrev DS (X : Cx) (W : WX) (st : Stmt) (f : PS1 → Option Fl) : Prop := PS X st (tF X.K W f)
abbrev DSs (X : Cx) (W : WX) (st : List Stmt) (f : PS1 → Option Fl) : Prop := PSs X st (tF X.K W f)
section
variable {K : PySem.W.Frag} {B0 H0 B H B' H' : Hp} {ad : Nat → Addr} {σ : L2.St} {s : PS1} {i : Nat} {W : WX}
theorem Good.mono (e : Ext B H B' H') (g : Good K B0 H0 B H ad σ s) : Good K B0 H0 B' H' ad σ s := ⟨g.sl.mono e, g.ex.trans e, g.nw⟩
/-- a name gets a value -/
theorem Good.setD {d : D} {v : V} (g : Good K B0 H0 B H ad σ s) (r : Rep K B d v) : Good K B0 H0 B H ad (σ.set i (some v)) (s.set i (.d d)) := by
  have old : ∀ j x, (s.set i (.d d))[j]? = some x → x.isOwn = true → j ≠ i ∧ s[j]? = some x := fun j x e o => by
    by_cases q : i = j
    · subst q
      rw [List.getElem?_set] at e
      rw [if_pos rfl] at e
      split at e
      · cases e
        cases o
      · cases e
    · rw [List.getElem?_set_ne q] at e
      exact ⟨fun z => q z.symm, e⟩
  refine ⟨⟨g.sl.bh, by rw [List.length_set, List.length_set]; exact g.sl.len, fun j x e => ?_, fun j k x y e1 e2 o1 o2 ea => ?_⟩, g.ex, fun j x e o => ?_⟩
  · by_cases q : i = j
    · subst q
      rw [List.getElem?_set, if_pos rfl] at e
      split at e
      · rename_i hl
        cases e
        exact ⟨v, by rw [List.getElem?_set, if_pos rfl, if_pos (by rw [g.sl.len]; exact hl)], r⟩
      · cases e
    · rw [List.getElem?_set_ne q] at e
      rw [List.getElem?_set_ne q]
      exact g.sl.ok j x e
  · exact g.sl.apart j k x y (old j x e1 o1).2 (old k y e2 o2).2 o1 o2 ea
  · exact g.nw j x (old j x e o).2 o
/-- a name gets a new object of its own -/
def adSet (ad : Nat → Addr) (i : Nat) (p : Addr) : Nat → Addr := fun j => if j = i then p else ad j
theorem Good.setOwn {x : Sl} {p : Addr} (g : Good K B0 H0 B H ad σ s) (hx : SlotOk K B H p (some (some (.ref p))) x) (hn : H0 p = none) (ha : ∀ j y, s[j]? = some y → y.isOwn = true → j ≠ i → ad j ≠ p) :
    Good K B0 H0 B H (adSet ad i p) (σ.set i (some (.ref p))) (s.set i x) := by
  have hi : adSet ad i p i = p := if_pos rfl
  have hj : ∀ {j}, j ≠ i → adSet ad i p j = ad j := fun h => if_neg h
  refine ⟨⟨g.sl.bh, by rw [List.length_set, List.length_set]; exact g.sl.len, fun j y e => ?_, fun j k y z e1 e2 o1 o2 ea => ?_⟩, g.ex, fun j y e o => ?_⟩
  · by_cases q : i = j
    · subst q
      rw [List.getElem?_set, if_pos rfl] at e
      split at e
      · rename_i hl
        cases e
        rw [List.getElem?_set, if_pos rfl, if_pos (by rw [g.sl.len]; exact hl), hi]
        exact hx
      · cases e
    · rw [List.getElem?_set_ne q] at e
      rw [List.getElem?_set_ne q, hj (fun z => q z.symm)]
      exact g.sl.ok j y e
  · by_cases q : i = j
    · by_cases q2 : i = k
      · rw [← q, ← q2]
      · subst q
        rw [hi, hj (fun z => q2 z.symm)] at ea
        rw [List.getElem?_set_ne q2] at e2
        exact absurd ea.symm (ha k z e2 o2 (fun z => q2 z.symm))
    · rw [List.getElem?_set_ne q] at e1
      by_cases q2 : i = k
      · subst q2
        rw [hi, hj (fun z => q z.symm)] at ea
        exact absurd ea (ha j y e1 o1 (fun z => q z.symm))
      · rw [List.getElem?_set_ne q2] at e2
        rw [hj (fun z => q z.symm), hj (fun z => q2 z.symm)] at ea
        exact g.sl.apart j k y z e1 e2 o1 o2 ea
  · by_cases q : i = j
    · subst q
      rw [hi]
      exact hn
    · rw [List.getElem?_set_ne q] at e
      rw [hj (fun z => q z.symm)]
      exact g.nw j y e o
/-- an own object's place -/
theorem Good.at_own {xs : List D} (g : Good K B0 H0 B H ad σ s) (e : s[i]? = some (.own xs)) : σ[i]? = some (some (.ref (ad i))) ∧ B (ad i) = none ∧ H0 (ad i) = none ∧ ∃ vs, H (ad i) = some (.lst vs) ∧ Reps K B xs vs := by
  obtain ⟨a, b, c⟩ := g.sl.ok i _ e
  exact ⟨a, b, g.nw i _ e rfl, c⟩
theorem Good.at_obj {q C : Addr} {ns : List Str} {xs : List D} (g : Good K B0 H0 B H ad σ s) (e : s[i]? = some (.obj q C ns xs)) : ad i = q ∧ σ[i]? = some (some (.ref (ad i))) ∧ B (ad i) = none ∧ H0 (ad i) = none ∧ ∃ dx fs, H (ad i) = some (.ins C dx fs) ∧ fs.map (·.1) = ns ∧ Reps K B xs (fs.map (·.2)) := by
  obtain ⟨z, a, b, c⟩ := g.sl.ok i _ e
  exact ⟨z, a, b, g.nw i _ e rfl, c⟩
/-- an own object changes where it stands -/
theorem Good.mut {x y : Sl} {o : HO} (g : Good K B0 H0 B H ad σ s) (e : s[i]? = some x) (ox : x.isOwn = true) (hy : ∀ H1, H1 (ad i) = some o → SlotOk K B H1 (ad i) σ[i]? y) (oy : y.isOwn = true) (hb : B (ad i) = none) :
    Good K B0 H0 B (upd H (ad i) o) ad σ (s.set i y) := by
  have hn := g.nw i x e ox
  have ex := g.ex.mut (o := o) hn hb
  have il : i < s.length := (List.getElem?_eq_some_iff.mp e).1
  refine ⟨⟨ex.bh, by rw [List.length_set]; exact g.sl.len, fun j z ez => ?_, fun j k z z' e1 e2 o1 o2 ea => ?_⟩, ex, fun j z ez oz => ?_⟩
  · by_cases q : i = j
    · subst q
      rw [List.getElem?_set, if_pos rfl, if_pos il] at ez
      cases ez
      exact hy _ upd_same
    · rw [List.getElem?_set_ne q] at ez
      have h := g.sl.ok j z ez
      cases z with
      | no => trivial
      | d w => exact h
      | own w =>
        obtain ⟨a1, a2, vs, a3, a4⟩ := h
        refine ⟨a1, a2, vs, ?_, a4⟩
        rw [upd_ne (fun z => q (g.sl.apart i j _ _ e ez ox rfl z.symm))]
        exact a3
      | obj q0 C ns w =>
        obtain ⟨a0, a1, a2, dx, fs, a3, a4⟩ := h
        refine ⟨a0, a1, a2, dx, fs, ?_, a4⟩
        rw [upd_ne (fun z => q (g.sl.apart i j _ _ e ez ox rfl z.symm))]
        exact a3
  · have back : ∀ (j : Nat) (z : Sl), (s.set i y)[j]? = some z → z.isOwn = true → ∃ z' : Sl, s[j]? = some z' ∧ z'.isOwn = true := fun j z ez oz => by
      by_cases q : i = j
      · subst q
        exact ⟨x, e, ox⟩
      · rw [List.getElem?_set_ne q] at ez
        exact ⟨z, ez, oz⟩
    obtain ⟨w1, f1, p1⟩ := back j z e1 o1
    obtain ⟨w2, f2, p2⟩ := back k z' e2 o2
    exact g.sl.apart j k w1 w2 f1 f2 p1 p2 ea
  · by_cases q : i = j
    · subst q
      exact hn
    · rw [List.getElem?_set_ne q] at ez
      exact g.nw j z ez oz
/-- a name's value is forgotten -/
theorem Good.setNo (g : Good K B0 H0 B H ad σ s) (ov : Option V) : Good K B0 H0 B H ad (σ.set i ov) (s.set i .no) := by
  have old : ∀ (j : Nat) (x : Sl), (s.set i .no)[j]? = some x → x.isOwn = true → s[j]? = some x := fun j x e o => by
    by_cases q : i = j
    · subst q
      rw [List.getElem?_set, if_pos rfl] at e
      split at e
      · cases e
        cases o
      · cases e
    · rw [List.getElem?_set_ne q] at e
      exact e
  refine ⟨⟨g.sl.bh, by rw [List.length_set, List.length_set]; exact g.sl.len, fun j x e => ?_, fun j k x y e1 e2 o1 o2 ea => g.sl.apart j k x y (old j x e1 o1) (old k y e2 o2) o1 o2 ea⟩, g.ex, fun j x e o => g.nw j x (old j x e o) o⟩
  by_cases q : i = j
  · subst q
    rw [List.getElem?_set, if_pos rfl] at e
    split at e
    · cases e
      trivial
    · cases e
  · rw [List.getElem?_set_ne q] at e
    rw [List.getElem?_set_ne q]
    exact g.sl.ok j x e
/-- an own list becomes plain data -/
def frz (i : Nat) (s : PS1) : PS1 :=
  match s[i]? with
  | some (.own xs) => s.set i (.d (.lst xs))
  | some (.obj _ C ns xs) => s.set i (.d (.obj C ns xs))
  | _ => s
theorem set_same {α : Type} : ∀ {l : List α} {i : Nat} {x : α}, l[i]? = some x → l.set i x = l
  | [], _, _, _ => rfl
  | a :: l, 0, x, h => by
    have e : a = x := Option.some.inj h
    rw [e]
    rfl
  | a :: l, i + 1, x, h => by
    have ih : l.set i x = l := set_same (l := l) (i := i) h
    show a :: l.set i x = a :: l
    rw [ih]
theorem Good.adopt {d : D} {v : V} {o : HO} {x : Sl} (g : Good K B0 H0 B H ad σ s) (e : s[i]? = some x) (ox : x.isOwn = true) (hv : σ[i]? = some (some v)) (hH : H (ad i) = some o) (hb : B (ad i) = none) (r : Rep K (upd B (ad i) o) d v) :
    Good K B0 H0 (upd B (ad i) o) H ad σ (s.set i (.d d)) := by
  have hn := g.nw i x e ox
  have ex := g.ex.adopt hn hb hH
  have old : ∀ j y, (s.set i (.d d))[j]? = some y → y.isOwn = true → j ≠ i ∧ s[j]? = some y := fun j y e o => by
    by_cases q : i = j
    · subst q
      rw [List.getElem?_set, if_pos rfl] at e
      split at e
      · cases e
        cases o
      · cases e
    · rw [List.getElem?_set_ne q] at e
      exact ⟨fun z => q z.symm, e⟩
  refine ⟨⟨ex.bh, by rw [List.length_set]; exact g.sl.len, fun j y ey => ?_, fun j k y z e1 e2 o1 o2 ea => g.sl.apart j k y z (old j y e1 o1).2 (old k z e2 o2).2 o1 o2 ea⟩, ex, fun j y ey oy => g.nw j y (old j y ey oy).2 oy⟩
  by_cases q : i = j
  · subst q
    rw [List.getElem?_set, if_pos rfl] at ey
    split at ey
    · cases ey
      exact ⟨v, hv, r⟩
    · cases ey
  · rw [List.getElem?_set_ne q] at ey
    have h := g.sl.ok j y ey
    have sb : Same B (upd B (ad i) o) := same_upd hb
    cases y with
    | no => trivial
    | d w =>
      obtain ⟨u, a1, a2⟩ := h
      exact ⟨u, a1, a2.mono sb⟩
    | own w =>
      obtain ⟨a1, a2, vs, a3, a4⟩ := h
      refine ⟨a1, ?_, vs, a3, a4.mono sb⟩
      rw [upd_ne (fun z => q (g.sl.apart i j _ _ e ey ox rfl z.symm))]
      exact a2
    | obj q0 C ns w =>
      obtain ⟨a0, a1, a2, dx, fs, a3, a4, a5⟩ := h
      refine ⟨a0, a1, ?_, dx, fs, a3, a4, a5.mono sb⟩
      rw [upd_ne (fun z => q (g.sl.apart i j _ _ e ey ox rfl z.symm))]
      exact a2
theorem Good.frz (g : Good K B0 H0 B H ad σ s) : ∃ B', Same B B' ∧ Good K B0 H0 B' H ad σ (frz i s) := by
  unfold FL.frz
  split
  · rename_i xs e
    obtain ⟨hv, hb, hn, vs, hh, r⟩ := g.at_own e
    exact ⟨_, same_upd hb, g.adopt e rfl hv hh hb (rep_lst.mpr ⟨_, vs, rfl, SqL.of upd_same, r.mono (same_upd hb)⟩)⟩
  · rename_i q0 C ns xs e
    obtain ⟨hz, hv, hb, hn, dx, fs, hh, hns, r⟩ := g.at_obj e
    exact ⟨_, same_upd hb, g.adopt e rfl hv hh hb (rep_obj.mpr ⟨_, dx, fs, rfl, upd_same, hns, r.mono (same_upd hb)⟩)⟩
  · exact ⟨B, Same.refl _, g⟩
end
section
variable {X : Cx} {W : WX} {st : Stmt} {sts rest : List Stmt} {f g : PS1 → Option Fl} {e a b : Expr} {pos : Pos} {fe fa : PS1 → Option (R D)} {fn : PS1 → Option (R (List D))} {ft : PS1 → Option (R Bool)}
/-- an own list, an own object is handed on as it is, from here on -/
def fFrz (i : Nat) (f : PS1 → Option Fl) : PS1 → Option Fl := fun s => f (frz i s)
theorem dss_frz (i : Nat) (h : DSs X W sts f) : DSs X W sts (fFrz i f) := PSs.imp h fun D σ H ⟨B0, H0, B, ad, s, r, g, hf, hq⟩ => by
  obtain ⟨B', sb, g'⟩ := g.frz (i := i)
  exact ⟨B0, H0, B', ad, _, r, g', hf, hq.mono sb⟩
theorem ds_frz (i : Nat) (h : DS X W st f) : DS X W st (fFrz i f) := PS.imp h fun D σ H ⟨B0, H0, B, ad, s, r, g, hf, hq⟩ => by
  obtain ⟨B', sb, g'⟩ := g.frz (i := i)
  exact ⟨B0, H0, B', ad, _, r, g', hf, hq.mono sb⟩
def fNext : PS1 → Option Fl := fun s => some (.nx s)
def fSeq (f g : PS1 → Option Fl) : PS1 → Option Fl := fun s => match f s with
  | some (.nx s') => g s'
  | r => r
theorem next_imp {K : PySem.W.Frag} {D : Ends} {σ : L2.St} {H : Hp} (h : tF K W fNext D σ H) : D.nx σ H := by
  obtain ⟨B0, H0, B, ad, s, r, g, hf, hq⟩ := h
  cases hf
  exact hq σ H B ad (Same.refl _) g
theorem dss_nil : DSs X W [] fNext := PSs.imp pss_nil fun D σ H h => next_imp h
theorem dss_one (h : DS X W st f) : DSs X W [st] f := pss_one h
theorem dss_cons (h1 : DS X W st f) (h2 : DSs X W rest g) : DSs X W (st :: rest) (fSeq f g) := by
  refine PSs.imp (pss_cons h1 h2) fun D σ H h => ?_
  obtain ⟨B0, H0, B, ad, s, r, gd, hf, hq⟩ := h
  have hf : (match f s with
    | some (.nx s') => g s'
    | r => r) = some r := hf
  cases e : f s with
  | none => rw [e] at hf; cases hf
  | some r1 =>
    rw [e] at hf
    refine ⟨B0, H0, B, ad, s, r1, gd, e, ?_⟩
    cases r1 with
    | nx s' => exact fun σ' H' B' ad' sb gd' => ⟨B0, H0, B', ad', s', r, gd', hf, hq.mono sb⟩
    | rt d => cases hf; exact hq
    | bk s' => cases hf; exact hq
    | ct s' => cases hf; exact hq
    | er x s' => cases hf; exact hq
theorem ds_pass : DS X W (.Pass pos) fNext := PS.imp ps_pass fun D σ H h => next_imp h
theorem ds_doc {x j pos'} : DS X W (.Expr (.Constant (.str x) j pos) pos') fNext := PS.imp ps_doc fun D σ H h => next_imp h
def fBrk : PS1 → Option Fl := fun s => some (.bk s)
def fCnt : PS1 → Option Fl := fun s => some (.ct s)
theorem ds_break : DS X W (.Break pos) fBrk := PS.imp ps_break fun D σ H h => by
  obtain ⟨B0, H0, B, ad, s, r, g, hf, hq⟩ := h
  cases hf
  exact hq σ H B ad (Same.refl _) g
theorem ds_cont : DS X W (.Continue pos) fCnt := PS.imp ps_continue fun D σ H h => by
  obtain ⟨B0, H0, B, ad, s, r, g, hf, hq⟩ := h
  cases hf
  exact hq σ H B ad (Same.refl _) g
/-- an expression, then what its value does to the names -/
def fEx {α : Type} (fe : PS1 → Option (R α)) (k : α → PS1 → Option Fl) : PS1 → Option Fl := fun s => match fe s with
  | some (.ok d) => k d s
  | some (.er x) => some (.er x s)
  | none => none
theorem ex_run {α : Type} {K : PySem.W.Frag} {fe : PS1 → Option (R α)} {k : α → PS1 → Option Fl} {D : Ends} {σ : L2.St} {B0 H0 B H : Hp} {ad : Nat → Addr} {s : PS1} {r : Fl} (g : Good K B0 H0 B H ad σ s) (hf : fEx fe k s = some r) (hq : FlOk K W B0 H0 B D r) :
    Run K W σ (fun d B' H' => Ext B H B' H' ∧ k d s = some r) fe B H := by
  have hf : (match fe s with
    | some (.ok d) => k d s
    | some (.er x) => some (.er x s)
    | none => none) = some r := hf
  cases e : fe s with
  | none => rw [e] at hf; cases hf
  | some r1 =>
    rw [e] at hf
    refine ⟨ad, s, r1, g.sl, e, ?_⟩
    cases r1 with
    | ok d => exact fun B' H' x => ⟨x, hf⟩
    | er x =>
      have hf : some (Fl.er x s) = some r := hf
      cases hf
      exact fun cls dd B' H' x r => hq cls dd σ H' B' ad x.b (g.mono x) r
theorem ex_imp {α : Type} {K : PySem.W.Frag} {fe : PS1 → Option (R α)} {k : α → PS1 → Option Fl} {D : Ends} {σ : L2.St} {H : Hp} (h : tF K W (fEx fe k) D σ H) :
    ∃ B, Run K W σ (fun d B' H' => Ext B H B' H' ∧ ∃ B0 H0 ad s r, Good K B0 H0 B' H' ad σ s ∧ Good K B0 H0 B H ad σ s ∧ k d s = some r ∧ FlOk K W B0 H0 B' D r) fe B H := by
  obtain ⟨B0, H0, B, ad, s, r, g, hf, hq⟩ := h
  exact ⟨B, (ex_run g hf hq).imp fun d B' H' _ ⟨x, e⟩ => ⟨x, B0, H0, ad, s, r, g.mono x, g, e, hq.mono x.b⟩⟩
def fSet (i : Nat) (fe : PS1 → Option (R D)) : PS1 → Option Fl := fEx fe fun d s => some (.nx (s.set i (.d d)))
theorem set_imp {K : PySem.W.Frag} {i : Nat} {D : Ends} {σ : L2.St} {H : Hp} (h : tF K W (fSet i fe) D σ H) : tAsg (tD K W fe) (gName i) D σ H := by
  obtain ⟨B, h⟩ := ex_imp h
  refine ⟨B, h.imp fun d B' H' x ⟨_, B0, H0, ad, s, r, g, _, hf, hq⟩ v rv => ?_⟩
  cases hf
  exact hq _ _ _ _ (Same.refl _) (g.setD rv)
theorem ds_set (i : Nat) {x : Str} {pos' : Pos} (hN : X.N.Nodup) (hi : X.N[i]? = some x) (hx : Loc X.env.scope x) (he : DE X W e fe) (hs : swapsWith e (some (.Name x pos')) pos.line X.env = pure false := by rfl)
    (hf : X.fn x = true ∨ X.env.scope.names.lookup x = some .local := by first | exact .inl rfl | exact .inr rfl | assumption) : DS X W (.Assign [.Name x pos'] e pos) (fSet i fe) :=
  PS.imp (ps_set hN hi hx he hs hf) fun D σ H h => set_imp h
/-- x = a new list: the name's own -/
def fSetN (i : Nat) (fn : PS1 → Option (R (List D))) : PS1 → Option Fl := fEx fn fun ds s => some (.nx (s.set i (.own ds)))
theorem setN_imp {K : PySem.W.Frag} {i : Nat} {D : Ends} {σ : L2.St} {H : Hp} (h : tF K W (fSetN i fn) D σ H) : tAsg (tDN K W fn) (gName i) D σ H := by
  obtain ⟨B, h⟩ := ex_imp h
  refine ⟨B, h.imp fun ds B' H' x ⟨_, B0, H0, ad, s, r, g, g0, hf, hq⟩ p vs hp hb hv rs => ?_⟩
  cases hf
  refine hq _ _ _ _ (Same.refl _) (g.setOwn ⟨rfl, hb, vs, hv, rs⟩ (g0.ex.h.free hp) fun j y ey oy _ z => ?_)
  have := g0.sl.ok j y ey
  cases y with
  | own w =>
    obtain ⟨_, _, _, a3, _⟩ := this
    rw [z, hp] at a3
    cases a3
  | obj q0 C ns w =>
    obtain ⟨_, _, _, _, _, a3, _⟩ := this
    rw [z, hp] at a3
    cases a3
  | no => cases oy
  | d w => cases oy
theorem ds_setN (i : Nat) {x : Str} {pos' : Pos} (hN : X.N.Nodup) (hi : X.N[i]? = some x) (hx : Loc X.env.scope x) (he : DN X W e fn) (hs : swapsWith e (some (.Name x pos')) pos.line X.env = pure false := by rfl)
    (hf : X.fn x = true ∨ X.env.scope.names.lookup x = some .local := by first | exact .inl rfl | exact .inr rfl | assumption) : DS X W (.Assign [.Name x pos'] e pos) (fSetN i fn) :=
  PS.imp (ps_set hN hi hx he hs hf) fun D σ H h => setN_imp h
def fDrop (fe : PS1 → Option (R D)) : PS1 → Option Fl := fEx fe fun _ s => some (.nx s)
theorem ds_expr (he : DE X W e fe) (hs : swapsWith e none pos.line X.env = pure false := by rfl) : DS X W (.Expr e pos) (fDrop fe) := PS.imp (ps_expr he hs) fun D σ H h => by
  obtain ⟨B, h⟩ := ex_imp h
  refine ⟨B, h.imp fun d B' H' x ⟨_, B0, H0, ad, s, r, g, _, hf, hq⟩ v rv => ?_⟩
  cases hf
  exact hq _ _ _ _ (Same.refl _) g
def fRet (fe : PS1 → Option (R D)) : PS1 → Option Fl := fEx fe fun d _ => some (.rt d)
theorem ds_ret (he : DE X W e fe) : DS X W (.Return (some e) pos) (fRet fe) := PS.imp (ps_ret he) fun D σ H h => by
  obtain ⟨B, h⟩ := ex_imp h
  refine ⟨B, h.imp fun d B' H' x ⟨_, B0, H0, ad, s, r, g, _, hf, hq⟩ v rv => ?_⟩
  cases hf
  exact hq _ _ _ g.ex rv
def fRetN : PS1 → Option Fl := fun _ => some (.rt .non)
theorem ds_retN : DS X W (.Return none pos) fRetN := PS.imp ps_retN fun D σ H h => by
  obtain ⟨B0, H0, B, ad, s, r, g, hf, hq⟩ := h
  cases hf
  exact hq .non B H g.ex (rep_non.mpr rfl)
def fIfS (ft : PS1 → Option (R Bool)) (f g : PS1 → Option Fl) : PS1 → Option Fl := fEx ft fun b s => match b with
  | true => f s
  | false => g s
theorem ds_if {c : Expr} {p q : List Stmt} (hc : DT X W c ft) (hp : DSs X W p f) (hq : DSs X W q g) : DS X W (.If c p q pos) (fIfS ft f g) := PS.imp (ps_if hc hp hq) fun D σ H h => by
  obtain ⟨B, h⟩ := ex_imp h
  refine ⟨B, h.imp fun d B' H' x ⟨_, B0, H0, ad, s, r, g, _, hf, hq⟩ => ?_⟩
  cases d with
  | true =>
    unfold RB
    dsimp only
    rw [if_pos rfl]
    exact ⟨B0, H0, B', ad, s, r, g, hf, hq⟩
  | false =>
    unfold RB
    dsimp only
    rw [if_neg Bool.false_ne_true]
    exact ⟨B0, H0, B', ad, s, r, g, hf, hq⟩
/-- x.append(e), x an own list -/
def fApp (i : Nat) (fe : PS1 → Option (R D)) : PS1 → Option Fl := fun s => match s[i]? with
  | some (.own xs) => fEx fe (fun d s => if xs.length < 100000 then some (.nx (s.set i (.own (xs ++ [d])))) else none) s
  | _ => none
theorem app_imp {i : Nat} {D : Ends} {σ : L2.St} {H : Hp} (h : tF X.K W (fApp i fe) D σ H) : tDrop (tBM X.K "list" rAppend (tVar i) (tCons (tD X.K W fe) tNil)) D σ H := by
  obtain ⟨B0, H0, B, ad, s, r, g, hf, hq⟩ := h
  unfold fApp at hf
  split at hf
  · rename_i xs e
    obtain ⟨hv, hb, hn, vs, hh, rs⟩ := g.at_own e
    refine ⟨_, hv, .inl ⟨rfl, vs, SqL.of hh⟩, ?_⟩
    refine ⟨B, (ex_run g hf hq).imp fun d B' H' _ ⟨x, e2⟩ v rv => ?_⟩
    split at e2
    · rename_i hz
      cases e2
      have g' := g.mono x
      refine ⟨ad i, vs, v, rfl, rfl, x.h _ _ hh, by rw [rs.length]; exact Nat.lt_of_lt_of_le hz (by decide), ?_⟩
      exact hq _ _ _ _ x.b (g'.mut e rfl (fun H1 h1 => ⟨hv, x.alive hb hh, _, h1, (rs.mono x.b).append (.one rv)⟩) rfl (x.alive hb hh))
    · cases e2
  · cases hf
theorem ds_app (i : Nat) {x : Str} {p apos cpos pos : Pos} (hm : PE X (.Call (.Attribute (.Name x p) "append" apos) [e] [] cpos) (tBM X.K "list" rAppend (tVar i) (tCons (tD X.K W fe) tNil)))
    (hs : swapsWith (.Call (.Attribute (.Name x p) "append" apos) [e] [] cpos) none pos.line X.env = pure false := by rfl) : DS X W (.Expr (.Call (.Attribute (.Name x p) "append" apos) [e] [] cpos) pos) (fApp i fe) :=
  PS.imp (ps_expr hm hs) fun D σ H h => app_imp h

/-! ### loops -/
def whileF (t : PS1 → Option (R Bool)) (b : PS1 → Option Fl) : Nat → PS1 → Option Fl
  | 0, _ => none
  | n + 1, s => fEx t (fun k s => match k with
    | true => (match b s with
      | some (.nx s') => whileF t b n s'
      | some (.ct s') => whileF t b n s'
      | some (.bk s') => some (.nx s')
      | r => r)
    | false => some (.nx s)) s
def fWhile (fuel : PS1 → Nat) (t : PS1 → Option (R Bool)) (b : PS1 → Option Fl) : PS1 → Option Fl := fun s => whileF t b (fuel s) s
theorem ds_while {c : Expr} {body : List Stmt} {fb : PS1 → Option Fl} (fuel : PS1 → Nat) (hp : PassesOwn (model X.prog X.w) X.A X.env X.xe) (hc : DT X W c ft) (hb : DSs X W body fb) : DS X W (.While c body [] pos) (fWhile fuel ft fb) := by
  refine PS.imp (ps_while hp hc hb) fun D σ H h => ?_
  obtain ⟨B0, H0, B, ad, s, r, g, hf, hq⟩ := h
  refine ⟨fun m σ H => ∃ B ad s, Good X.K B0 H0 B H ad σ s ∧ FlOk X.K W B0 H0 B D r ∧ whileF ft fb m s = some r, ⟨fuel s, B, ad, s, g, hq, hf⟩, ?_⟩
  clear hq
  rintro m σ H ⟨B, ad, s, g, hq, hf⟩
  cases m with
  | zero => cases hf
  | succ n =>
    have hf : fEx ft (fun k s => match k with
      | true => (match fb s with
        | some (.nx s') => whileF ft fb n s'
        | some (.ct s') => whileF ft fb n s'
        | some (.bk s') => some (.nx s')
        | r => r)
      | false => some (.nx s)) s = some r := hf
    refine ⟨B, (ex_run g hf hq).imp fun k B' H' _ ⟨x, e⟩ => ?_⟩
    unfold RB
    dsimp only
    cases k with
    | false =>
      rw [if_neg Bool.false_ne_true]
      cases e
      exact hq _ _ _ _ x.b (g.mono x)
    | true =>
      rw [if_pos rfl]
      have e : (match fb s with
        | some (.nx s') => whileF ft fb n s'
        | some (.ct s') => whileF ft fb n s'
        | some (.bk s') => some (.nx s')
        | r => r) = some r := e
      refine ⟨fun σ H => ∃ B ad s, Good X.K B0 H0 B H ad σ s ∧ FlOk X.K W B0 H0 B D r ∧ whileF ft fb n s = some r, fun σ' H' w => ⟨n, Nat.lt_succ_self n, w⟩, ?_⟩
      cases eb : fb s with
      | none => rw [eb] at e; cases e
      | some rb =>
        rw [eb] at e
        refine ⟨B0, H0, B', ad, s, rb, g.mono x, eb, ?_⟩
        cases rb with
        | nx s' => exact fun σ' H' B' ad' sb g' => ⟨B', ad', s', g', hq.mono (x.b.trans sb), e⟩
        | ct s' => exact fun σ' H' B' ad' sb g' => ⟨B', ad', s', g', hq.mono (x.b.trans sb), e⟩
        | bk s' => cases e; exact fun σ' H' B' ad' sb g' => hq _ _ _ _ (x.b.trans sb) g'
        | rt d => cases e; exact hq
        | er y s' => cases e; exact fun cls dd σ' H' B' ad' sb g' => hq _ _ _ _ _ _ (x.b.trans sb) g'
/-- what is walked yields the items ds, one a turn, over the heaps from (B1, H1) on -/
structure WalkD (K : PySem.W.Frag) (B1 : Hp) (J : It) (ds : List D) : Prop where
  go : ∀ (i : Nat) (d : D) B H, Same B1 B → Same B H → ds[i]? = some d → J.go i H ∧ ∀ x H', J.yld i H x H' → ∃ B', Ext B H B' H' ∧ Rep K B' d x
  stop : ∀ B H, Same B1 B → Same B H → J.stop ds.length H
def tDi (K : PySem.W.Frag) (W : WX) (f : PS1 → Option (R (List D))) : TI := fun σ H R => ∃ B, Run K W σ (fun ds B' H' => ∀ J, WalkD K B' J ds → R J H') f B H
theorem PI.imp {tg e : Expr} {t t' : TI} (h : PI X tg e t) (i : ∀ σ H Q, t' σ H Q → t σ H Q) : PI X tg e t' := ⟨fun pins s σ H Q I q => h.run pins s σ H Q I (i σ H Q q)⟩
abbrev DI (X : Cx) (W : WX) (tg e : Expr) (f : PS1 → Option (R (List D))) : Prop := PI X tg e (tDi X.K W f)
/-- an item is given to the names -/
structure TgOk (K : PySem.W.Frag) (g : TG) (gi : D → PS1 → Option PS1) : Prop where
  run : ∀ {B0 H0 B H ad σ s d v s'} (Q : L2.St → Hp → Prop), Good K B0 H0 B H ad σ s → Rep K B d v → gi d s = some s' → (∀ σ', Good K B0 H0 B H ad σ' s' → Q σ' H) → g v σ H Q
def giName (i : Nat) : D → PS1 → Option PS1 := fun d s => some (s.set i (.d d))
theorem tg_name {K : PySem.W.Frag} (i : Nat) : TgOk K (gName i) (giName i) := ⟨fun Q g r e q => by
  cases e
  exact q _ (g.setD r)⟩
def giNames : List Nat → List D → PS1 → Option PS1
  | [], [], s => some s
  | i :: is, d :: ds, s => giNames is ds (s.set i (.d d))
  | _, _, _ => none
def gNames : List Nat → TGs
  | [] => gNil
  | i :: is => gCons (gName i) (gNames is)
theorem tg_names {K : PySem.W.Frag} : ∀ (is : List Nat) {B0 H0 B H : Hp} {ad : Nat → Addr} {σ : L2.St} {s s' : PS1} {ds : List D} {vs : List V} (Q : L2.St → Hp → Prop), Good K B0 H0 B H ad σ s → Reps K B ds vs → giNames is ds s = some s' → (∀ σ', Good K B0 H0 B H ad σ' s' → Q σ' H) → gNames is vs σ H Q
  | [], B0, H0, B, H, ad, σ, s, s', ds, vs, Q, g, r, e, q => by
    cases ds with
    | nil =>
      cases e
      exact ⟨reps_nil.mp r, q _ g⟩
    | cons d ds => cases e
  | i :: is, B0, H0, B, H, ad, σ, s, s', ds, vs, Q, g, r, e, q => by
    cases ds with
    | nil => cases e
    | cons d ds =>
      obtain ⟨v, vs, rfl, r1, r2⟩ := reps_cons.mp r
      exact ⟨v, vs, rfl, tg_names is Q (g.setD r1) r2 e q⟩
def giTup (is : List Nat) : D → PS1 → Option PS1 := fun d s => match d with
  | .tup ds => giNames is ds s
  | _ => none
theorem giNames_len : ∀ {is : List Nat} {ds : List D} {s s' : PS1}, giNames is ds s = some s' → ds.length = is.length
  | [], [], _, _, _ => rfl
  | [], _ :: _, _, _, h => by cases h
  | _ :: _, [], _, _, h => by cases h
  | _ :: is, _ :: ds, _, _, h => by
    rw [List.length_cons, List.length_cons, giNames_len (is := is) (ds := ds) h]
theorem tg_tup {K : PySem.W.Frag} (is : List Nat) : TgOk K (gTup K is.length (gNames is)) (giTup is) := ⟨fun {B0 H0 B H ad σ s d v s'} Q g r e q => by
  cases d with
  | tup ds =>
    obtain ⟨a, vs, rfl, hs, rs⟩ := rep_tup.mp r
    exact ⟨a, vs, rfl, seqT g.sl.bh hs, by rw [rs.length, giNames_len e], tg_names is Q g rs e q⟩
  | _ => cases e⟩
def loopF (gi : D → PS1 → Option PS1) (b : PS1 → Option Fl) : List D → PS1 → Option Fl
  | [], s => some (.nx s)
  | d :: ds, s => match gi d s with
    | none => none
    | some s1 => match b s1 with
      | some (.nx s') => loopF gi b ds s'
      | some (.ct s') => loopF gi b ds s'
      | some (.bk s') => some (.nx s')
      | r => r
def fFor (fi : PS1 → Option (R (List D))) (gi : D → PS1 → Option PS1) (b : PS1 → Option Fl) : PS1 → Option Fl := fEx fi fun ds s => loopF gi b ds s
theorem ds_for {iter tg : Expr} {body : List Stmt} {fi : PS1 → Option (R (List D))} {gt : TG} {gi : D → PS1 → Option PS1} {fb : PS1 → Option Fl} (hp : PassesOwn (model X.prog X.w) X.A X.env X.xe) (hc : X.calm = true) (hi : DI X W tg iter fi) (hg : PG X tg gt) (hgi : TgOk X.K gt gi) (hb : DSs X W body fb)
    (hs : ∀ x, foldedSetIterable iter X.env x = pure x := by intro _; rfl) : DS X W (.For tg iter body [] pos) (fFor fi gi fb) := by
  refine PS.imp (ps_for hp hc hi hg hb hs) fun D σ H h => ?_
  obtain ⟨B0, H0, B, ad, s, r, g, hf, hq⟩ := h
  refine ⟨B, (ex_run g hf hq).imp fun ds B1 H1 _ ⟨x1, e⟩ J wk => ?_⟩
  refine ⟨fun i m σ H => ∃ B ad s, i + m = ds.length ∧ Same B1 B ∧ Good X.K B0 H0 B H ad σ s ∧ loopF gi fb (ds.drop i) s = some r, ⟨ds.length, B1, ad, s, by omega, Same.refl _, g.mono x1, e⟩, ?_⟩
  rintro i m σ H ⟨B, ad, s, em, sb, g, e⟩
  cases m with
  | zero =>
    have ei : i = ds.length := by omega
    subst ei
    rw [List.drop_length] at e
    cases e
    exact .inl ⟨wk.stop B H sb g.sl.bh, hq _ _ _ _ (x1.b.trans sb) g⟩
  | succ n =>
    have hi : i < ds.length := by omega
    rw [List.drop_eq_getElem_cons hi] at e
    obtain ⟨w1, w2⟩ := wk.go i ds[i] B H sb g.sl.bh (List.getElem?_eq_getElem hi)
    refine .inr ⟨w1, fun σ H => ∃ B ad s, (i + 1) + n = ds.length ∧ Same B1 B ∧ Good X.K B0 H0 B H ad σ s ∧ loopF gi fb (ds.drop (i + 1)) s = some r, fun σ' H' w => ⟨n, Nat.lt_succ_self n, w⟩, fun x H' hy => ?_⟩
    obtain ⟨B', x', rx⟩ := w2 x H' hy
    have e : (match gi ds[i] s with
      | none => none
      | some s1 => match fb s1 with
        | some (.nx s') => loopF gi fb (ds.drop (i + 1)) s'
        | some (.ct s') => loopF gi fb (ds.drop (i + 1)) s'
        | some (.bk s') => some (.nx s')
        | r => r) = some r := e
    cases e1 : gi ds[i] s with
    | none => rw [e1] at e; cases e
    | some s1 =>
      rw [e1] at e
      have e : (match fb s1 with
        | some (.nx s') => loopF gi fb (ds.drop (i + 1)) s'
        | some (.ct s') => loopF gi fb (ds.drop (i + 1)) s'
        | some (.bk s') => some (.nx s')
        | r => r) = some r := e
      refine hgi.run _ (g.mono x') rx e1 fun σ' g' => ?_
      cases e2 : fb s1 with
      | none => rw [e2] at e; cases e
      | some rb =>
        rw [e2] at e
        refine ⟨B0, H0, B', ad, s1, rb, g', e2, ?_⟩
        cases rb with
        | nx s' => exact fun σ2 H2 B2 ad2 s2 g2 => ⟨B2, ad2, s', by omega, (sb.trans x'.b).trans s2, g2, e⟩
        | ct s' => exact fun σ2 H2 B2 ad2 s2 g2 => ⟨B2, ad2, s', by omega, (sb.trans x'.b).trans s2, g2, e⟩
        | bk s' => cases e; exact fun σ2 H2 B2 ad2 s2 g2 => hq _ _ _ _ (x1.b.trans ((sb.trans x'.b).trans s2)) g2
        | rt d => cases e; exact hq
        | er y s' => cases e; exact fun cls dd σ2 H2 B2 ad2 s2 g2 => hq _ _ _ _ _ _ (x1.b.trans ((sb.trans x'.b).trans s2)) g2
end
end FL

namespace FL
open PySem PySem.Spec PyProof.Rows L2
section
variable {X : Cx} {W : WX} {e a b : Expr} {pos : Pos} {fe fa fb fc : PS1 → Option (R D)} {ft fu : PS1 → Option (R Bool)}
theorem pe_or2 {t t' : TE} (h : PE X e t) (h' : PE X e t') : PE X e (fun σ H Q => t σ H Q ∨ t' σ H Q) := ⟨fun pins s σ H Q I q => q.elim (h.run pins s σ H Q I) (h'.run pins s σ H Q I)⟩
theorem pi_or2 {tg : Expr} {t t' : TI} (h : PI X tg e t) (h' : PI X tg e t') : PI X tg e (fun σ H Q => t σ H Q ∨ t' σ H Q) := ⟨fun pins s σ H Q I q => q.elim (h.run pins s σ H Q I) (h'.run pins s σ H Q I)⟩

/-! ### subscripts, slices -/
def gIx (x y : D) : Option D := match y with
  | .int i => (match x with
    | .tup xs => atI xs i
    | .lst xs => atI xs i
    | .str z => if z.length ≤ 100000 then (atI z.cps.toList i).map fun c => .str ⟨#[c]⟩ else none
    | _ => none)
  | _ => none
theorem atI_rep {K : PySem.W.Frag} {B : Hp} {xs : List D} {vs : List V} {i : Int} {d : D} (rs : Reps K B xs vs) (h : atI xs i = some d) : ∃ v, atI vs i = some v ∧ Rep K B d v := by
  unfold atI at h ⊢
  rw [rs.length]
  obtain ⟨j, e, h⟩ := Option.bind_eq_some_iff.mp h
  obtain ⟨v, e2, r⟩ := rs.get h
  rw [e]
  exact ⟨v, e2, r⟩
theorem pure_ix {K : PySem.W.Frag} : Pure2 K (rIx K) gIx := by
  intro B H x y z v u Q bh e rv ru q
  unfold gIx at e
  split at e
  · split at e
    · obtain ⟨p, vs, rfl, hs, rs⟩ := rep_tup.mp rv
      obtain ⟨w, hw, rw'⟩ := atI_rep rs e
      exact .inr (.inl ⟨p, vs, _, w, rfl, rep_int.mp ru, seqT bh hs, hw, q B H (Ext.refl bh) _ rw'⟩)
    · obtain ⟨p, vs, rfl, hs, rs⟩ := rep_lst.mp rv
      obtain ⟨w, hw, rw'⟩ := atI_rep rs e
      exact .inl ⟨p, vs, _, w, rfl, rep_int.mp ru, bh.seq hs, hw, q B H (Ext.refl bh) _ rw'⟩
    · split at e
      · obtain ⟨c, hc, rfl⟩ := Option.map_eq_some_iff.mp e
        exact .inr (.inr ⟨_, _, c, rep_str.mp rv, rep_int.mp ru, Nat.le_trans (by assumption) (by decide), hc, q B H (Ext.refl bh) _ (rep_str.mpr rfl)⟩)
      · cases e
    · cases e
  · cases e
theorem de_ix (ha : DE X W a fa) (hb : DE X W b fb) (hs : PlainIx b) : DE X W (.Subscript a b pos) (fop gIx fa fb) := PE.imp (pe_ix ix_seq ha hb hs) fun _ _ _ h => tD_op pure_ix h
/-- a part of a slice -/
def fPart (fe : PS1 → Option (R D)) : PS1 → Option (R (Option Int)) := fun s => bnd (fe s) fun x => match x with
  | .int i => some (.ok (some i))
  | _ => none
def fNoPart : PS1 → Option (R (Option Int)) := fun _ => some (.ok none)
def tDo (K : PySem.W.Frag) (W : WX) (f : PS1 → Option (R (Option Int))) : TO := fun σ H Q => ∃ B, Run K W σ (fun o _ H' => Q o H') f B H
abbrev DO (X : Cx) (W : WX) (e : Option Expr) (f : PS1 → Option (R (Option Int))) : Prop := PO X e (tDo X.K W f)
theorem PO.imp {e : Option Expr} {t t' : TO} (h : PO X e t) (i : ∀ σ H Q, t' σ H Q → t σ H Q) : PO X e t' := ⟨fun pins s σ H Q I q => h.run pins s σ H Q I (i σ H Q q)⟩
theorem do_none : DO X W none fNoPart := PO.imp po_none fun σ H Q ⟨B, h⟩ => Run.now (P := fun o _ H' => Q o H') h
theorem do_some (h : DE X W e fe) : DO X W (some e) (fPart fe) := PO.imp (po_some h) fun σ H Q ⟨B, h⟩ => by
  refine ⟨B, (Run.bind h).imp fun x B1 H1 e1 h1 v rv => ?_⟩
  cases x with
  | int i => exact ⟨i, rep_int.mp rv, Run.now (P := fun o _ H' => Q o H') h1⟩
  | _ => obtain ⟨_, _, _, _, hf, _⟩ := h1; cases hf
def cutD (xs : List D) (lo hi : Option Int) : List D := (xs.drop (HT.sIx xs.length 0 lo)).take (HT.sIx xs.length xs.length hi - HT.sIx xs.length 0 lo)
theorem cut_rep {K : PySem.W.Frag} {B : Hp} {xs : List D} {vs : List V} (rs : Reps K B xs vs) (lo hi : Option Int) : Reps K B (cutD xs lo hi) (cutV vs lo hi) := by
  unfold cutD cutV
  rw [rs.length]
  exact (rs.drop _).take _
theorem cut_whole (vs : List V) (lo hi : Option Int) (h : HT.sIx vs.length 0 lo = 0 ∧ HT.sIx vs.length vs.length hi = vs.length) : cutV vs lo hi = vs := by
  unfold cutV
  rw [h.1, h.2]
  simp
def fSlT (fe : PS1 → Option (R D)) (fl fh : PS1 → Option (R (Option Int))) : PS1 → Option (R D) := fun s => bnd (fe s) fun x => bnd (fl s) fun lo => bnd (fh s) fun hi => match x with
  | .tup xs => some (.ok (.tup (cutD xs lo hi)))
  | .str z => if z.length ≤ 100000 then some (.ok (.str (cutS z lo hi))) else none
  | _ => none
def fSlL (fe : PS1 → Option (R D)) (fl fh : PS1 → Option (R (Option Int))) : PS1 → Option (R (List D)) := fun s => bnd (fe s) fun x => bnd (fl s) fun lo => bnd (fh s) fun hi => match x with
  | .lst xs => some (.ok (cutD xs lo hi))
  | _ => none
/-- a slice of a tuple or a text -/
theorem de_slT {lo hi : Option Expr} {p2 : Pos} {fl fh : PS1 → Option (R (Option Int))} (he : DE X W e fe) (hl : DO X W lo fl) (hh : DO X W hi fh) : DE X W (.Subscript e (.Slice lo hi none p2) pos) (fSlT fe fl fh) := by
  refine PE.imp (pe_slice (sl_tupA.or sl_str) he hl hh) fun σ H Q ⟨B, h⟩ => ?_
  refine ⟨B, (Run.bind h).imp fun x B1 H1 e1 h1 v rv => ⟨B1, (Run.bind h1).imp fun l B2 H2 e2 h2 => ⟨B2, (Run.bind h2).imp fun u B3 H3 e3 h3 => ?_⟩⟩⟩
  have rv := (rv.mono e2.b).mono e3.b
  have bh := h3.same
  cases x with
  | tup xs =>
    obtain ⟨p, vs, rfl, hs, rs⟩ := rep_tup.mp rv
    refine .inl ⟨p, vs, rfl, seqT bh hs, fun w => ?_, fun w q hq => ?_⟩
    · refine Run.now h3 _ (rep_tup.mpr ⟨p, vs, rfl, hs, ?_⟩)
      have := cut_rep rs l u
      rw [cut_whole vs l u w] at this
      exact this
    · have E := Ext.laid (o := .tup (cutV vs l u)) bh hq
      exact Run.to h3 E _ (rep_tup.mpr ⟨q, _, rfl, SqT.of upd_same, (cut_rep rs l u).mono E.b⟩)
  | str z =>
    obtain ⟨ad, s, r, hs, hf, hq⟩ := h3
    have hf : (if z.length ≤ 100000 then some (R.ok (D.str (cutS z l u))) else none) = some r := hf
    split at hf
    · cases hf
      exact .inr ⟨z, rep_str.mp rv, Nat.le_trans (by assumption) (by decide), hq B3 H3 (Ext.refl bh) _ (rep_str.mpr rfl)⟩
    · cases hf
  | _ => obtain ⟨_, _, _, _, hf, _⟩ := h3; cases hf
theorem dn_slL {lo hi : Option Expr} {p2 : Pos} {fl fh : PS1 → Option (R (Option Int))} (he : DE X W e fe) (hl : DO X W lo fl) (hh : DO X W hi fh) : DN X W (.Subscript e (.Slice lo hi none p2) pos) (fSlL fe fl fh) := by
  refine PE.imp (pe_slice sl_list he hl hh) fun σ H Q ⟨B, h⟩ => ?_
  refine ⟨B, (Run.bind h).imp fun x B1 H1 e1 h1 v rv => ⟨B1, (Run.bind h1).imp fun l B2 H2 e2 h2 => ⟨B2, (Run.bind h2).imp fun u B3 H3 e3 h3 => ?_⟩⟩⟩
  have rv := (rv.mono e2.b).mono e3.b
  have bh := h3.same
  cases x with
  | lst xs =>
    obtain ⟨p, vs, rfl, hs, rs⟩ := rep_lst.mp rv
    refine ⟨p, vs, rfl, bh.seq hs, fun q hq => ?_⟩
    exact Run.to h3 (Ext.own bh hq) q _ (((e1.trans e2).trans e3).h.free hq) (bh.free hq) upd_same (cut_rep rs l u)
  | _ => obtain ⟨_, _, _, _, hf, _⟩ := h3; cases hf

/-! ### built-in functions by name -/
variable {es : List Expr} {fr : PS1 → Option (R (List D))}
def fcall (g : List D → Option D) (fr : PS1 → Option (R (List D))) : PS1 → Option (R D) := fun s => bnd (fr s) fun xs => lft (g xs)
theorem cb_imp {K : PySem.W.Frag} {r : List V → Hp → VK → Prop} {g : List D → Option D} (hp : PureC K r g) {σ : L2.St} {H : Hp} {Q : VK} (h : tD K W (fcall g fr) σ H Q) : tCB r (tDs K W fr) σ H Q := by
  obtain ⟨B, h⟩ := h
  refine ⟨B, (Run.bind h).imp fun xs B1 H1 e1 h1 vs rs => ?_⟩
  obtain ⟨z, hz, q⟩ := Run.lifted h1
  exact hp Q h1.same hz rs q

def PureCN (K : PySem.W.Frag) (r : List V → Hp → VK → Prop) (g : List D → Option (List D)) : Prop := ∀ {B H : Hp} {xs zs : List D} {vs : List V} (Q : VK), Same B H → g xs = some zs → Reps K B xs vs → (∀ p us, H p = none → Reps K B zs us → Q (.ref p) (upd H p (.lst us))) → r vs H Q
def fcallN (g : List D → Option (List D)) (fr : PS1 → Option (R (List D))) : PS1 → Option (R (List D)) := fun s => bnd (fr s) fun xs => lft (g xs)
theorem cbN_imp {K : PySem.W.Frag} {r : List V → Hp → VK → Prop} {g : List D → Option (List D)} (hp : PureCN K r g) {σ : L2.St} {H : Hp} {Q : VK} (h : tDN K W (fcallN g fr) σ H Q) : tCB r (tDs K W fr) σ H Q := by
  obtain ⟨B, h⟩ := h
  refine ⟨B, (Run.bind h).imp fun xs B1 H1 e1 h1 vs rs => ?_⟩
  obtain ⟨z, hz, q⟩ := Run.lifted h1
  exact hp Q h1.same hz rs fun p us hp ru => q _ _ (Ext.own h1.same hp) p us (e1.h.free hp) (h1.same.free hp) upd_same ru
theorem de_callB {id : String} {x : Str} {p : Pos} {r : List V → Hp → VK → Prop} {g : List D → Option D} (hc : CallR X (.builtin id) r) (hpu : PureC X.K r g) (hg : Gl X x) (hm : X.mg x = none) (hv : bootBuiltins x = some (.builtin id)) (ha : DA X W (e :: es) fr) (hn : x ≠ "__name__" := by decide) (hdb : (x == ("__debug__" : Str)) = false := by decide)
    (he : starEach (e :: es) X.env = (false, eval e X.env) :: starEach es X.env := by rfl) (hpl : (backTo pos (starEach es X.env)).any (·.1) = false := by rfl) : DE X W (.Call (.Name x p) (e :: es) [] pos) (fcall g fr) :=
  PE.imp (pe_callB hc hg hm hv ha hn hdb he hpl) fun _ _ _ h => cb_imp hpu h
theorem de_callTy {T : String} {x : Str} {p : Pos} {r : List V → Hp → VK → Prop} {g : List D → Option D} (hc : CallR X (.type T) r) (hpu : PureC X.K r g) (hg : Gl X x) (hm : X.mg x = none) (hv : bootBuiltins x = some (.type T)) (ha : DA X W (e :: es) fr) (hn : x ≠ "__name__" := by decide) (hdb : (x == ("__debug__" : Str)) = false := by decide)
    (he : starEach (e :: es) X.env = (false, eval e X.env) :: starEach es X.env := by rfl) (hpl : (backTo pos (starEach es X.env)).any (·.1) = false := by rfl) : DE X W (.Call (.Name x p) (e :: es) [] pos) (fcall g fr) :=
  PE.imp (pe_callTy hc hg hm hv ha hn hdb he hpl) fun _ _ _ h => cb_imp hpu h
theorem dn_callB {id : String} {x : Str} {p : Pos} {r : List V → Hp → VK → Prop} {g : List D → Option (List D)} (hc : CallR X (.builtin id) r) (hpu : PureCN X.K r g) (hg : Gl X x) (hm : X.mg x = none) (hv : bootBuiltins x = some (.builtin id)) (ha : DA X W (e :: es) fr) (hn : x ≠ "__name__" := by decide) (hdb : (x == ("__debug__" : Str)) = false := by decide)
    (he : starEach (e :: es) X.env = (false, eval e X.env) :: starEach es X.env := by rfl) (hpl : (backTo pos (starEach es X.env)).any (·.1) = false := by rfl) : DN X W (.Call (.Name x p) (e :: es) [] pos) (fcallN g fr) :=
  PE.imp (pe_callB hc hg hm hv ha hn hdb he hpl) fun _ _ _ h => cbN_imp hpu h
theorem dn_callTy {T : String} {x : Str} {p : Pos} {r : List V → Hp → VK → Prop} {g : List D → Option (List D)} (hc : CallR X (.type T) r) (hpu : PureCN X.K r g) (hg : Gl X x) (hm : X.mg x = none) (hv : bootBuiltins x = some (.type T)) (ha : DA X W (e :: es) fr) (hn : x ≠ "__name__" := by decide) (hdb : (x == ("__debug__" : Str)) = false := by decide)
    (he : starEach (e :: es) X.env = (false, eval e X.env) :: starEach es X.env := by rfl) (hpl : (backTo pos (starEach es X.env)).any (·.1) = false := by rfl) : DN X W (.Call (.Name x p) (e :: es) [] pos) (fcallN g fr) :=
  PE.imp (pe_callTy hc hg hm hv ha hn hdb he hpl) fun _ _ _ h => cbN_imp hpu h
/-- f(e, ..), f a module's name for a built-in function (gcd, lcm) -/
theorem de_callBf {id : String} {x : Str} {p : Pos} {r : List V → Hp → VK → Prop} {g : List D → Option D} (hc : CallR X (.builtin id) r) (hpu : PureC X.K r g) (hg : Gl X x) (hm : X.mg x = some (.builtin id)) (ha : DA X W (e :: es) fr) (hdb : (x == ("__debug__" : Str)) = false := by decide)
    (he : starEach (e :: es) X.env = (false, eval e X.env) :: starEach es X.env := by rfl) (hpl : (backTo pos (starEach es X.env)).any (·.1) = false := by rfl) : DE X W (.Call (.Name x p) (e :: es) [] pos) (fcall g fr) :=
  PE.imp (pe_callBfun hc hg hm ha hdb he hpl) fun _ _ _ h => cb_imp hpu h
theorem reps_1 {K : PySem.W.Frag} {B : Hp} {d : D} {vs : List V} (r : Reps K B [d] vs) : ∃ v, vs = [v] ∧ Rep K B d v := by
  obtain ⟨v, r', rfl, q, s⟩ := reps_cons.mp r
  exact ⟨v, by rw [reps_nil.mp s], q⟩
theorem reps_2 {K : PySem.W.Frag} {B : Hp} {d e : D} {vs : List V} (r : Reps K B [d, e] vs) : ∃ v u, vs = [v, u] ∧ Rep K B d v ∧ Rep K B e u := by
  obtain ⟨v, r', rfl, q, s⟩ := reps_cons.mp r
  obtain ⟨u, rfl, q2⟩ := reps_1 s
  exact ⟨v, u, rfl, q, q2⟩
/-- len -/
def gLen : List D → Option D
  | [.tup xs] => some (.int xs.length)
  | [.lst xs] => some (.int xs.length)
  | [.str z] => if z.length ≤ 100000 then some (.int z.length) else none
  | _ => none
theorem pure_len {K : PySem.W.Frag} : PureC K (fun xs H Q => (∃ p ys, xs = [.ref p] ∧ (SqL K H p ys ∨ SqT K H p ys) ∧ Q (.int ys.length) H) ∨ ∃ z, xs = [.str z] ∧ z.length ≤ sizeLine ∧ Q (.int z.length) H) gLen := by
  intro B H xs z vs Q bh e rs q
  unfold gLen at e
  split at e
  · cases e
    obtain ⟨v, rfl, r⟩ := reps_1 rs
    obtain ⟨p, us, rfl, hs, ru⟩ := rep_tup.mp r
    refine .inl ⟨p, us, rfl, .inr (seqT bh hs), ?_⟩
    rw [ru.length]
    exact q B H (Ext.refl bh) _ (rep_int.mpr rfl)
  · cases e
    obtain ⟨v, rfl, r⟩ := reps_1 rs
    obtain ⟨p, us, rfl, hs, ru⟩ := rep_lst.mp r
    refine .inl ⟨p, us, rfl, .inl (bh.seq hs), ?_⟩
    rw [ru.length]
    exact q B H (Ext.refl bh) _ (rep_int.mpr rfl)
  · split at e
    · cases e
      obtain ⟨v, rfl, r⟩ := reps_1 rs
      exact .inr ⟨_, by rw [rep_str.mp r], Nat.le_trans (by assumption) (by decide), q B H (Ext.refl bh) _ (rep_int.mpr rfl)⟩
    · cases e
  · cases e
theorem de_len {p : Pos} (hg : Gl X "len") (hm : X.mg "len" = none) (ha : DA X W (e :: es) fr)
    (he : starEach (e :: es) X.env = (false, eval e X.env) :: starEach es X.env := by rfl) (hpl : (backTo pos (starEach es X.env)).any (·.1) = false := by rfl) : DE X W (.Call (.Name "len" p) (e :: es) [] pos) (fcall gLen fr) :=
  de_callB (call_len_seq.or call_len_str) pure_len hg hm PySem.boot_len ha (by decide) (by decide) he hpl
def gAbs : List D → Option D
  | [.int i] => some (.int (if i < 0 then -i else i))
  | _ => none
theorem pure_abs {K : PySem.W.Frag} : PureC K (fun xs H Q => ∃ i, xs = [.int i] ∧ Q (.int (if i < 0 then -i else i)) H) gAbs := by
  intro B H xs z vs Q bh e rs q
  unfold gAbs at e
  split at e
  · cases e
    obtain ⟨v, rfl, r⟩ := reps_1 rs
    exact ⟨_, by rw [rep_int.mp r], q B H (Ext.refl bh) _ (rep_int.mpr rfl)⟩
  · cases e
def gInt : List D → Option D
  | [.int i] => some (.int i)
  | [.bl b] => some (.int (if b then 1 else 0))
  | _ => none
theorem pure_int {K : PySem.W.Frag} : PureC K (fun xs H Q => (∃ i, xs = [.int i] ∧ Q (.int i) H) ∨ ∃ k, xs = [.bl k] ∧ Q (.int (if k then 1 else 0)) H) gInt := by
  intro B H xs z vs Q bh e rs q
  unfold gInt at e
  split at e
  · cases e
    obtain ⟨v, rfl, r⟩ := reps_1 rs
    exact .inl ⟨_, by rw [rep_int.mp r], q B H (Ext.refl bh) _ (rep_int.mpr rfl)⟩
  · cases e
    obtain ⟨v, rfl, r⟩ := reps_1 rs
    exact .inr ⟨_, by rw [rep_bl.mp r], q B H (Ext.refl bh) _ (rep_int.mpr rfl)⟩
  · cases e
def gTuple : List D → Option D
  | [.tup xs] => some (.tup xs)
  | [.lst xs] => some (.tup xs)
  | _ => none
theorem pure_tuple {K : PySem.W.Frag} : PureC K (fun xs H Q => ∃ p ys, xs = [.ref p] ∧ ((SqL K H p ys ∧ ∀ l, H l = none → Q (.ref l) (upd H l (.tup ys))) ∨ (SqT K H p ys ∧ Q (.ref p) H))) gTuple := by
  intro B H xs z vs Q bh e rs q
  unfold gTuple at e
  split at e
  · cases e
    obtain ⟨v, rfl, r⟩ := reps_1 rs
    obtain ⟨p, us, rfl, hs, ru⟩ := rep_tup.mp r
    exact ⟨p, us, rfl, .inr ⟨seqT bh hs, q B H (Ext.refl bh) _ (rep_tup.mpr ⟨p, us, rfl, hs, ru⟩)⟩⟩
  · cases e
    obtain ⟨v, rfl, r⟩ := reps_1 rs
    obtain ⟨p, us, rfl, hs, ru⟩ := rep_lst.mp r
    refine ⟨p, us, rfl, .inl ⟨bh.seq hs, fun l hl => ?_⟩⟩
    have E := Ext.laid (o := .tup us) bh hl
    exact q _ _ E _ (rep_tup.mpr ⟨l, us, rfl, SqT.of upd_same, ru.mono E.b⟩)
  · cases e
def gList : List D → Option (List D)
  | [.tup xs] => some xs
  | [.lst xs] => some xs
  | _ => none
theorem pure_list {K : PySem.W.Frag} : PureCN K (fun xs H Q => ∃ p ys, xs = [.ref p] ∧ (SqL K H p ys ∨ SqT K H p ys) ∧ ∀ l, H l = none → Q (.ref l) (upd H l (.lst ys))) gList := by
  intro B H xs z vs Q bh e rs q
  unfold gList at e
  split at e
  · cases e
    obtain ⟨v, rfl, r⟩ := reps_1 rs
    obtain ⟨p, us, rfl, hs, ru⟩ := rep_tup.mp r
    exact ⟨p, us, rfl, .inr (seqT bh hs), fun l hl => q l us hl ru⟩
  · cases e
    obtain ⟨v, rfl, r⟩ := reps_1 rs
    obtain ⟨p, us, rfl, hs, ru⟩ := rep_lst.mp r
    exact ⟨p, us, rfl, .inl (bh.seq hs), fun l hl => q l us hl ru⟩
  · cases e
/-- the ints of a row -/
def intsOf : List D → Option (List Int)
  | [] => some []
  | .int i :: r => (intsOf r).map fun l => i :: l
  | _ => none
def blsOf : List D → Option (List Bool)
  | [] => some []
  | .bl i :: r => (blsOf r).map fun l => i :: l
  | _ => none
theorem ints_rep {K : PySem.W.Frag} {B : Hp} : ∀ {ds : List D} {ns : List Int} {vs : List V}, intsOf ds = some ns → Reps K B ds vs → vs = ns.map V.int
  | [], _, _, h, r => by cases h; exact reps_nil.mp r
  | d :: ds, _, _, h, r => by
    obtain ⟨v, us, rfl, r1, r2⟩ := reps_cons.mp r
    cases d with
    | int i =>
      have h : (intsOf ds).map (fun l => i :: l) = some _ := h
      obtain ⟨l, e, rfl⟩ := Option.map_eq_some_iff.mp h
      rw [rep_int.mp r1, ints_rep e r2]
      rfl
    | _ => cases h
theorem bls_rep {K : PySem.W.Frag} {B : Hp} : ∀ {ds : List D} {ns : List Bool} {vs : List V}, blsOf ds = some ns → Reps K B ds vs → vs = ns.map V.bl
  | [], _, _, h, r => by cases h; exact reps_nil.mp r
  | d :: ds, _, _, h, r => by
    obtain ⟨v, us, rfl, r1, r2⟩ := reps_cons.mp r
    cases d with
    | bl i =>
      have h : (blsOf ds).map (fun l => i :: l) = some _ := h
      obtain ⟨l, e, rfl⟩ := Option.map_eq_some_iff.mp h
      rw [rep_bl.mp r1, bls_rep e r2]
      rfl
    | _ => cases h
def gSum : List D → Option D
  | [.lst xs] => (intsOf xs).map fun ns => .int ns.sum
  | _ => none
theorem pure_sum {K : PySem.W.Frag} : PureC K (rSum K) gSum := by
  intro B H xs z vs Q bh e rs q
  unfold gSum at e
  split at e
  · obtain ⟨ns, h, rfl⟩ := Option.map_eq_some_iff.mp e
    obtain ⟨v, rfl, r⟩ := reps_1 rs
    obtain ⟨p, us, rfl, hs, ru⟩ := rep_lst.mp r
    have e2 := ints_rep h ru
    subst e2
    exact ⟨p, ns, rfl, bh.seq hs, q B H (Ext.refl bh) _ (rep_int.mpr rfl)⟩
  · cases e
def gAll : List D → Option D
  | [.lst xs] => (blsOf xs).map fun ns => .bl (ns.all id)
  | _ => none
def gAny : List D → Option D
  | [.lst xs] => (blsOf xs).map fun ns => .bl (ns.any id)
  | _ => none
theorem pure_all {K : PySem.W.Frag} : PureC K (rAll K) gAll := by
  intro B H xs z vs Q bh e rs q
  unfold gAll at e
  split at e
  · obtain ⟨ns, h, rfl⟩ := Option.map_eq_some_iff.mp e
    obtain ⟨v, rfl, r⟩ := reps_1 rs
    obtain ⟨p, us, rfl, hs, ru⟩ := rep_lst.mp r
    have e2 := bls_rep h ru
    subst e2
    exact ⟨p, ns, rfl, bh.seq hs, q B H (Ext.refl bh) _ (rep_bl.mpr rfl)⟩
  · cases e
theorem pure_any {K : PySem.W.Frag} : PureC K (rAny K) gAny := by
  intro B H xs z vs Q bh e rs q
  unfold gAny at e
  split at e
  · obtain ⟨ns, h, rfl⟩ := Option.map_eq_some_iff.mp e
    obtain ⟨v, rfl, r⟩ := reps_1 rs
    obtain ⟨p, us, rfl, hs, ru⟩ := rep_lst.mp r
    have e2 := bls_rep h ru
    subst e2
    exact ⟨p, ns, rfl, bh.seq hs, q B H (Ext.refl bh) _ (rep_bl.mpr rfl)⟩
  · cases e
def minI : List Int → Option Int
  | [] => none
  | a :: r => some (r.foldl min a)
def maxI : List Int → Option Int
  | [] => none
  | a :: r => some (r.foldl max a)
theorem foldl_min_le : ∀ (r : List Int) (a : Int), r.foldl min a ≤ a ∧ (∀ y ∈ r, r.foldl min a ≤ y) ∧ (r.foldl min a = a ∨ r.foldl min a ∈ r)
  | [], a => ⟨Int.le_refl _, (fun y h => by cases h), .inl rfl⟩
  | b :: r, a => by
    obtain ⟨h1, h2, h3⟩ := foldl_min_le r (min a b)
    rw [List.foldl_cons]
    refine ⟨by omega, fun y hy => ?_, ?_⟩
    · rcases List.mem_cons.mp hy with rfl | hy
      · omega
      · exact h2 y hy
    · rcases h3 with h3 | h3
      · rw [h3]
        by_cases c : a ≤ b
        · exact .inl (by omega)
        · exact .inr (List.mem_cons.mpr (.inl (by omega)))
      · exact .inr (List.mem_cons.mpr (.inr h3))
theorem foldl_max_le : ∀ (r : List Int) (a : Int), a ≤ r.foldl max a ∧ (∀ y ∈ r, y ≤ r.foldl max a) ∧ (r.foldl max a = a ∨ r.foldl max a ∈ r)
  | [], a => ⟨Int.le_refl _, (fun y h => by cases h), .inl rfl⟩
  | b :: r, a => by
    obtain ⟨h1, h2, h3⟩ := foldl_max_le r (max a b)
    rw [List.foldl_cons]
    refine ⟨by omega, fun y hy => ?_, ?_⟩
    · rcases List.mem_cons.mp hy with rfl | hy
      · omega
      · exact h2 y hy
    · rcases h3 with h3 | h3
      · rw [h3]
        by_cases c : b ≤ a
        · exact .inl (by omega)
        · exact .inr (List.mem_cons.mpr (.inl (by omega)))
      · exact .inr (List.mem_cons.mpr (.inr h3))
theorem minI_is {ns : List Int} {m m' : Int} (h : minI ns = some m) (h1 : m' ∈ ns) (h2 : ∀ y, y ∈ ns → m' ≤ y) : m' = m := by
  cases ns with
  | nil => cases h
  | cons a r =>
    cases h
    obtain ⟨q1, q2, q3⟩ := foldl_min_le r a
    have e1 : m' ≤ r.foldl min a := by
      rcases q3 with q3 | q3
      · rw [q3]; exact h2 a (List.mem_cons_self ..)
      · exact h2 _ (List.mem_cons.mpr (.inr q3))
    have e2 : r.foldl min a ≤ m' := by
      rcases List.mem_cons.mp h1 with rfl | h1
      · exact q1
      · exact q2 _ h1
    omega
theorem maxI_is {ns : List Int} {m m' : Int} (h : maxI ns = some m) (h1 : m' ∈ ns) (h2 : ∀ y, y ∈ ns → y ≤ m') : m' = m := by
  cases ns with
  | nil => cases h
  | cons a r =>
    cases h
    obtain ⟨q1, q2, q3⟩ := foldl_max_le r a
    have e1 : r.foldl max a ≤ m' := by
      rcases q3 with q3 | q3
      · rw [q3]; exact h2 a (List.mem_cons_self ..)
      · exact h2 _ (List.mem_cons.mpr (.inr q3))
    have e2 : m' ≤ r.foldl max a := by
      rcases List.mem_cons.mp h1 with rfl | h1
      · exact q1
      · exact q2 _ h1
    omega
def gMin : List D → Option D
  | [.lst xs] => (intsOf xs).bind fun ns => (minI ns).map .int
  | [.int i, .int j] => some (.int (if j < i then j else i))
  | _ => none
def gMax : List D → Option D
  | [.lst xs] => (intsOf xs).bind fun ns => (maxI ns).map .int
  | [.int i, .int j] => some (.int (if j > i then j else i))
  | _ => none
theorem pure_min {K : PySem.W.Frag} : PureC K (fun xs H Q => rMin K xs H Q ∨ ∃ i j, xs = [.int i, .int j] ∧ Q (.int (if j < i then j else i)) H) gMin := by
  intro B H xs z vs Q bh e rs q
  unfold gMin at e
  split at e
  · obtain ⟨ns, h, e⟩ := Option.bind_eq_some_iff.mp e
    obtain ⟨m, hm, rfl⟩ := Option.map_eq_some_iff.mp e
    obtain ⟨v, rfl, r⟩ := reps_1 rs
    obtain ⟨p, us, rfl, hs, ru⟩ := rep_lst.mp r
    have e2 := ints_rep h ru
    subst e2
    refine .inl ⟨p, ns, rfl, bh.seq hs, ?_, fun m' h1 h2 => ?_⟩
    · cases ns with
      | nil => cases hm
      | cons a r => exact Nat.succ_pos _
    · rw [minI_is hm h1 h2]
      exact q B H (Ext.refl bh) _ (rep_int.mpr rfl)
  · cases e
    obtain ⟨v, u, rfl, r1, r2⟩ := reps_2 rs
    exact .inr ⟨_, _, by rw [rep_int.mp r1, rep_int.mp r2], q B H (Ext.refl bh) _ (rep_int.mpr rfl)⟩
  · cases e
theorem pure_max {K : PySem.W.Frag} : PureC K (fun xs H Q => rMax K xs H Q ∨ ∃ i j, xs = [.int i, .int j] ∧ Q (.int (if j > i then j else i)) H) gMax := by
  intro B H xs z vs Q bh e rs q
  unfold gMax at e
  split at e
  · obtain ⟨ns, h, e⟩ := Option.bind_eq_some_iff.mp e
    obtain ⟨m, hm, rfl⟩ := Option.map_eq_some_iff.mp e
    obtain ⟨v, rfl, r⟩ := reps_1 rs
    obtain ⟨p, us, rfl, hs, ru⟩ := rep_lst.mp r
    have e2 := ints_rep h ru
    subst e2
    refine .inl ⟨p, ns, rfl, bh.seq hs, ?_, fun m' h1 h2 => ?_⟩
    · cases ns with
      | nil => cases hm
      | cons a r => exact Nat.succ_pos _
    · rw [maxI_is hm h1 h2]
      exact q B H (Ext.refl bh) _ (rep_int.mpr rfl)
  · cases e
    obtain ⟨v, u, rfl, r1, r2⟩ := reps_2 rs
    exact .inr ⟨_, _, by rw [rep_int.mp r1, rep_int.mp r2], q B H (Ext.refl bh) _ (rep_int.mpr rfl)⟩
  · cases e
def gGcd : List D → Option D
  | [.int i, .int j] => some (.int (Nat.gcd i.natAbs j.natAbs : Nat))
  | _ => none
theorem pure_gcd {K : PySem.W.Frag} : PureC K rGcd gGcd := by
  intro B H xs z vs Q bh e rs q
  unfold gGcd at e
  split at e
  · cases e
    obtain ⟨v, u, rfl, r1, r2⟩ := reps_2 rs
    exact ⟨_, _, by rw [rep_int.mp r1, rep_int.mp r2], q B H (Ext.refl bh) _ (rep_int.mpr rfl)⟩
  · cases e
def gDivmod : List D → Option D
  | [.int i, .int j] => if 0 < j ∧ j < 1073741824 then some (.tup [.int (i / j), .int (i % j)]) else none
  | _ => none
theorem pure_divmod {K : PySem.W.Frag} : PureC K (fun xs H Q => ∃ i j, xs = [.int i, .int j] ∧ CDiv i j ∧ ∀ p, H p = none → Q (.ref p) (upd H p (.tup [.int (i / j), .int (i % j)]))) gDivmod := by
  intro B H xs z vs Q bh e rs q
  unfold gDivmod at e
  split at e
  · rename_i i j
    split at e
    · rename_i c
      cases e
      obtain ⟨v, u, rfl, r1, r2⟩ := reps_2 rs
      refine ⟨_, _, by rw [rep_int.mp r1, rep_int.mp r2], c, fun p hp => ?_⟩
      have E := Ext.laid (o := .tup [.int (i / j), .int (i % j)]) bh hp
      exact q _ _ E _ (rep_tup.mpr ⟨p, _, rfl, SqT.of upd_same, Reps.cons (rep_int.mpr rfl) (Reps.one (rep_int.mpr rfl))⟩)
    · cases e
  · cases e
def gStr : List D → Option D
  | [.int i] => if i.natAbs.log2 < 1920 then some (.str (toString i)) else none
  | _ => none
theorem pure_str {K : PySem.W.Frag} : PureC K (fun xs H Q => ∃ i, xs = [.int i] ∧ i.natAbs.log2 < 1920 ∧ Q (.str (toString i)) H) gStr := by
  intro B H xs z vs Q bh e rs q
  unfold gStr at e
  split at e
  · split at e
    · cases e
      obtain ⟨v, rfl, r1⟩ := reps_1 rs
      exact ⟨_, by rw [rep_int.mp r1], by assumption, q B H (Ext.refl bh) _ (rep_str.mpr rfl)⟩
    · cases e
  · cases e
/-! ### isinstance of a built-in class -/
def tyOf : D → Option String
  | .non => some "NoneType"
  | .bl _ => some "bool"
  | .int _ => some "int"
  | .str _ => some "str"
  | .tup _ => some "tuple"
  | .lst _ => some "list"
  | .obj _ _ _ => none
  | .dct _ _ => none
  | .ref _ => none
def gIsi (T : String) (x : D) : Option D := (tyOf x).bind fun t => (kitB t T).map .bl
theorem ty_rep {K : PySem.W.Frag} {H : Hp} {x : D} {v : V} {t : String} (h : tyOf x = some t) (r : Rep K H x v) : TyX K H v (.type t) := by
  cases x with
  | non => cases h; rw [rep_non.mp r]; exact .base .non
  | bl b => cases h; rw [rep_bl.mp r]; exact .base (.bl b)
  | int b => cases h; rw [rep_int.mp r]; exact .base (.int b)
  | str b => cases h; rw [rep_str.mp r]; exact .base (.str b)
  | tup b =>
    cases h
    obtain ⟨p, us, rfl, hs, ru⟩ := rep_tup.mp r
    rcases hs with (h | ⟨o, h⟩) | ⟨o, its, n, h, hc, _⟩
    · exact .base (.tup h)
    · exact .fTuple h
    · exact .kTuple h hc
  | lst b =>
    cases h
    obtain ⟨p, us, rfl, hs, ru⟩ := rep_lst.mp r
    rcases hs with (h | ⟨o, h⟩) | ⟨o, its, n, h, hc, _⟩
    · exact .base (.lst h)
    · exact .base (.frz h)
    · exact .kList h hc
  | obj _ _ _ => cases h
  | dct _ _ => cases h
  | ref _ => cases h
theorem de_isi {T : String} {x : Str} {p p2 : Pos} (hg : Gl X "isinstance") (hm : X.mg "isinstance" = none) (hv0 : bootBuiltins "isinstance" = some (.builtin "isinstance")) (hg2 : Gl X x) (hm2 : X.mg x = none) (hv : bootBuiltins x = some (.type T)) (ha : DE X W e fe) (hn : x ≠ "__name__" := by decide) (hd : (x == ("__debug__" : Str)) = false := by decide)
    (hs : starEach [e, .Name x p2] X.env = (false, eval e X.env) :: starEach [.Name x p2] X.env := by rfl) (hs2 : starEach [.Name x p2] X.env = (false, eval (.Name x p2) X.env) :: starEach [] X.env := by rfl) (hpl : (backTo pos (starEach [.Name x p2] X.env)).any (·.1) = false := by rfl) :
    DE X W (.Call (.Name "isinstance" p) [e, .Name x p2] [] pos) (fun1 (gIsi T) fe) := by
  refine PE.imp (pe_callB call_isi hg hm hv0 (pa_cons ha (pa_cons (pe_bltn (v := .ty T) hg2 hm2 hv rfl hn hd) pa_nil hs2) hs) (by decide) (by decide) hs hpl) fun σ H Q h => ?_
  obtain ⟨B, h⟩ := h
  refine ⟨B, (Run.bind h).imp fun x B1 H1 e1 h1 v rv => ?_⟩
  obtain ⟨z, hz, q⟩ := Run.lifted h1
  obtain ⟨t, ht, hz⟩ := Option.bind_eq_some_iff.mp hz
  obtain ⟨k, hk, rfl⟩ := Option.map_eq_some_iff.mp hz
  exact ⟨v, .ty T, .type t, .type T, k, rfl, .ty T, ty_rep ht (rv.mono h1.same), kit_ty hk, q B1 H1 (Ext.refl h1.same) _ (rep_bl.mpr rfl)⟩

/-! ### what is walked -/
def fSeqOf (fe : PS1 → Option (R D)) : PS1 → Option (R (List D)) := fun s => bnd (fe s) fun x => lft (seqOf x)
theorem walk_tup {K : PySem.W.Frag} {B : Hp} {p : Addr} {vs : List V} {ds : List D} (hs : SqT K B p vs) (rs : Reps K B ds vs) : WalkD K B (Itt K p) ds where
  go := fun i d B1 H1 b1 bh e => by
    obtain ⟨v, ev, rv⟩ := rs.get e
    have hq := seqT (b1.trans bh) hs
    refine ⟨⟨vs, v, hq, ev⟩, fun x H' ⟨eH, hx⟩ => ?_⟩
    subst eH
    have := hx vs hq
    rw [ev] at this
    cases this
    exact ⟨B1, Ext.refl bh, rv.mono b1⟩
  stop := fun B1 H1 b1 bh => ⟨vs, seqT (b1.trans bh) hs, by rw [rs.length]; exact Nat.le_refl _⟩
theorem walk_lst {K : PySem.W.Frag} {B : Hp} {p : Addr} {vs : List V} {ds : List D} (hs : SqL K B p vs) (rs : Reps K B ds vs) : WalkD K B (Itl K p) ds where
  go := fun i d B1 H1 b1 bh e => by
    obtain ⟨v, ev, rv⟩ := rs.get e
    have hq := (b1.trans bh).seq hs
    refine ⟨⟨vs, v, hq, ev⟩, fun x H' ⟨eH, hx⟩ => ?_⟩
    subst eH
    have := hx vs hq
    rw [ev] at this
    cases this
    exact ⟨B1, Ext.refl bh, rv.mono b1⟩
  stop := fun B1 H1 b1 bh => ⟨vs, (b1.trans bh).seq hs, by rw [rs.length]; exact Nat.le_refl _⟩
theorem di_seq {tg : Expr} (he : DE X W e fe) : DI X W tg e (fSeqOf fe) := by
  refine PI.imp (pi_or2 (pi_list he) (pi_tup he)) fun σ H R h => ?_
  obtain ⟨B, ad, s, r, hs, hf, hq⟩ := h
  have hf : bnd (fe s) (fun x => lft (seqOf x)) = some r := hf
  have main : ∀ d, fe s = some (.ok d) → ∃ ds, seqOf d = some ds ∧ r = .ok ds := fun d ed => by
    rw [ed] at hf
    obtain ⟨ds, h1, h2⟩ := lft_eq hf
    exact ⟨ds, h1, h2⟩
  cases ed : fe s with
  | none => rw [ed] at hf; cases hf
  | some rd =>
    cases rd with
    | er x =>
      rw [ed] at hf
      cases hf
      exact .inl ⟨B, ad, s, .er x, hs, ed, hq⟩
    | ok d =>
      obtain ⟨ds, e1, rfl⟩ := main d ed
      cases d with
      | tup xs =>
        cases e1
        refine .inr ⟨B, ad, s, .ok (.tup ds), hs, ed, fun B' H' x v rv => ?_⟩
        obtain ⟨p, vs, rfl, hq', rs⟩ := rep_tup.mp rv
        exact ⟨p, rfl, ⟨vs, seqT x.bh hq'⟩, hq B' H' x _ (walk_tup hq' rs)⟩
      | lst xs =>
        cases e1
        refine .inl ⟨B, ad, s, .ok (.lst ds), hs, ed, fun B' H' x v rv => ?_⟩
        obtain ⟨p, vs, rfl, hq', rs⟩ := rep_lst.mp rv
        exact ⟨p, rfl, ⟨vs, x.bh.seq hq'⟩, hq B' H' x _ (walk_lst hq' rs)⟩
      | _ => cases e1
/-- range -/
def rangeD (lo : Int) (n : Nat) : List D := (List.range n).map fun k => .int (lo + (k : Nat))
theorem walk_range {K : PySem.W.Frag} {B : Hp} {lo : Int} {n : Nat} : WalkD K B (Itr lo n) (rangeD lo n) where
  go := fun i d B1 H1 b1 bh e => by
    unfold rangeD at e
    rw [List.getElem?_map] at e
    obtain ⟨k, e1, rfl⟩ := Option.map_eq_some_iff.mp e
    have hk := List.getElem?_eq_some_iff.mp e1
    obtain ⟨hi, hk⟩ := hk
    rw [List.getElem_range] at hk
    subst hk
    rw [List.length_range] at hi
    refine ⟨hi, fun x H' ⟨eH, ex⟩ => ?_⟩
    subst eH ex
    exact ⟨B1, Ext.refl bh, rep_int.mpr rfl⟩
  stop := fun B1 H1 b1 bh => by
    show n ≤ (rangeD lo n).length
    unfold rangeD
    rw [List.length_map, List.length_range]
    exact Nat.le_refl _
def inB (i : Int) : Bool := decide (-(2 ^ 62) ≤ i) && decide (i < 2 ^ 62)
theorem inB_of {i : Int} (h : inB i = true) : -(2 ^ 62) ≤ i ∧ i < 2 ^ 62 := by
  unfold inB at h
  rw [Bool.and_eq_true, decide_eq_true_eq, decide_eq_true_eq] at h
  exact h
def gRng : List D → Option (List D)
  | [.int j] => if inB j = true then some (rangeD 0 j.toNat) else none
  | [.int i, .int j] => if (inB i && inB j) = true then some (rangeD i (j - i).toNat) else none
  | _ => none
theorem di_range1 {tg : Expr} {p : Pos} (hg : Gl X "range") (hm : X.mg "range" = none) (ha : DA X W [a] fr) (hs : starEach [a] X.env = [(false, eval a X.env)] := by rfl) (h1 : ∀ s xs, fr s = some (.ok xs) → xs.length = 1) : DI X W tg (.Call (.Name "range" p) [a] [] pos) (fcallN gRng fr) := by
  refine PI.imp (pi_range1 hg hm ha hs) fun σ H R h => ?_
  obtain ⟨B, h⟩ := h
  refine ⟨B, ?_⟩
  obtain ⟨ad, s, r, hsl, hf, hq⟩ := h
  have hf : bnd (fr s) (fun xs => lft (gRng xs)) = some r := hf
  cases ed : fr s with
  | none => rw [ed] at hf; cases hf
  | some rd =>
    rw [ed] at hf
    refine ⟨ad, s, rd, hsl, ed, ?_⟩
    cases rd with
    | er x => cases hf; exact hq
    | ok xs =>
      obtain ⟨ds, e1, rfl⟩ := lft_eq (show lft (gRng xs) = some r from hf)
      have l1 := h1 s xs ed
      refine fun B' H' x vs rs => ?_
      unfold gRng at e1
      split at e1
      · split at e1
        · rename_i c
          cases e1
          obtain ⟨v, rfl, rv⟩ := reps_1 rs
          obtain ⟨c1, c2⟩ := inB_of c
          exact ⟨_, by rw [rep_int.mp rv], c1, c2, hq B' H' x _ walk_range⟩
        · cases e1
      · simp at l1
      · cases e1
theorem di_range2 {tg : Expr} {p : Pos} (hg : Gl X "range") (hm : X.mg "range" = none) (ha : DA X W [a, b] fr) (hs : starEach [a, b] X.env = [(false, eval a X.env), (false, eval b X.env)] := by rfl) (hs2 : starEach [b] X.env = [(false, eval b X.env)] := by rfl) (h1 : ∀ s xs, fr s = some (.ok xs) → xs.length = 2) : DI X W tg (.Call (.Name "range" p) [a, b] [] pos) (fcallN gRng fr) := by
  refine PI.imp (pi_range2 hg hm ha hs hs2) fun σ H R h => ?_
  obtain ⟨B, ad, s, r, hsl, hf, hq⟩ := h
  have hf : bnd (fr s) (fun xs => lft (gRng xs)) = some r := hf
  refine ⟨B, ?_⟩
  cases ed : fr s with
  | none => rw [ed] at hf; cases hf
  | some rd =>
    rw [ed] at hf
    refine ⟨ad, s, rd, hsl, ed, ?_⟩
    cases rd with
    | er x => cases hf; exact hq
    | ok xs =>
      obtain ⟨ds, e1, rfl⟩ := lft_eq (show lft (gRng xs) = some r from hf)
      have l1 := h1 s xs ed
      refine fun B' H' x vs rs => ?_
      unfold gRng at e1
      split at e1
      · simp at l1
      · split at e1
        · rename_i c
          cases e1
          rw [Bool.and_eq_true] at c
          obtain ⟨v, u, rfl, rv, ru⟩ := reps_2 rs
          obtain ⟨c1, c2⟩ := inB_of c.1
          obtain ⟨c3, c4⟩ := inB_of c.2
          exact ⟨_, _, by rw [rep_int.mp rv, rep_int.mp ru], ⟨c1, c2, c3, c4⟩, hq B' H' x _ walk_range⟩
        · cases e1
      · cases e1
theorem cons_len {fe : PS1 → Option (R D)} {fr : PS1 → Option (R (List D))} {n : Nat} (h : ∀ s xs, fr s = some (.ok xs) → xs.length = n) (s : PS1) (xs : List D) (e : fCons fe fr s = some (.ok xs)) : xs.length = n + 1 := by
  have e : bnd (fe s) (fun x => bnd (fr s) fun xs => some (.ok (x :: xs))) = some (.ok xs) := e
  cases e1 : fe s with
  | none => rw [e1] at e; cases e
  | some r =>
    rw [e1] at e
    cases r with
    | er x => cases e
    | ok x =>
      have e : bnd (fr s) (fun xs => some (.ok (x :: xs))) = some (.ok xs) := e
      cases e2 : fr s with
      | none => rw [e2] at e; cases e
      | some r =>
        rw [e2] at e
        cases r with
        | er x => cases e
        | ok ys =>
          cases e
          rw [List.length_cons, h s ys e2]
theorem nil_len (s : PS1) (xs : List D) (e : fNil s = some (.ok xs)) : xs.length = 0 := by cases e; rfl
/-- zip of two lists, two tuples -/
def zipD : List D → List D → List D
  | x :: xs, y :: ys => .tup [x, y] :: zipD xs ys
  | _, _ => []
theorem zipD_get : ∀ {xs ys : List D} {i : Nat} {d : D}, (zipD xs ys)[i]? = some d → ∃ x y, xs[i]? = some x ∧ ys[i]? = some y ∧ d = .tup [x, y]
  | [], _, _, _, h => by simp [zipD] at h
  | _ :: _, [], _, _, h => by simp [zipD] at h
  | x :: xs, y :: ys, 0, d, h => by
    have e : D.tup [x, y] = d := Option.some.inj h
    exact ⟨x, y, rfl, rfl, e.symm⟩
  | x :: xs, y :: ys, i + 1, d, h => zipD_get (xs := xs) (ys := ys) h
theorem zipD_len : ∀ (xs ys : List D), xs.length ≤ (zipD xs ys).length ∨ ys.length ≤ (zipD xs ys).length
  | [], _ => .inl (Nat.zero_le _)
  | _ :: _, [] => .inr (Nat.zero_le _)
  | x :: xs, y :: ys => by
    unfold zipD
    rw [List.length_cons, List.length_cons, List.length_cons]
    rcases zipD_len xs ys with h | h
    · exact .inl (by omega)
    · exact .inr (by omega)
def gZip : List D → Option (List D)
  | [.tup xs, .tup ys] => some (zipD xs ys)
  | [.lst xs, .lst ys] => some (zipD xs ys)
  | _ => none
theorem di_zip {e2 : Expr} {p tpos : Pos} {elts : List Expr} {kk : Nat} (hg : Gl X "zip") (hm : X.mg "zip" = none) (ha : DA X W [e, e2] fr)
    (hs : starEach [e, e2] X.env = (false, eval e X.env) :: starEach [e2] X.env := by rfl) (hpl : (backTo pos (starEach [e2] X.env)).any (·.1) = false := by rfl) : DI X W (.Tuple elts kk tpos) (.Call (.Name "zip" p) [e, e2] [] pos) (fcallN gZip fr) := by
  refine PI.imp (RZ.pi_zipA hg hm ha hs hpl) fun σ H R h => ?_
  obtain ⟨B, h⟩ := h
  refine ⟨B, (Run.bind h).imp fun xs B1 H1 e1 h1 vs rs => ?_⟩
  obtain ⟨z, hz, q⟩ := Run.lifted h1
  have bh := h1.same
  unfold gZip at hz
  split at hz
  · cases hz
    obtain ⟨v, u, rfl, r1, r2⟩ := reps_2 rs
    obtain ⟨p, us, rfl, hs, ru⟩ := rep_tup.mp r1
    obtain ⟨p', us', rfl, hs', ru'⟩ := rep_tup.mp r2
    refine ⟨p, p', us, us', rfl, .inr ⟨seqT bh hs, seqT bh hs', q B1 H1 (Ext.refl bh) _ ⟨fun i d B2 H2 b2 bh2 e => ?_, fun B2 H2 b2 bh2 => ?_⟩⟩⟩
    · obtain ⟨x, y, ex, ey, rfl⟩ := zipD_get e
      obtain ⟨w, hw, rw'⟩ := ru.get ex
      obtain ⟨w', hw', rw''⟩ := ru'.get ey
      have q1 := seqT (b2.trans bh2) hs
      have q2 := seqT (b2.trans bh2) hs'
      refine ⟨⟨us, us', w, w', q1, q2, hw, hw'⟩, fun t H' ⟨T, a, b, et, hT, eH, ha, hb⟩ => ?_⟩
      subst et eH
      have e1 := ha us q1
      have e2 := hb us' q2
      rw [hw] at e1
      rw [hw'] at e2
      cases e1
      cases e2
      have E := Ext.laid (o := .tup [w, w']) bh2 hT
      exact ⟨_, E, rep_tup.mpr ⟨T, _, rfl, SqT.of upd_same, Reps.cons ((rw'.mono b2).mono E.b) (Reps.one ((rw''.mono b2).mono E.b))⟩⟩
    · refine ⟨us, us', seqT (b2.trans bh2) hs, seqT (b2.trans bh2) hs', ?_⟩
      rw [ru.length, ru'.length]
      exact zipD_len _ _
  · cases hz
    obtain ⟨v, u, rfl, r1, r2⟩ := reps_2 rs
    obtain ⟨p, us, rfl, hs, ru⟩ := rep_lst.mp r1
    obtain ⟨p', us', rfl, hs', ru'⟩ := rep_lst.mp r2
    refine ⟨p, p', us, us', rfl, .inl ⟨bh.seq hs, bh.seq hs', q B1 H1 (Ext.refl bh) _ ⟨fun i d B2 H2 b2 bh2 e => ?_, fun B2 H2 b2 bh2 => ?_⟩⟩⟩
    · obtain ⟨x, y, ex, ey, rfl⟩ := zipD_get e
      obtain ⟨w, hw, rw'⟩ := ru.get ex
      obtain ⟨w', hw', rw''⟩ := ru'.get ey
      have q1 := (b2.trans bh2).seq hs
      have q2 := (b2.trans bh2).seq hs'
      refine ⟨⟨us, us', w, w', q1, q2, hw, hw'⟩, fun t H' ⟨T, a, b, et, hT, eH, ha, hb⟩ => ?_⟩
      subst et eH
      have e1 := ha us q1
      have e2 := hb us' q2
      rw [hw] at e1
      rw [hw'] at e2
      cases e1
      cases e2
      have E := Ext.laid (o := .tup [w, w']) bh2 hT
      exact ⟨_, E, rep_tup.mpr ⟨T, _, rfl, SqT.of upd_same, Reps.cons ((rw'.mono b2).mono E.b) (Reps.one ((rw''.mono b2).mono E.b))⟩⟩
    · refine ⟨us, us', (b2.trans bh2).seq hs, (b2.trans bh2).seq hs', ?_⟩
      rw [ru.length, ru'.length]
      exact zipD_len _ _
  · cases hz
end
end FL

namespace FL
open PySem PySem.Spec PyProof.Rows L2
/-! ### comprehensions -/
abbrev W0 : WX := fun _ _ _ _ => False
def wipeS (s : PS1) : List Nat → PS1
  | [] => s
  | v :: vs => (wipeS s vs).set v .no
theorem Good.of_slots {K : PySem.W.Frag} {B H : Hp} {ad : Nat → Addr} {σ : L2.St} {s : PS1} (h : Slots K B H ad σ s) : Good K (fun _ => none) (fun _ => none) B H ad σ s :=
  ⟨h, ⟨(fun _ _ e => by cases e), (fun _ _ e => by cases e), h.bh, fun _ _ e => absurd rfl e⟩, fun _ _ _ _ => rfl⟩
theorem Slots.wiped {K : PySem.W.Frag} {B H : Hp} {ad : Nat → Addr} {σ : L2.St} {s : PS1} (h : Slots K B H ad σ s) : ∀ vs : List Nat, Slots K B H ad (wipe σ vs) (wipeS s vs)
  | [] => h
  | v :: vs => ((Good.of_slots (Slots.wiped h vs)).setNo none).sl
theorem wipe_comm {α : Type} : ∀ (l : List α) (i j : Nat) (x y : α), i ≠ j → (l.set i x).set j y = (l.set j y).set i x := fun l i j x y h => List.set_comm x y h
theorem wipe_set {σ : L2.St} {i : Nat} {x : Option V} : ∀ {vs : List Nat}, i ∈ vs → wipe (σ.set i x) vs = wipe σ vs
  | v :: vs, h => by
    show (wipe (σ.set i x) vs).set v none = (wipe σ vs).set v none
    by_cases q : i ∈ vs
    · rw [wipe_set q]
    · have e : i = v := (List.mem_cons.mp h).resolve_right q
      subst e
      have out : ∀ {ws : List Nat}, i ∉ ws → wipe (σ.set i x) ws = (wipe σ ws).set i x := fun {ws} => by
        induction ws with
        | nil => exact fun _ => rfl
        | cons w ws ih =>
          intro n
          rw [List.mem_cons, not_or] at n
          show (wipe (σ.set i x) ws).set w none = ((wipe σ ws).set w none).set i x
          rw [ih n.2, List.set_comm _ _ n.1]
      rw [out q, List.set_set]
theorem wipe_wipe {σ : L2.St} (vs : List Nat) : wipe (wipe σ vs) vs = wipe σ vs := by
  have gen : ∀ (ws : List Nat), (∀ w ∈ ws, w ∈ vs) → wipe (wipe σ ws) vs = wipe σ vs := fun ws => by
    induction ws with
    | nil => exact fun _ => rfl
    | cons w ws ih =>
      intro h
      show wipe ((wipe σ ws).set w none) vs = wipe σ vs
      rw [wipe_set (h w (List.mem_cons_self ..))]
      exact ih fun u hu => h u (List.mem_cons_of_mem _ hu)
  exact gen vs fun _ h => h
/-- a target whose names are the block's own -/
structure TgC (K : PySem.W.Frag) (vs : List Nat) (g : TG) (gi : D → PS1 → Option PS1) : Prop where
  run : ∀ {B0 H0 B H ad σ s d v s'} (Q : L2.St → Hp → Prop), Good K B0 H0 B H ad σ s → Rep K B d v → gi d s = some s' → (∀ σ', Good K B0 H0 B H ad σ' s' → wipe σ' vs = wipe σ vs → Q σ' H) → g v σ H Q
theorem tc_name {K : PySem.W.Frag} {vs : List Nat} (i : Nat) (h : i ∈ vs := by decide) : TgC K vs (gName i) (giName i) := ⟨fun Q g r e q => by
  cases e
  exact q _ (g.setD r) (wipe_set h)⟩
theorem tc_names {K : PySem.W.Frag} {ws : List Nat} : ∀ (is : List Nat) {B0 H0 B H : Hp} {ad : Nat → Addr} {σ : L2.St} {s s' : PS1} {ds : List D} {vs : List V} (Q : L2.St → Hp → Prop), (∀ i ∈ is, i ∈ ws) → Good K B0 H0 B H ad σ s → Reps K B ds vs → giNames is ds s = some s' → (∀ σ', Good K B0 H0 B H ad σ' s' → wipe σ' ws = wipe σ ws → Q σ' H) → gNames is vs σ H Q
  | [], B0, H0, B, H, ad, σ, s, s', ds, vs, Q, m, g, r, e, q => by
    cases ds with
    | nil =>
      cases e
      exact ⟨reps_nil.mp r, q _ g rfl⟩
    | cons d ds => cases e
  | i :: is, B0, H0, B, H, ad, σ, s, s', ds, vs, Q, m, g, r, e, q => by
    cases ds with
    | nil => cases e
    | cons d ds =>
      obtain ⟨v, vs, rfl, r1, r2⟩ := reps_cons.mp r
      exact ⟨v, vs, rfl, tc_names is Q (fun j h => m j (List.mem_cons_of_mem _ h)) (g.setD r1) r2 e fun σ' g' w' => q σ' g' (w'.trans (wipe_set (m i (List.mem_cons_self ..))))⟩
theorem tc_tup {K : PySem.W.Frag} {vs : List Nat} (is : List Nat) (h : ∀ i ∈ is, i ∈ vs := by decide) : TgC K vs (gTup K is.length (gNames is)) (giTup is) := ⟨fun {B0 H0 B H ad σ s d v s'} Q g r e q => by
  cases d with
  | tup ds =>
    obtain ⟨a, us, rfl, hs, rs⟩ := rep_tup.mp r
    exact ⟨a, us, rfl, seqT g.sl.bh hs, by rw [rs.length, giNames_len e], tc_names is Q h g rs e q⟩
  | _ => cases e⟩
def lcF (gi : D → PS1 → Option PS1) (ft : PS1 → Option (R Bool)) (fe : PS1 → Option (R D)) (sw : PS1) : List D → Option (List D)
  | [] => some []
  | d :: ds => (gi d sw).bind fun s1 => match ft s1 with
    | some (.ok true) => (match fe s1 with
      | some (.ok y) => (lcF gi ft fe sw ds).map fun ys => y :: ys
      | _ => none)
    | some (.ok false) => lcF gi ft fe sw ds
    | _ => none
def fLc (fi : PS1 → Option (R (List D))) (vs : List Nat) (gi : D → PS1 → Option PS1) (ft : PS1 → Option (R Bool)) (fe : PS1 → Option (R D)) : PS1 → Option (R (List D)) := fun s => bnd (fi s) fun ds =>
  lft (if ds.length ≤ 100000 then lcF gi ft fe (wipeS s vs) ds else none)
def fYes : PS1 → Option (R Bool) := fun _ => some (.ok true)
section
variable {X : Cx} {W : WX} {pos : Pos}
abbrev DTs (X : Cx) (ifs : List Expr) (f : PS1 → Option (R Bool)) : Prop := PTs X ifs (tDb X.K W0 f)
theorem PTs.imp {e : List Expr} {t t' : TT} (h : PTs X e t) (i : ∀ σ H Q, t' σ H Q → t σ H Q) : PTs X e t' := ⟨fun pins s σ H Q I q => h.run pins s σ H Q I (i σ H Q q)⟩
theorem dts_nil : DTs X [] fYes := PTs.imp pts_nil fun σ H Q ⟨B, h⟩ => Run.now (P := RB Q) h
theorem dts_one {c : Expr} {ft : PS1 → Option (R Bool)} (h : DT X W0 c ft) : DTs X [c] ft := pts_one h
theorem Slots.upd {K : PySem.W.Frag} {B H : Hp} {ad : Nat → Addr} {σ : L2.St} {s : PS1} {p : Addr} {o : HO} (h : Slots K B H ad σ s) (hb : B p = none) (hn : ∀ i x, s[i]? = some x → x.isOwn = true → ad i ≠ p) : Slots K B (upd H p o) ad σ s :=
  ⟨fun b z e => by rw [upd_ne (ne_of_none e hb)]; exact h.bh _ _ e, h.len, fun i x e => by
    have q := h.ok i x e
    cases x with
    | no => trivial
    | d w => exact q
    | own w =>
      obtain ⟨a1, a2, us, a3, a4⟩ := q
      exact ⟨a1, a2, us, by rw [upd_ne (hn i _ e rfl)]; exact a3, a4⟩
    | obj q0 C ns w =>
      obtain ⟨a0, a1, a2, dx, fs, a3, a4⟩ := q
      exact ⟨a0, a1, a2, dx, fs, by rw [upd_ne (hn i _ e rfl)]; exact a3, a4⟩, h.apart⟩
theorem Slots.apart_new {K : PySem.W.Frag} {B H : Hp} {ad : Nat → Addr} {σ : L2.St} {s : PS1} {p : Addr} (h : Slots K B H ad σ s) (hp : H p = none) : ∀ i x, s[i]? = some x → x.isOwn = true → ad i ≠ p := fun i x e o z => by
  have q := h.ok i x e
  cases x with
  | no => cases o
  | d w => cases o
  | own w =>
    obtain ⟨_, _, us, a3, _⟩ := q
    rw [z, hp] at a3
    cases a3
  | obj q0 C ns w =>
    obtain ⟨_, _, _, dx, fs, a3, _⟩ := q
    rw [z, hp] at a3
    cases a3
theorem lc_imp {K : PySem.W.Frag} {vs : List Nat} {gt : TG} {gi : D → PS1 → Option PS1} {fi : PS1 → Option (R (List D))} {ft : PS1 → Option (R Bool)} {fe : PS1 → Option (R D)} (hgi : TgC K vs gt gi) {σ : L2.St} {H : Hp} {Q : VK}
    (h : tDN K W (fLc fi vs gi ft fe) σ H Q) : tLc (tDi K W fi) gt (tDb K W0 ft) (tD K W0 fe) vs σ H Q := by
  obtain ⟨B, ad, s, r, sl, hf, hq⟩ := h
  have hf : bnd (fi s) (fun ds => lft (if ds.length ≤ 100000 then lcF gi ft fe (wipeS s (vs)) ds else none)) = some r := hf
  cases e : fi s with
  | none => rw [e] at hf; cases hf
  | some rd =>
    rw [e] at hf
    cases rd with
    | er x =>
      cases hf
      exact ⟨B, ad, s, .er x, sl, e, hq⟩
    | ok ds =>
      obtain ⟨tot, ht0, rfl⟩ := lft_eq (show lft (if ds.length ≤ 100000 then lcF gi ft fe (wipeS s vs) ds else none) = some r from hf)
      split at ht0
      · rename_i hz
        refine ⟨B, ad, s, .ok ds, sl, e, fun B1 H1 x1 J wk Dn hD => ?_⟩
        have s1 : Slots K B1 H1 ad σ s := sl.mono x1
        have hne := s1.apart_new hD
        have hDo : H Dn = none := x1.h.free hD
        refine ⟨fun i m H' => ∃ B' acc us, i + m = ds.length ∧ Same B1 B' ∧ Ext B H B' H' ∧ B' Dn = none ∧ H' Dn = some (.lst us) ∧ Reps K B' acc us ∧ Slots K B' H' ad σ s ∧ acc.length ≤ i ∧ ∃ rest, lcF gi ft fe (wipeS s vs) (ds.drop i) = some rest ∧ acc ++ rest = tot,
          ⟨ds.length, B1, [], [], by omega, Same.refl _, x1.trans (Ext.own s1.bh hD), s1.bh.free hD, upd_same, reps_nil.mpr rfl, s1.upd (s1.bh.free hD) hne, Nat.le_refl _, tot, ht0, rfl⟩, ?_⟩
        rintro i m H2 ⟨B2, acc, us, em, sb, ex, hb, hh, ra, s2, hl, rest, er, et⟩
        cases m with
        | zero =>
          have ei : i = ds.length := by omega
          subst ei
          rw [List.drop_length] at er
          cases er
          rw [List.append_nil] at et
          subst et
          exact .inl ⟨wk.stop B2 H2 sb s2.bh, hq B2 H2 ex Dn us hDo hb hh ra⟩
        | succ n =>
          have hi : i < ds.length := by omega
          rw [List.drop_eq_getElem_cons hi] at er
          obtain ⟨w1, w2⟩ := wk.go i ds[i] B2 H2 sb s2.bh (List.getElem?_eq_getElem hi)
          refine .inr ⟨w1, fun H' => ∃ B' acc us, (i + 1) + n = ds.length ∧ Same B1 B' ∧ Ext B H B' H' ∧ B' Dn = none ∧ H' Dn = some (.lst us) ∧ Reps K B' acc us ∧ Slots K B' H' ad σ s ∧ acc.length ≤ i + 1 ∧ ∃ rest, lcF gi ft fe (wipeS s vs) (ds.drop (i + 1)) = some rest ∧ acc ++ rest = tot,
            fun H' w => ⟨n, Nat.lt_succ_self n, w⟩, fun x H3 hy => ?_⟩
          obtain ⟨B3, x3, rx⟩ := w2 x H3 hy
          have er : (gi ds[i] (wipeS s vs)).bind (fun s1 => match ft s1 with
            | some (.ok true) => (match fe s1 with
              | some (.ok y) => (lcF gi ft fe (wipeS s vs) (ds.drop (i + 1))).map fun ys => y :: ys
              | _ => none)
            | some (.ok false) => lcF gi ft fe (wipeS s vs) (ds.drop (i + 1))
            | _ => none) = some rest := er
          obtain ⟨sg, eg, er⟩ := Option.bind_eq_some_iff.mp er
          have s3 : Slots K B3 H3 ad σ s := s2.mono x3
          refine hgi.run _ (Good.of_slots (s3.wiped vs)) rx eg fun σ' g' w' => ⟨w'.trans (wipe_wipe vs), ?_⟩
          split at er
          · rename_i et1
            split at er
            · rename_i y ey
              obtain ⟨ys, eys, rfl⟩ := Option.map_eq_some_iff.mp er
              refine ⟨B3, ad, sg, .ok true, g'.sl, et1, fun B4 H4 x4 => ?_⟩
              unfold RB
              dsimp only
              rw [if_pos rfl]
              refine ⟨B4, ad, sg, .ok y, g'.sl.mono x4, ey, fun B5 H5 x5 v rv => ?_⟩
              have x35 := (x3.trans x4).trans x5
              have hb5 : B5 Dn = none := x35.alive hb hh
              have hh5 : H5 Dn = some (.lst us) := x35.h _ _ hh
              refine ⟨us, hh5, ?_, ?_⟩
              · rw [ra.length]
                exact Nat.lt_of_le_of_lt hl (Nat.lt_of_lt_of_le hi (Nat.le_trans hz (by decide)))
              · refine ⟨B5, acc ++ [y], us ++ [v], by omega, sb.trans x35.b, (ex.trans x35).mut hDo hb5, hb5, upd_same, (ra.mono x35.b).append (.one rv), (s2.mono x35).upd hb5 hne, ?_, ys, eys, ?_⟩
                · rw [List.length_append, List.length_singleton]
                  omega
                · rw [List.append_assoc]
                  exact et
            · cases er
          · rename_i et1
            refine ⟨B3, ad, sg, .ok false, g'.sl, et1, fun B4 H4 x4 => ?_⟩
            unfold RB
            dsimp only
            rw [if_neg Bool.false_ne_true]
            have x34 := x3.trans x4
            exact ⟨B4, acc, us, by omega, sb.trans x34.b, ex.trans x34, x34.alive hb hh, x34.h _ _ hh, ra.mono x34.b, s2.mono x34, by omega, rest, er, et⟩
          · cases er
      · cases ht0

theorem dn_lc {elt tg iter : Expr} {ifs : List Expr} {scope : Scope} {own : List (Str × Nat)} {gt : TG} {gi : D → PS1 → Option PS1} {fi : PS1 → Option (R (List D))} {ft : PS1 → Option (R Bool)} {fe : PS1 → Option (R D)}
    (hc : X.calm = true) (hN : X.N.Nodup) (hi : DI X W tg iter fi) (ok : BlkOk X.N X.env.scope scope own)
    (hg : ∀ (s : Shared) (H : Hp) (C : Addr) (cl : List (Str × Addr)) (fp : List Addr), PG (X.blk s H scope (compEnvC scope cl C X.env) fp) tg gt) (hgi : TgC X.K (own.map (·.2)) gt gi)
    (ht : ∀ (s : Shared) (H : Hp) (C : Addr) (cl : List (Str × Addr)) (fp : List Addr), DTs (X.blk s H scope (compEnvC scope cl C X.env) fp) ifs ft)
    (he : ∀ (s : Shared) (H : Hp) (C : Addr) (cl : List (Str × Addr)) (fp : List Addr), DE (X.blk s H scope (compEnvC scope cl C X.env) fp) W0 elt fe) (hs : ∀ x, foldedSetIterable iter X.env x = pure x := by intro _; rfl) :
    DN X W (.ListComp elt [⟨tg, iter, ifs, 0⟩] scope pos) (fLc fi (own.map (·.2)) gi ft fe) :=
  PE.imp (pe_lc (tt := tDb X.K W0 ft) (te := tD X.K W0 fe) hc hN hi ok hg ht he hs) fun σ H Q h => lc_imp hgi h
/-- y = [..] on a line of its own -/
theorem ds_setLc (i : Nat) {y : Str} {py spos : Pos} {elt tg iter : Expr} {ifs : List Expr} {scope : Scope} {own : List (Str × Nat)} {gt : TG} {gi : D → PS1 → Option PS1} {fi : PS1 → Option (R (List D))} {ft : PS1 → Option (R Bool)} {fe : PS1 → Option (R D)}
    (hc : X.calm = true) (hN : X.N.Nodup) (hy : X.N[i]? = some y) (hyl : X.env.scope.names.lookup y = some .local) (hsw : swapsWith (.ListComp elt [⟨tg, iter, ifs, 0⟩] scope pos) (some (.Name y py)) spos.line X.env = pure true) (hi : DI X W tg iter fi) (ok : BlkOk X.N X.env.scope scope own)
    (hg : ∀ (s : Shared) (H : Hp) (C : Addr) (cl : List (Str × Addr)) (fp : List Addr), PG (X.blk s H scope (compEnvC scope cl C X.env) fp) tg gt) (hgi : TgC X.K (own.map (·.2)) gt gi)
    (ht : ∀ (s : Shared) (H : Hp) (C : Addr) (cl : List (Str × Addr)) (fp : List Addr), DTs (X.blk s H scope (compEnvC scope cl C X.env) fp) ifs ft)
    (he : ∀ (s : Shared) (H : Hp) (C : Addr) (cl : List (Str × Addr)) (fp : List Addr), DE (X.blk s H scope (compEnvC scope cl C X.env) fp) W0 elt fe) (hs : ∀ x, foldedSetIterable iter X.env x = pure x := by intro _; rfl) :
    DS X W (.Assign [.Name y py] (.ListComp elt [⟨tg, iter, ifs, 0⟩] scope pos) spos) (fSet i (fLst (fLc fi (own.map (·.2)) gi ft fe))) :=
  PS.imp (ps_setLc (tt := tDb X.K W0 ft) (te := tD X.K W0 fe) hc hN hy hyl hsw hi ok hg ht he hs) fun D σ H h => lc_imp hgi (lst_imp (set_imp h))

/-! ### a def -/
def spF (K : PySem.W.Frag) (n : Nat) (g : List D → Option (R D)) : Sp := fun vs H Q E => vs.length = n ∧ ∃ B ds r, Same B H ∧ Reps K B ds vs ∧ g ds = some r ∧ match r with
  | .ok d => ∀ v B' H', Ext B H B' H' → Rep K B' d v → Q v H'
  | .er x => ∀ cls dd B' H', Ext B H B' H' → RepX K B' x cls dd → E cls dd H'
def fDef (m : Nat) (fb : PS1 → Option Fl) : List D → Option (R D) := fun ds => match fb (ds.map .d ++ List.replicate m .no) with
  | some (.rt d) => some (.ok d)
  | some (.nx _) => some (.ok .non)
  | some (.er x _) => some (.er x)
  | _ => none
abbrev WE0 (E : XK) : WX := fun cls d _ H => E cls d H
theorem slots_start {K : PySem.W.Frag} {B H : Hp} {N : List Str} {ds : List D} {vs : List V} {n m : Nat} (bh : Same B H) (r : Reps K B ds vs) (hv : vs.length = n) (hN : N.length = n + m) : Slots K B H (fun _ => 0) (L2.start N vs) (ds.map .d ++ List.replicate m .no) := by
  have hl := r.length
  refine ⟨bh, ?_, fun i x e => ?_, fun i j x y e1 e2 o1 o2 _ => ?_⟩
  · unfold L2.start
    rw [List.length_append, List.length_append, List.length_map, List.length_map, List.length_replicate, List.length_replicate]
    omega
  · by_cases hi : i < ds.length
    · rw [List.getElem?_append_left (by rw [List.length_map]; exact hi), List.getElem?_map] at e
      obtain ⟨d, ed, rfl⟩ := Option.map_eq_some_iff.mp e
      obtain ⟨v, ev, rv⟩ := r.get ed
      refine ⟨v, ?_, rv⟩
      unfold L2.start
      rw [List.getElem?_append_left (by rw [List.length_map]; omega), List.getElem?_map, ev]
      rfl
    · rw [List.getElem?_append_right (by rw [List.length_map]; omega)] at e
      have := List.mem_of_getElem? e
      rw [List.mem_replicate] at this
      rw [this.2]
      trivial
  · exfalso
    by_cases hi : i < ds.length
    · rw [List.getElem?_append_left (by rw [List.length_map]; exact hi), List.getElem?_map] at e1
      obtain ⟨d, ed, rfl⟩ := Option.map_eq_some_iff.mp e1
      cases o1
    · rw [List.getElem?_append_right (by rw [List.length_map]; omega)] at e1
      have := List.mem_of_getElem? e1
      rw [List.mem_replicate] at this
      rw [this.2] at o1
      cases o1
theorem body_imp {K : PySem.W.Frag} {N : List Str} {n m : Nat} {fb : PS1 → Option Fl} {vs : List V} {H : Hp} {Q : VK} {E : XK} (hN : N.length = n + m) (h : spF K n (fDef m fb) vs H Q E) : tF K (WE0 E) fb { nx := fun _ H' => Q .non H', rt := Q } (L2.start N vs) H := by
  obtain ⟨hv, B, ds, r, bh, rs, hf, hq⟩ := h
  have hs : Slots K B H (fun _ => 0) (L2.start N vs) (ds.map .d ++ List.replicate m .no) := slots_start bh rs hv hN
  have none_own : ∀ (i : Nat) (x : Sl), (ds.map Sl.d ++ List.replicate m .no)[i]? = some x → x.isOwn = true → False := fun i x e o => by
    have := List.mem_of_getElem? e
    rcases List.mem_append.mp this with q | q
    · obtain ⟨d, _, rfl⟩ := List.mem_map.mp q
      cases o
    · rw [List.mem_replicate] at q
      rw [q.2] at o
      cases o
  have g : Good K B H B H (fun _ => 0) (L2.start N vs) (ds.map .d ++ List.replicate m .no) := ⟨hs, Ext.refl bh, fun i x e o => (none_own i x e o).elim⟩
  unfold fDef at hf
  cases eb : fb (ds.map .d ++ List.replicate m .no) with
  | none => rw [eb] at hf; cases hf
  | some rb =>
    rw [eb] at hf
    refine ⟨B, H, B, _, _, rb, g, eb, ?_⟩
    cases rb with
    | nx s => cases hf; exact fun σ' H' B' ad' _ g' => hq .non B' H' g'.ex (rep_non.mpr rfl)
    | rt d => cases hf; exact fun v B' H' x r => hq v B' H' x r
    | bk s => cases hf
    | ct s => cases hf
    | er x s => cases hf; exact fun cls dd σ' H' B' ad' _ g' r => hq cls dd B' H' g'.ex r
variable {P : Program} {w : World} {K : PySem.W.Frag} {mg : Str → Option Value} {base : Heap}
abbrev FnF (P : Program) (w : World) (K : PySem.W.Frag) (mg : Str → Option Value) (base : Heap) (k : Nat) (f : Addr) (fd : FuncData) (ps : List Str) (n : Nat) (g : List D → Option (R D)) : Prop := FnOk P w K mg base (L2.CX P w) k f fd ps (spF K n g)
/-- THE RULE for a def without defaults -/
theorem fun_okF {x qual : Str} {st : Stmt} {f : Addr} {fd : FuncData} {N ps : List Str} {k n m : Nat} {fb : PS1 → Option Fl} (F : Fun K x qual st f fd) (S : FnScope N ps (defScope st)) (hn : ps.length = n) (hm : N.length = n + m)
    (hbody : ∀ (cdv : Value) (A : Around) (outer : List Env) (s : Shared) (H : Hp) (E : XK), Room k (A.deeper (envOfC qual (defScope st) s.heap.objs.size f cdv)) →
      DSs (cxOf (L2.CX P w) P w K mg base N qual (defScope st) f cdv A outer s H E) (WE0 E) (defBody st) fb) : FnF P w K mg base (k + 1) f fd ps n (fDef m fb) := by
  refine F.okX S (fun vs H Q E h => by rw [h.1, hn]) (fun cdv A outer s H vs Q E hr h => ⟨_, hbody cdv A outer s H E hr, body_imp hm h⟩)
/-- the same, with defaults -/
theorem fund_okF {x qual : Str} {params : Arguments} {body : List Stmt} {scope : Scope} {dvs : List V} {kws : List (Str × V)} {f : Addr} {fd : FuncData} {N ps : List Str} {k n m : Nat} {fb : PS1 → Option Fl} (F : FunD K x qual params body scope dvs kws f fd) (S : FnScope N ps scope) (hn : ps.length = n) (hm : N.length = n + m)
    (hbody : ∀ (cdv : Value) (A : Around) (outer : List Env) (s : Shared) (H : Hp) (E : XK), Room k (A.deeper (envOfC qual scope s.heap.objs.size f cdv)) →
      DSs (cxOf (L2.CX P w) P w K mg base N qual scope f cdv A outer s H E) (WE0 E) body fb) : FnF P w K mg base (k + 1) f fd ps n (fDef m fb) := by
  refine F.ok S (fun vs H Q E h => by rw [h.1, hn]) (fun cdv A outer s H vs Q E hr h => ⟨_, hbody cdv A outer s H E hr, body_imp hm h⟩)
/-- another function for the def, where it gives the same -/
theorem FnF.to {k : Nat} {f : Addr} {fd : FuncData} {ps : List Str} {n : Nat} {g g' : List D → Option (R D)} (F : FnF P w K mg base k f fd ps n g) (h : ∀ ds r, ds.length = n → g' ds = some r → g ds = some r) : FnF P w K mg base k f fd ps n g' :=
  F.imp fun vs H Q E ⟨hv, B, ds, r, bh, rs, hf, hq⟩ => ⟨hv, B, ds, r, bh, rs, h ds r (by rw [← rs.length]; exact hv) hf, hq⟩
end
/-! ### a call of one's own def -/
section
variable {X : Cx} {W : WX} {pos : Pos} {e : Expr} {es : List Expr} {fr : PS1 → Option (R (List D))}
def fOwn (n : Nat) (g : List D → Option (R D)) (fr : PS1 → Option (R (List D))) : PS1 → Option (R D) := fun s => bnd (fr s) fun ds => if ds.length = n then g ds else none
theorem own_imp {K : PySem.W.Frag} {n : Nat} {g : List D → Option (R D)} {σ : L2.St} {H : Hp} {Q : VK} (h : tD K W (fOwn n g fr) σ H Q) : tDs K W fr σ H (fun vs H1 => spF K n g vs H1 Q (WE W σ)) := by
  obtain ⟨B, h⟩ := h
  refine ⟨B, (Run.bind h).imp fun xs B1 H1 e1 h1 vs rs => ?_⟩
  obtain ⟨ad, s, r, hs, hf, hq⟩ := h1
  split at hf
  · rename_i hl
    refine ⟨by rw [rs.length]; exact hl, B1, xs, r, hs.bh, rs, hf, ?_⟩
    cases r with
    | ok d => exact fun v B' H' x rv => hq B' H' x v rv
    | er y => exact fun cls dd B' H' x rx => hq cls dd B' H' x rx
  · cases hf
theorem de_call {k n : Nat} {f : Addr} {fd : FuncData} {ps : List Str} {x : Str} {p : Pos} {g : List D → Option (R D)} (F : FnF X.prog X.w X.K X.mg X.base k f fd ps n g) (hr : Room k X.A) (hg : Gl X x) (hm : X.mg x = some (.ref f)) (hk : PySem.W.keepIn X.K (.ref f) = true) (hb : Binds X.K fd ps []) (tk : Takes X W)
    (ha : DA X W (e :: es) fr) (hdb : (x == ("__debug__" : Str)) = false := by decide) (he : starEach (e :: es) X.env = (false, eval e X.env) :: starEach es X.env := by rfl) (hpl : (backTo pos (starEach es X.env)).any (·.1) = false := by rfl) :
    DE X W (.Call (.Name x p) (e :: es) [] pos) (fOwn n g fr) := PE.imp (pe_callS F hr hg hm hk hb (fun σ => passAt tk σ) ha hdb he hpl) fun _ _ _ h => own_imp h
end
end FL

namespace FL
open PySem PySem.Spec PyProof.Rows L2
/-! ### fields -/
def lookN (f : Str) : List Str → List D → Option D
  | n :: ns, x :: xs => if (f == n) = true then some x else lookN f ns xs
  | _, _ => none
theorem lookN_rep {K : PySem.W.Frag} {B : Hp} {f : Str} : ∀ {fs : List (Str × V)} {ns : List Str} {xs : List D} {d : D}, fs.map (·.1) = ns → Reps K B xs (fs.map (·.2)) → lookN f ns xs = some d → ∃ v, fs.lookup f = some v ∧ Rep K B d v
  | [], _, _, _, rfl, _, h => by cases h
  | (n, v) :: fs, _, xs, d, rfl, r, h => by
    cases xs with
    | nil => cases h
    | cons x xs =>
      obtain ⟨u, us, e, r1, r2⟩ := reps_cons.mp r
      have e1 : v = u := (List.cons.inj e).1
      have e2 : fs.map (·.2) = us := (List.cons.inj e).2
      subst e1 e2
      have h : (if (f == n) = true then some x else lookN f (fs.map (·.1)) xs) = some d := h
      rw [List.lookup_cons]
      by_cases c : (f == n) = true
      · rw [if_pos c] at h
        rw [c]
        cases h
        exact ⟨v, rfl, r1⟩
      · rw [if_neg c] at h
        rw [Bool.eq_false_iff.mpr c]
        exact lookN_rep rfl r2 h
theorem notIn_lookup {f : Str} : ∀ {fs : List (Str × V)}, ((fs.map (·.1)).any fun n => f == n) = false → fs.lookup f = none
  | [], _ => rfl
  | (n, v) :: fs, h => by
    rw [List.map_cons, List.any_cons, Bool.or_eq_false_iff] at h
    rw [List.lookup_cons, h.1]
    exact notIn_lookup h.2
def putN (f : Str) (d : D) : List Str → List D → List Str × List D
  | n :: ns, x :: xs => if n = f then (n :: ns, d :: xs) else ((n :: (putN f d ns xs).1), (x :: (putN f d ns xs).2))
  | _, _ => ([f], [d])
theorem putN_rep {K : PySem.W.Frag} {B : Hp} {f : Str} {d : D} {u : V} (rd : Rep K B d u) : ∀ {fs : List (Str × V)} {ns : List Str} {xs : List D}, fs.map (·.1) = ns → Reps K B xs (fs.map (·.2)) → (putF f u fs).map (·.1) = (putN f d ns xs).1 ∧ Reps K B (putN f d ns xs).2 ((putF f u fs).map (·.2))
  | [], _, xs, rfl, r => by
    have := reps_nil (K := K) (B := B) (vs := []) |>.mpr rfl
    cases xs with
    | nil => exact ⟨rfl, Reps.one rd⟩
    | cons x xs => obtain ⟨_, _, e, _⟩ := reps_cons.mp r; cases e
  | (n, v) :: fs, _, xs, rfl, r => by
    cases xs with
    | nil => have := reps_nil.mp r; cases this
    | cons x xs =>
      obtain ⟨w, ws, e, r1, r2⟩ := reps_cons.mp r
      have e1 : v = w := (List.cons.inj e).1
      have e2 : fs.map (·.2) = ws := (List.cons.inj e).2
      subst e1 e2
      obtain ⟨i1, i2⟩ := putN_rep (f := f) (d := d) (u := u) rd (fs := fs) (xs := xs) rfl r2
      show ((if n = f then (n, u) :: fs else (n, v) :: putF f u fs).map (·.1)) = (if n = f then (n :: fs.map (·.1), d :: xs) else ((n :: (putN f d (fs.map (·.1)) xs).1), (x :: (putN f d (fs.map (·.1)) xs).2))).1 ∧
        Reps K B (if n = f then (n :: fs.map (·.1), d :: xs) else ((n :: (putN f d (fs.map (·.1)) xs).1), (x :: (putN f d (fs.map (·.1)) xs).2))).2 ((if n = f then (n, u) :: fs else (n, v) :: putF f u fs).map (·.2))
      by_cases c : n = f
      · rw [if_pos c, if_pos c]
        exact ⟨rfl, Reps.cons rd r2⟩
      · rw [if_neg c, if_neg c]
        exact ⟨by rw [List.map_cons, i1], Reps.cons r1 i2⟩
section
variable {X : Cx} {W : WX} {e o : Expr} {es : List Expr} {pos : Pos} {fe : PS1 → Option (R D)} {fr fk : PS1 → Option (R (List D))} {C : Addr} {f : Str}
def fFld (C : Addr) (f : Str) (fe : PS1 → Option (R D)) : PS1 → Option (R D) := fun s => bnd (fe s) fun x => match x with
  | .obj C' ns xs => if C' = C then lft (lookN f ns xs) else none
  | _ => none
theorem de_fld (c : Cls X.K C) (n : NoAttr X.K C f) (he : DE X W e fe) (hb : attributeBase e f X.env (eval e X.env) = eval e X.env := by rfl) : DE X W (.Attribute e f pos) (fFld C f fe) := by
  refine PE.imp (pe_fld he hb) fun σ H Q ⟨B, h⟩ => ?_
  refine ⟨B, (Run.bind h).imp fun x B1 H1 e1 h1 v rv => ?_⟩
  obtain ⟨ad, s, r, hs, hf, hq⟩ := h1
  cases x with
  | obj C' ns xs =>
    replace hf : (if C' = C then lft (lookN f ns xs) else none) = some r := hf
    split at hf
    · rename_i ec
      subst ec
      obtain ⟨d, hd, rfl⟩ := lft_eq hf
      obtain ⟨a, dx, fs, rfl, ha, hn, rs⟩ := rep_obj.mp rv
      obtain ⟨u, hu, ru⟩ := lookN_rep hn rs hd
      exact ⟨a, C', dx, fs, u, rfl, hs.bh _ _ ha, c, n, hu, hq B1 H1 (Ext.refl hs.bh) u ru⟩
    · cases hf
  | _ => cases hf
/-- a field of one's own object -/
def fFldO (i : Nat) (C : Addr) (f : Str) : PS1 → Option (R D) := fun s => match s[i]? with
  | some (.obj _ C' ns xs) => if C' = C then lft (lookN f ns xs) else none
  | _ => none
theorem de_fldO (i : Nat) {x : Str} {p : Pos} (c : Cls X.K C) (n : NoAttr X.K C f) (hv : PE X (.Name x p) (tVar i)) (hb : attributeBase (.Name x p) f X.env (eval (.Name x p) X.env) = eval (.Name x p) X.env := by rfl) : DE X W (.Attribute (.Name x p) f pos) (fFldO i C f) := by
  refine PE.imp (pe_fld hv hb) fun σ H Q ⟨B, ad, s, r, hs, hf, hq⟩ => ?_
  unfold fFldO at hf
  split at hf
  · rename_i q C' ns xs es
    split at hf
    · rename_i ec
      subst ec
      obtain ⟨d, hd, rfl⟩ := lft_eq hf
      obtain ⟨_, h1, h2, dx, fs, h3, h4, h5⟩ := hs.ok i _ es
      obtain ⟨u, hu, ru⟩ := lookN_rep h4 h5 hd
      exact ⟨_, h1, ad i, C', dx, fs, u, rfl, h3, c, n, hu, hq B H (Ext.refl hs.bh) u ru⟩
    · cases hf
  · cases hf
/-- self.f = e, self one's own object -/
def fFldSet (i : Nat) (C : Addr) (f : Str) (fe : PS1 → Option (R D)) : PS1 → Option Fl := fEx fe fun d s => match s[i]? with
  | some (.obj q C' ns xs) => if C' = C ∧ ns.length < 1000 then some (.nx (s.set i (.obj q C' (putN f d ns xs).1 (putN f d ns xs).2))) else none
  | _ => none
theorem ds_fld (i : Nat) {x : Str} {p p' : Pos} (c : Cls X.K C) (n : NoAttr X.K C f) (hv : PE X (.Name x p) (tVar i)) (he : DE X W e fe) (hs : swapsWith e (some (.Attribute (.Name x p) f p')) pos.line X.env = pure false := by rfl) :
    DS X W (.Assign [.Attribute (.Name x p) f p'] e pos) (fFldSet i C f fe) := by
  refine PS.imp (ps_fld hv he hs) fun D σ H h => ?_
  obtain ⟨B0, H0, B, ad, s, r, g, hf, hq⟩ := h
  refine ⟨B, (ex_run g hf hq).imp fun d B' H' _ ⟨x, e2⟩ v rv => ?_⟩
  split at e2
  · rename_i q C' ns xs es
    split at e2
    · rename_i cc
      obtain ⟨ec, hz⟩ := cc
      subst ec
      cases e2
      have g' := g.mono x
      obtain ⟨hq0, h1, h2, h3, dx, fs, h4, h5, h6⟩ := g'.at_obj es
      refine ⟨_, h1, ad i, C', dx, fs, rfl, h4, c, n, by rw [← h5, List.length_map] at hz; exact hz, ?_⟩
      obtain ⟨i1, i2⟩ := putN_rep (f := f) rv h5 h6
      exact hq _ _ _ _ x.b (g'.mut es rfl (fun H1 hh => ⟨hq0, h1, h2, dx, _, hh, i1, i2⟩) rfl h2)
    · cases e2
  · cases e2

/-! ### methods -/
def tMethS (C : Addr) (m : Str) (sp : Sp) (E : L2.St → XK) (ta : TE) (t : TA) : TE := fun σ H Q => ta σ H fun x H1 => ∃ a dx fs, x = .ref a ∧ H1 a = some (.ins C dx fs) ∧ fs.lookup m = none ∧ t σ H1 fun vs H2 => sp (x :: vs) H2 Q (E σ)
theorem pe_methS {CX : CXT} {k : Nat} {m : Str} {apos : Pos} {g : Addr} {fd : FuncData} {ps : List Str} {sp : Sp} {E : L2.St → XK} {ta : TE} {t : TA} {pl : Sem Bool} (he : PE X o ta) (c : Cls X.K C) (hm : Meth X.K C m g) (F : FnOk X.prog X.w X.K X.mg X.base CX k g fd ps sp) (hr : Room k X.A) (hb : Binds X.K fd ps []) (hx : ∀ σ, PassesAt CX X σ (E σ)) (ha : PA X (e :: es) t)
    (hst : starEach (e :: es) X.env = (false, eval e X.env) :: starEach es X.env := by rfl) (hpl : (backTo pos (starEach es X.env)).any (·.1) = false := by rfl)
    (ht : eval (.Call (.Attribute o m apos) (e :: es) [] pos) X.env = (do
      let ov ← eval o X.env
      standAt apos.atName
      let (f, first) ← holding [ov] (getMethod ov m pl)
      callWith pos f first (backTo pos (starEach (e :: es) X.env)) (backToKw pos (keywordEach [] X.env))) := by rfl) :
    PE X (.Call (.Attribute o m apos) (e :: es) [] pos) (tMethS C m sp E ta t) := by
  refine ⟨fun pins s σ H Q I h => ?_⟩
  refine PySem.W.methodCall_KW (pl := pl) (thn (he.run pins s σ H _ I h) fun u s1 ⟨x, H1, I1, rx, a, dx, fs, ex, ea, l, q⟩ => ?_) ht
  subst ex
  obtain rfl : u = Value.ref a := rx
  refine getmeth_ok I1 ea c hm l ?_
  refine PySem.W.callWith_K (first := [.ref a]) (h₀ := X.base) I.ok.mod.kin hm.kp (thn (ha.run pos pins s1 σ H1 _ I1 q) fun us s2 ⟨vs, H2, I2, r, q2⟩ => ⟨I2.kIn, ?_⟩) hst hpl
  exact run_fnS (us := .ref a :: us) (vs := .ref a :: vs) F hr hb (hx σ) I2 (.cons rfl r) q2
theorem pe_methS0 {CX : CXT} {k : Nat} {m : Str} {apos : Pos} {g : Addr} {fd : FuncData} {ps : List Str} {sp : Sp} {E : L2.St → XK} {ta : TE} {pl : Sem Bool} (he : PE X o ta) (c : Cls X.K C) (hm : Meth X.K C m g) (F : FnOk X.prog X.w X.K X.mg X.base CX k g fd ps sp) (hr : Room k X.A) (hb : Binds X.K fd ps []) (hx : ∀ σ, PassesAt CX X σ (E σ))
    (ht : eval (.Call (.Attribute o m apos) [] [] pos) X.env = (do
      let ov ← eval o X.env
      standAt apos.atName
      let (f, first) ← holding [ov] (getMethod ov m pl)
      callWith pos f first (backTo pos (starEach [] X.env)) (backToKw pos (keywordEach [] X.env))) := by rfl) :
    PE X (.Call (.Attribute o m apos) [] [] pos) (tMethS C m sp E ta tNil) := by
  refine ⟨fun pins s σ H Q I h => ?_⟩
  refine PySem.W.methodCall_KW (pl := pl) (thn (he.run pins s σ H _ I h) fun u s1 ⟨x, H1, I1, rx, a, dx, fs, ex, ea, l, q⟩ => ?_) ht
  subst ex
  obtain rfl : u = Value.ref a := rx
  refine getmeth_ok I1 ea c hm l ?_
  exact PySem.W.callWith_K0 (first := [.ref a]) I1.kIn hm.kp (run_fnS (us := [.ref a]) (vs := [.ref a]) F hr hb (hx σ) I1 (.cons rfl .nil) q)
def fMeth (C : Addr) (m : Str) (n : Nat) (g : List D → Option (R D)) (fe : PS1 → Option (R D)) (fr : PS1 → Option (R (List D))) : PS1 → Option (R D) := fun s => bnd (fe s) fun x => match x with
  | .obj C' ns xs => if C' = C ∧ (ns.any fun y => m == y) = false then bnd (fr s) fun ds => if ds.length + 1 = n then g (.obj C' ns xs :: ds) else none else none
  | _ => none
theorem meth_imp {K : PySem.W.Frag} {m : Str} {n : Nat} {g : List D → Option (R D)} {σ : L2.St} {H : Hp} {Q : VK} (h : tD K W (fMeth C m n g fe fr) σ H Q) : tMethS C m (spF K n g) (WE W) (tD K W fe) (tDs K W fr) σ H Q := by
  obtain ⟨B, h⟩ := h
  refine ⟨B, (Run.bind h).imp fun x B1 H1 e1 h1 v rv => ?_⟩
  obtain ⟨ad, s, r, hs, hf, hq⟩ := h1
  cases x with
  | obj C' ns xs =>
    replace hf : (if C' = C ∧ (ns.any fun y => m == y) = false then bnd (fr s) fun ds => if ds.length + 1 = n then g (.obj C' ns xs :: ds) else none else none) = some r := hf
    split at hf
    · rename_i cc
      obtain ⟨ec, hm⟩ := cc
      subst ec
      obtain ⟨a, dx, fs, rfl, ha, hn, rs⟩ := rep_obj.mp rv
      refine ⟨a, dx, fs, rfl, hs.bh _ _ ha, notIn_lookup (by rw [hn]; exact hm), ?_⟩
      have run : Run K W σ (RV K Q) (fun s => bnd (fr s) fun ds => if ds.length + 1 = n then g (.obj C' ns xs :: ds) else none) B1 H1 := ⟨ad, s, r, hs, hf, hq⟩
      refine ⟨B1, (Run.bind run).imp fun ds B2 H2 e2 h2 vs rs2 => ?_⟩
      obtain ⟨ad2, s2, r2, hs2, hf2, hq2⟩ := h2
      split at hf2
      · rename_i hl
        refine ⟨by rw [List.length_cons, rs2.length]; exact hl, B2, _, r2, hs2.bh, Reps.cons (rv.mono e2.b) rs2, hf2, ?_⟩
        cases r2 with
        | ok d => exact fun v B' H' x rv => hq2 B' H' x v rv
        | er y => exact fun cls dd B' H' x rx => hq2 cls dd B' H' x rx
      · cases hf2
    · cases hf
  | _ => cases hf
theorem de_meth {k n : Nat} {m : Str} {apos : Pos} {f : Addr} {fd : FuncData} {ps : List Str} {g : List D → Option (R D)} {pl : Sem Bool} (ho : DE X W o fe) (c : Cls X.K C) (hm : Meth X.K C m f) (F : FnF X.prog X.w X.K X.mg X.base k f fd ps n g) (hr : Room k X.A) (hb : Binds X.K fd ps []) (tk : Takes X W) (ha : DA X W (e :: es) fr)
    (hst : starEach (e :: es) X.env = (false, eval e X.env) :: starEach es X.env := by rfl) (hpl : (backTo pos (starEach es X.env)).any (·.1) = false := by rfl)
    (ht : eval (.Call (.Attribute o m apos) (e :: es) [] pos) X.env = (do
      let ov ← eval o X.env
      standAt apos.atName
      let (f, first) ← holding [ov] (getMethod ov m pl)
      callWith pos f first (backTo pos (starEach (e :: es) X.env)) (backToKw pos (keywordEach [] X.env))) := by rfl) : DE X W (.Call (.Attribute o m apos) (e :: es) [] pos) (fMeth C m n g fe fr) :=
  PE.imp (pe_methS (pl := pl) ho c hm F hr hb (fun σ => passAt tk σ) ha hst hpl ht) fun _ _ _ h => meth_imp h
theorem de_meth0 {k n : Nat} {m : Str} {apos : Pos} {f : Addr} {fd : FuncData} {ps : List Str} {g : List D → Option (R D)} {pl : Sem Bool} (ho : DE X W o fe) (c : Cls X.K C) (hm : Meth X.K C m f) (F : FnF X.prog X.w X.K X.mg X.base k f fd ps n g) (hr : Room k X.A) (hb : Binds X.K fd ps []) (tk : Takes X W)
    (ht : eval (.Call (.Attribute o m apos) [] [] pos) X.env = (do
      let ov ← eval o X.env
      standAt apos.atName
      let (f, first) ← holding [ov] (getMethod ov m pl)
      callWith pos f first (backTo pos (starEach [] X.env)) (backToKw pos (keywordEach [] X.env))) := by rfl) : DE X W (.Call (.Attribute o m apos) [] [] pos) (fMeth C m n g fe fNil) :=
  PE.imp (pe_methS0 (pl := pl) ho c hm F hr hb (fun σ => passAt tk σ) ht) fun σ H Q h => by
    have q := meth_imp h
    obtain ⟨B, q⟩ := q
    exact ⟨B, q.imp fun d B' H' _ z v rv => by
      obtain ⟨a, dx, fs, e1, e2, e3, k⟩ := z v rv
      exact ⟨a, dx, fs, e1, e2, e3, nil_imp k⟩⟩

/-! ### a new object -/
/-- what __init__ does: self one's own object, empty -/
def InitOk (C : Addr) (m : Nat) (fb : PS1 → Option Fl) (g : List D → Option (R (List Str × List D))) : Prop := ∀ (p : Addr) ds r, g ds = some r → match r with
  | .ok (ns, xs) => ∃ s, fb (.obj p C [] [] :: (ds.map .d ++ List.replicate m .no)) = some (.nx s) ∧ s[0]? = some (.obj p C ns xs)
  | .er x => ∃ s, fb (.obj p C [] [] :: (ds.map .d ++ List.replicate m .no)) = some (.er x s)
def spI (K : PySem.W.Frag) (C : Addr) (n : Nat) (g : List D → Option (R (List Str × List D))) : Sp := fun vs H Q E => vs.length = n + 1 ∧ ∃ (p dx : Addr) (Hc B : Hp) (ds : List D) (r : R (List Str × List D)) (args : List V), vs = .ref p :: args ∧ Hc p = none ∧ Hc dx = none ∧ dx ≠ p ∧
  H = upd (upd Hc dx (.own p)) p (.ins C dx []) ∧ Same B Hc ∧ Reps K B ds args ∧ g ds = some r ∧ match r with
  | .ok (ns, xs) => ∀ B' H', Ext B Hc B' H' → Rep K B' (.obj C ns xs) (.ref p) → Q .non H'
  | .er x => ∀ cls dd B' H', Ext B Hc B' H' → RepX K B' x cls dd → E cls dd H'
theorem init_imp {K : PySem.W.Frag} {N : List Str} {n m : Nat} {fb : PS1 → Option Fl} {g : List D → Option (R (List Str × List D))} {vs : List V} {H : Hp} {Q : VK} {E : XK} (hN : N.length = n + 1 + m) (ok : InitOk C m fb g) (h : spI K C n g vs H Q E) :
    tF K (WE0 E) fb { nx := fun _ H' => Q .non H', rt := Q } (L2.start N vs) H := by
  obtain ⟨hv, p, dx, Hc, B, ds, r, args, rfl, hp, hdx, hne, rfl, bh, rs, hg, hq⟩ := h
  have hl : args.length = n := by
    rw [List.length_cons] at hv
    omega
  have sH : Same Hc (upd (upd Hc dx (.own p)) p (.ins C dx [])) := fun b o e => by
    rw [upd_ne (ne_of_none e hp), upd_ne (ne_of_none e hdx)]
    exact e
  have bp : B p = none := bh.free hp
  have ex : Ext B Hc B (upd (upd Hc dx (.own p)) p (.ins C dx [])) := ⟨Same.refl _, sH, bh.trans sH, fun _ q _ => q⟩
  have tail : Slots K B (upd (upd Hc dx (.own p)) p (.ins C dx [])) (fun _ => p) (L2.start N.tail args) (ds.map .d ++ List.replicate m .no) := by
    have := slots_start (N := N.tail) (n := n) (m := m) ex.bh rs hl (by rw [List.length_tail, hN]; omega)
    exact ⟨this.bh, this.len, fun i x e => by
      have q := this.ok i x e
      have none_own : x.isOwn = true → False := fun o => by
        have := List.mem_of_getElem? e
        rcases List.mem_append.mp this with q | q
        · obtain ⟨d, _, rfl⟩ := List.mem_map.mp q
          cases o
        · rw [List.mem_replicate] at q
          rw [q.2] at o
          cases o
      cases x with
      | no => trivial
      | d w => exact q
      | own w => exact (none_own rfl).elim
      | obj _ _ _ _ => exact (none_own rfl).elim, fun i j x y e1 e2 o1 o2 _ => by
      exfalso
      have := List.mem_of_getElem? e1
      rcases List.mem_append.mp this with q | q
      · obtain ⟨d, _, rfl⟩ := List.mem_map.mp q
        cases o1
      · rw [List.mem_replicate] at q
        rw [q.2] at o1
        cases o1⟩
  have none_own : ∀ (i : Nat) (x : Sl), (ds.map Sl.d ++ List.replicate m Sl.no)[i]? = some x → x.isOwn = true → False := fun i x e o => by
    have := List.mem_of_getElem? e
    rcases List.mem_append.mp this with q | q
    · obtain ⟨d, _, rfl⟩ := List.mem_map.mp q
      cases o
    · rw [List.mem_replicate] at q
      rw [q.2] at o
      cases o
  have est : L2.start N (.ref p :: args) = some (.ref p) :: L2.start N.tail args := by
    unfold L2.start
    rw [List.length_tail, List.length_cons]
    show some (V.ref p) :: (args.map some ++ _) = _
    congr 3
    omega
  have gd : Good K B Hc B (upd (upd Hc dx (.own p)) p (.ins C dx [])) (fun _ => p) (L2.start N (.ref p :: args)) (.obj p C [] [] :: (ds.map .d ++ List.replicate m .no)) := by
    rw [est]
    refine ⟨⟨ex.bh, by rw [List.length_cons, List.length_cons, tail.len], fun i x e => ?_, fun i j x y e1 e2 o1 o2 _ => ?_⟩, ex, fun _ _ _ _ => hp⟩
    · cases i with
      | zero =>
        cases e
        exact ⟨rfl, rfl, bp, dx, [], upd_same, rfl, reps_nil.mpr rfl⟩
      | succ i => exact tail.ok i x e
    · cases i with
      | zero =>
        cases j with
        | zero => rfl
        | succ j => exact (none_own j y e2 o2).elim
      | succ i => exact (none_own i x e1 o1).elim
  have k := ok p ds r hg
  cases r with
  | er x =>
    obtain ⟨s, e⟩ := k
    exact ⟨B, Hc, B, _, _, _, gd, e, fun cls dd σ' H' B' ad' _ g' r => hq cls dd B' H' g'.ex r⟩
  | ok o =>
    obtain ⟨ns, xs⟩ := o
    obtain ⟨s, e, e0⟩ := k
    refine ⟨B, Hc, B, _, _, _, gd, e, fun σ' H' B' ad' _ g' => ?_⟩
    obtain ⟨q0, h1, h2, h3, dx', fs, h4, h5, h6⟩ := g'.at_obj e0
    rw [q0] at h2 h3 h4
    exact hq _ H' (g'.ex.adopt h3 h2 h4) (rep_obj.mpr ⟨p, dx', fs, rfl, upd_same, h5, h6.mono (same_upd h2)⟩)
end
section
variable {P : Program} {w : World} {K : PySem.W.Frag} {mg : Str → Option Value} {base : Heap} {C : Addr}
abbrev FnI (P : Program) (w : World) (K : PySem.W.Frag) (mg : Str → Option Value) (base : Heap) (k : Nat) (f : Addr) (fd : FuncData) (ps : List Str) (C : Addr) (n : Nat) (g : List D → Option (R (List Str × List D))) : Prop := FnOk P w K mg base (L2.CX P w) k f fd ps (spI K C n g)
theorem fun_okI {x qual : Str} {st : Stmt} {f : Addr} {fd : FuncData} {N ps : List Str} {k n m : Nat} {fb : PS1 → Option Fl} {g : List D → Option (R (List Str × List D))} (F : Fun K x qual st f fd) (S : FnScope N ps (defScope st)) (hn : ps.length = n + 1) (hm : N.length = n + 1 + m) (ok : InitOk C m fb g)
    (hbody : ∀ (cdv : Value) (A : Around) (outer : List Env) (s : Shared) (H : Hp) (E : XK), Room k (A.deeper (envOfC qual (defScope st) s.heap.objs.size f cdv)) →
      DSs (cxOf (L2.CX P w) P w K mg base N qual (defScope st) f cdv A outer s H E) (WE0 E) (defBody st) fb) : FnI P w K mg base (k + 1) f fd ps C n g := by
  refine F.okX S (fun vs H Q E h => by rw [h.1, hn]) (fun cdv A outer s H vs Q E hr h => ⟨_, hbody cdv A outer s H E hr, init_imp hm ok h⟩)
theorem fund_okI {x qual : Str} {params : Arguments} {body : List Stmt} {scope : Scope} {dvs : List V} {kws : List (Str × V)} {f : Addr} {fd : FuncData} {N ps : List Str} {k n m : Nat} {fb : PS1 → Option Fl} {g : List D → Option (R (List Str × List D))} (F : FunD K x qual params body scope dvs kws f fd) (S : FnScope N ps scope) (hn : ps.length = n + 1) (hm : N.length = n + 1 + m) (ok : InitOk C m fb g)
    (hbody : ∀ (cdv : Value) (A : Around) (outer : List Env) (s : Shared) (H : Hp) (E : XK), Room k (A.deeper (envOfC qual scope s.heap.objs.size f cdv)) →
      DSs (cxOf (L2.CX P w) P w K mg base N qual scope f cdv A outer s H E) (WE0 E) body fb) : FnI P w K mg base (k + 1) f fd ps C n g := by
  refine F.ok S (fun vs H Q E h => by rw [h.1, hn]) (fun cdv A outer s H vs Q E hr h => ⟨_, hbody cdv A outer s H E hr, init_imp hm ok h⟩)
end
section
variable {X : Cx} {W : WX} {e o : Expr} {es : List Expr} {kws : List Keyword} {pos : Pos} {fe : PS1 → Option (R D)} {fr fk : PS1 → Option (R (List D))} {C : Addr}
/-- C(.., k = v, ..), what is raised wished for at the caller's names -/
def tMakeKS (C : Addr) (n m : Nat) (sp : Sp) (gV : List V → List V → List V) (E : L2.St → XK) (t tk : TA) : TE := fun σ H Q => t σ H fun vs H1 => tk σ H1 fun zs H2 => vs.length = n ∧ zs.length = m ∧ ∀ x dx, H2 x = none → H2 dx = none → dx ≠ x →
  sp (gV (.ref x :: vs) zs) (upd (upd H2 dx (.own x)) x (.ins C dx [])) (fun v H3 => v = .non ∧ Q (.ref x) H3) (E σ)
theorem run_makeKS {CX : CXT} {k n : Nat} {f : Addr} {fd : FuncData} {ps ks : List Str} {sp : Sp} {E : XK} {g : List Value → List Value → List Value} {gV : List V → List V → List V} {pins : List (Addr × Obj)} {σ : L2.St} {H : Hp} {s : Shared} {Q : VK} {us ws : List Value} {vs zs : List V} (M : Mk X.K C f) (F : FnOk X.prog X.w X.K X.mg X.base CX k f fd ps sp) (hr : Room (k + 1) X.A) (hb : KBn X.K fd ps (n + 1) ks g gV) (hx : PassesAt CX X σ E)
    (I : Inv X pins σ H s) (r : Vals vs us) (rz : Vals zs ws) (l1 : vs.length = n) (l2 : zs.length = ks.length)
    (h : ∀ x dx, H x = none → H dx = none → dx ≠ x → sp (gV (.ref x :: vs) zs) (upd (upd H dx (.own x)) x (.ins C dx [])) (fun v H2 => v = .non ∧ Q (.ref x) H2) E) :
    wpAny (model X.prog X.w) X.A (call (.ref C) us (ks.zip ws)) (EP X pins σ Q) X.xe s := by
  have hq := h (s.heap.objs.size + 1) s.heap.objs.size (I.hok.fresh (Nat.le_succ _)) (I.hok.fresh (Nat.le_refl _)) (Nat.ne_of_lt (Nat.lt_succ_self _))
  have I2 := Inv.made (C := C) I
  have r1 : Vals (V.ref (s.heap.objs.size + 1) :: vs) (Value.ref (s.heap.objs.size + 1) :: us) := .cons rfl r
  have r2 := hb.rel r1 rz
  have n1 : (Value.ref (s.heap.objs.size + 1) :: us).length = n + 1 := by
    rw [List.length_cons, ← r.length, l1]
  refine wpAny_call (make_map (f := f) I.kIn M.makes M.init (beq_iff_eq.mp M.fn) (codeAny_mono (F.run _ X.stack _ _ ⟨Value.ref (s.heap.objs.size + 1) :: us, ks.zip ws⟩ (g (Value.ref (s.heap.objs.size + 1) :: us) ws) _ _ E (hr.make C us (ks.zip ws))
    (I2.env0.make C us (ks.zip ws)) (hb.to _ (Value.ref (s.heap.objs.size + 1) :: us) ws I2.kIn n1 (rz.length.symm.trans l2)) r2 hq) fun r s' hq' => ?_))
  cases r with
  | error e => exact hx pins _ _ e s' I2 hq'
  | ok fl =>
    cases fl with
    | ret u =>
      obtain ⟨v, H', I3, rv, ev, q3⟩ := I2.after hq'
      subst ev
      exact ⟨rv, ⟨V.ref (s.heap.objs.size + 1), H', I3, rfl, q3⟩⟩
    | next => exact False.elim hq'
    | brk => exact False.elim hq'
    | cont => exact False.elim hq'
theorem pe_makeKS {CX : CXT} {k n : Nat} {f : Addr} {fd : FuncData} {ps ks : List Str} {sp : Sp} {E : L2.St → XK} {x : Str} {p : Pos} {t tk : TA} {g : List Value → List Value → List Value} {gV : List V → List V → List V} (M : Mk X.K C f) (F : FnOk X.prog X.w X.K X.mg X.base CX k f fd ps sp) (hr : Room (k + 1) X.A) (hg : Gl X x) (hm : X.mg x = some (.ref C)) (hb : KBn X.K fd ps (n + 1) ks g gV) (hx : ∀ σ, PassesAt CX X σ (E σ)) (ha : PA X (e :: es) t) (hkw : PK X kws tk)
    (hall : (backToKw pos (keywordEach kws X.env)).all (·.1.isSome) = true := by rfl) (hks : (backToKw pos (keywordEach kws X.env)).filterMap (·.1) = ks := by rfl) (hdb : (x == ("__debug__" : Str)) = false := by decide)
    (he : starEach (e :: es) X.env = (false, eval e X.env) :: starEach es X.env := by rfl) (hpl : ((backTo pos (starEach (e :: es) X.env)).any (·.1) || (backToKw pos (keywordEach kws X.env)).any (·.1.isNone)) = false := by rfl) :
    PE X (.Call (.Name x p) (e :: es) kws pos) (tMakeKS C n ks.length sp gV E t tk) := by
  refine ⟨fun pins s σ H Q I h => ?_⟩
  refine wpAny_Call_Name_kw (ld_glob I hg hm ?_ hdb)
  refine PySem.W.callWith_KW (h₀ := X.base) I.ok.mod.kin M.kp hall (thn (ha.run pos pins s σ H _ I h) fun us s1 ⟨vs, H1, I1, r, q⟩ => ?_) hpl he
  refine thn (hkw.run pos pins s1 σ H1 _ I1 q) fun ws s2 ⟨zs, H2, I2, rz, l1, l2, q2⟩ => ⟨I2.kIn, ?_⟩
  rw [hks]
  exact run_makeKS M F hr hb (hx σ) I2 r rz l1 l2 q2
/-- how the arguments of C(..) come to __init__'s parameters (self apart): dg on data -/
def fMake (C : Addr) (n m : Nat) (dg : List D → List D → List D) (g : List D → Option (R (List Str × List D))) (fr fk : PS1 → Option (R (List D))) : PS1 → Option (R D) := fun s => bnd (fr s) fun ds => bnd (fk s) fun ks =>
  if ds.length = n ∧ ks.length = m then bnd (g (dg ds ks)) fun o => some (.ok (.obj C o.1 o.2)) else none
theorem make_imp {K : PySem.W.Frag} {n m a : Nat} {dg : List D → List D → List D} {gV : List V → List V → List V} {g : List D → Option (R (List Str × List D))} {σ : L2.St} {H : Hp} {Q : VK}
    (hgV : ∀ {B : Hp} {v : V} {ds ks : List D} {vs zs : List V}, ds.length = n → ks.length = m → Reps K B ds vs → Reps K B ks zs → ∃ us, gV (v :: vs) zs = v :: us ∧ Reps K B (dg ds ks) us ∧ us.length = a)
    (h : tD K W (fMake C n m dg g fr fk) σ H Q) : tMakeKS C n m (spI K C a g) gV (WE W) (tDs K W fr) (tDs K W fk) σ H Q := by
  obtain ⟨B, h⟩ := h
  refine ⟨B, (Run.bind h).imp fun ds B1 H1 e1 h1 vs rs => ⟨B1, (Run.bind h1).imp fun ks B2 H2 e2 h2 zs rz => ?_⟩⟩
  obtain ⟨ad, s, r, hs, hf, hq⟩ := h2
  split at hf
  · rename_i hl
    refine ⟨by rw [rs.length]; exact hl.1, by rw [rz.length]; exact hl.2, fun x dx hx hdx hne => ?_⟩
    obtain ⟨us, e3, ru, ua⟩ := hgV (v := .ref x) hl.1 hl.2 (rs.mono e2.b) rz
    rw [e3]
    cases eg : g (dg ds ks) with
    | none => rw [eg] at hf; cases hf
    | some rg =>
      rw [eg] at hf
      refine ⟨by rw [List.length_cons, ua], x, dx, H2, B2, dg ds ks, rg, us, rfl, hx, hdx, hne, rfl, hs.bh, ru, eg, ?_⟩
      cases rg with
      | er y =>
        cases hf
        exact fun cls dd B' H' x r => hq cls dd B' H' x r
      | ok o =>
        cases hf
        exact fun B' H' ex r => ⟨rfl, hq B' H' ex _ r⟩
  · cases hf
theorem de_make {k n a : Nat} {f : Addr} {fd : FuncData} {ps ks : List Str} {x : Str} {p : Pos} {dg : List D → List D → List D} {gv : List Value → List Value → List Value} {gV : List V → List V → List V} {g : List D → Option (R (List Str × List D))} (M : Mk X.K C f) (F : FnI X.prog X.w X.K X.mg X.base k f fd ps C a g) (hr : Room (k + 1) X.A) (hg : Gl X x) (hm : X.mg x = some (.ref C)) (hb : KBn X.K fd ps (n + 1) ks gv gV)
    (hgV : ∀ {B : Hp} {v : V} {ds ks' : List D} {vs zs : List V}, ds.length = n → ks'.length = ks.length → Reps X.K B ds vs → Reps X.K B ks' zs → ∃ us, gV (v :: vs) zs = v :: us ∧ Reps X.K B (dg ds ks') us ∧ us.length = a) (tk : Takes X W) (ha : DA X W (e :: es) fr) (hkw : DK X W kws fk)
    (hall : (backToKw pos (keywordEach kws X.env)).all (·.1.isSome) = true := by rfl) (hks : (backToKw pos (keywordEach kws X.env)).filterMap (·.1) = ks := by rfl) (hdb : (x == ("__debug__" : Str)) = false := by decide)
    (he : starEach (e :: es) X.env = (false, eval e X.env) :: starEach es X.env := by rfl) (hpl : ((backTo pos (starEach (e :: es) X.env)).any (·.1) || (backToKw pos (keywordEach kws X.env)).any (·.1.isNone)) = false := by rfl) :
    DE X W (.Call (.Name x p) (e :: es) kws pos) (fMake C n ks.length dg g fr fk) :=
  PE.imp (pe_makeKS M F hr hg hm hb (fun σ => passAt tk σ) ha hkw hall hks hdb he hpl) fun _ _ _ h => make_imp hgV h

/-! ### raise -/
def fRaise (C : Addr) (fe : PS1 → Option (R D)) : PS1 → Option Fl := fEx fe fun _ s => some (.er ⟨C, none⟩ s)
theorem ds_raise {bmB : List Value} {B newId initId : String} {x : Str} {p pos2 : Pos} (hc : X.calm = true) (tk : Takes X W) (F : ExcBaseFacts B newId initId bmB) (q : PySem.W.excIn X.K C bmB newId = true) (gC : X.mg x = some (.ref C)) (kC : PySem.W.keepIn X.K (.ref C) = true) (r : Raises X (.ref C)) (hg : Gl X x)
    (he : DE X W e fe) (hs : starEach [e] X.env = (false, eval e X.env) :: starEach [] X.env := by rfl) (hdb : (x == ("__debug__" : Str)) = false := by decide) : DS X W (.Raise (some (.Call (.Name x p) [e] [] pos)) none pos2) (fRaise C fe) := by
  refine PS.imp (ps_raise hc tk (SkE.pmk_own1 F q gC kC r hg he hs hdb)) fun D σ H h => ?_
  obtain ⟨B0, H0, B, ad, s, rr, g, hf, hq⟩ := h
  refine ⟨B, (ex_run g hf hq).imp fun d B' H' _ ⟨x, e2⟩ v rv => ?_⟩
  cases e2
  exact hq (.ref C) none σ H' B' ad x.b (g.mono x) ⟨rfl, rfl⟩
/-- f'..{e}..' -/
def strOf : D → Option Str
  | .str y => if y.length ≤ 100000 then some y else none
  | .int i => if i.natAbs.log2 < 1920 then some (toString i) else none
  | _ => none
end
end FL

namespace PySem
open Sem (wp)
open AutoSeq1 (wpAny_loadPart')
set_option maxHeartbeats 4000000
section
variable {prog : Program} {w : World} {A : Around} {E : Value → Shared → Prop} {s : Shared}
theorem callType_meetsK {T newId initId : String} {Bn Bi : Builtin} {args : List Value} {kw : List (Str × Value)} {S : Spec} {Q Q₁ : Value → Shared → Prop} (ft : TypeCalled T newId initId)
    (hct : checkTypeCall T ⟨args, kw⟩ = pure ()) (hcn : checkBuiltinCall newId ⟨.type T :: args, kw⟩ = pure ())
    (entryN : entryFor table newId = some Bn) (entryI : entryFor table initId = some Bi) (g : Meets (Bn ⟨.type T :: args, kw⟩) S)
    (h : S A.in1 (wants Q₁ E) s)
    (hnext : ∀ obj s₁, Q₁ obj s₁ → s₁.TypeIs obj T ∧ argsOk initId ⟨obj :: args, kw⟩ ∧ ∃ Si, Meets (Bi ⟨obj :: args, kw⟩) Si ∧ Si A.in1 (wants (fun r s₂ => r = .none ∧ Q obj s₂) E) s₁) :
    wpAny (model prog w) A (call (.type T) args kw) Q E s := by
  obtain ⟨c, tl, hmro⟩ := ft.mro
  have hmade := ft.made
  have hsub := ft.sub
  refine wpAny_call (codeAny_of_tree ?_)
  show wpAny _ _ (callAny (.type T) _) _ _ _
  refine wpAny_pure ⟨Code.quiet_builtin _ (by decide +kernel), codeAny_builtin F.entry_type_call ?_⟩
  rw [Around.under_plain (weight_type_call_type T args kw) (units_type_call_type T args kw)]
  have h1 := ft.notType
  have h2 := ft.canCreate
  repeat (any_goals (first | assumption | wp_step))

  refine codeAny_mono (codeAny_call_builtin ft.plain entryN (wpAny_of_eq hcn (g prog w A.in1 _ s h))) fun r s₁ hr => ?_
  cases r with
  | error e => exact hr
  | ok fl =>
    cases fl with
    | ret obj =>
      obtain ⟨hT, hok, Si, gi, hsi⟩ := hnext _ _ hr
      have hli := ft.init.lookup
      have hbi := ft.init.bind obj
      repeat (any_goals (first | assumption | wp_step))

      refine codeAny_mono (codeAny_call_builtin ft.init.plain entryI (ft.init.check _ _ _ _ _ _ _ _ hT hok (gi prog w A.in1 _ s₁ hsi))) fun r₂ s₂ hr₂ => ?_
      cases r₂ with
      | error e => exact hr₂
      | ok fl₂ =>
        cases fl₂ with
        | ret r =>
          obtain ⟨rfl, hq⟩ := hr₂
          repeat (any_goals (first | assumption | wp_step))
        | _ => exact hr₂.elim
    | _ => exact hr.elim
theorem object_init_meetsK {T newId : String} {self a : Value} {kw : List (Str × Value)} (hl : typeLookup (.type T) "__init__" = pure (some (.builtin "object.__init__")))
    (hm : Bind.madeBy (.type T) = pure (some newId)) (hne : (some newId != some "object.__new__") = true) :
    Meets (Builtin.«object.__init__» ⟨[self, a], kw⟩) (fun _ R s => s.TypeIs self T ∧ R (.ok (.ret .none)) s) := by
  refine Meets.of_wp fun prog w A R s hs => ?_
  obtain ⟨hT, hq⟩ := hs
  repeat (any_goals (first | assumption | wp_step))
  exact ⟨_, rfl, hq⟩
/-- enumerate(t, start=1) of a tuple -/
theorem meets_enumerate_newK (l : Addr) (items : Array Value) (tk : Tok) :
    Meets (Builtin.«enumerate.__new__» ⟨[.type "enumerate", .ref l], [(Str.ofString "start", .int 1 tk)]⟩) (fun _ R s => s.heap.IsTuple l items ∧
      R (.ok (.ret (.ref (s.heap.push { cls := .type "tuple_iterator", data := .fields #[.ref l, .int 0 0] }).objs.size)))
        { s with heap := (s.heap.push { cls := .type "tuple_iterator", data := .fields #[.ref l, .int 0 0] }).push { cls := .type "enumerate", data := .fields #[.none, .bool false, .ref s.heap.objs.size, rawInt 1, .none, .none] } }) :=
  .of_wp fun prog w A R s h => by
    obtain ⟨hp, g, d, tk, os⟩ := s; obtain ⟨hL, h⟩ := h
    have hL : Heap.IsTuple (Shared.heap ⟨hp, g, d, tk, os⟩) l items := hL
    have hsub := sub_enumerate
    have hf : Builtin.SmallTypes.fitsIndex 1 = true := by decide
    wp_walk
    refine wpAny_stack_any fun st => wpAny_pure ?_
    split
    · rename_i c _ _ _ _ _
      cases (c == Value.type "enumerate")
      · wp_walk using wpAny_pyIter_tuple hL
        exact ⟨_, rfl, h⟩
      · wp_walk using wpAny_pyIter_tuple hL
        exact ⟨_, rfl, h⟩
    · wp_walk using wpAny_pyIter_tuple hL
      exact ⟨_, rfl, h⟩
theorem call_enumerate_tupK {l : Addr} {items : Array Value} {tk : Tok} {Q : Value → Shared → Prop} (hL : s.heap.IsTuple l items)
    (h : ∀ h', IsEnum h' (s.heap.objs.size + 1) s.heap.objs.size 1 .none → h'.IsTupleIter s.heap.objs.size l 0 → h'.objs.size = s.heap.objs.size + 2 →
      (∀ b o, s.heap.get? b = some o → h'.get? b = some o) → Q (.ref (s.heap.objs.size + 1)) { s with heap := h' }) :
    wpAny (model prog w) A (call (.type "enumerate") [.ref l] [(Str.ofString "start", .int 1 tk)]) Q E s := by
  refine callType_meetsK (Q₁ := fun obj s₁ => s₁.TypeIs obj "enumerate" ∧ Q obj s₁) F.called_enumerate (by kernel_rfl) (by kernel_rfl) F.entry_enumerate_new F.entry_object_init (meets_enumerate_newK l items tk) ⟨hL, ?_⟩ fun obj s₁ hq => ⟨hq.1, by unfold argsOk; kernel_rfl, _, object_init_meetsK F.called_enumerate.init.lookup F.called_enumerate.made (by decide), hq.1, rfl, hq.2⟩
  have hz : (s.heap.push { cls := .type "tuple_iterator", data := .fields #[.ref l, .int 0 0] }).objs.size = s.heap.objs.size + 1 := Heap.size_push ..
  show _ ∧ _
  rw [hz]
  have he : IsEnum ((s.heap.push { cls := .type "tuple_iterator", data := .fields #[.ref l, .int 0 0] }).push
      { cls := .type "enumerate", data := .fields #[.none, .bool false, .ref s.heap.objs.size, rawInt 1, .none, .none] }) (s.heap.objs.size + 1) s.heap.objs.size 1 .none := by
    have := Heap.get?_push_size (s.heap.push { cls := .type "tuple_iterator", data := .fields #[.ref l, .int 0 0] })
      (o := { cls := .type "enumerate", data := .fields #[.none, .bool false, .ref s.heap.objs.size, rawInt 1, .none, .none] }) rfl
    rw [hz] at this; exact this
  refine ⟨⟨_, he, rfl⟩, h _ he ⟨_, Heap.get?_push_of_some _ (Heap.get?_push_size _ rfl), rfl, rfl⟩ (by rw [Heap.size_push, hz]) fun b o x => Heap.get?_push_of_some _ (Heap.get?_push_of_some _ x)⟩
/-- the items of a tuple, counted from 1 on -/
theorem Draws.tupK {prog : Program} {w : World} {A : Around} (hh : A.handled = none) (it t : Addr) (items : Array Value) (hne : t ≠ it) :
    Draws prog w A it [it, t] (items.size + 1) (fun i v => ∃ j, i = j + 1 ∧ items[j]? = some v) (fun i h => ∃ j, i = j + 1 ∧ h.IsTupleIter it t j ∧ h.IsTuple t items) where
  live := fun _ _ st => let ⟨_, _, ⟨o, ho, _⟩, _⟩ := st; ⟨o, ho⟩
  frame := fun _ _ _ st hk => by
    obtain ⟨j, e, ⟨o, ho, r⟩, ⟨o2, ho2, r2⟩⟩ := st
    exact ⟨j, e, ⟨o, hk it (by simp) o ho, r⟩, ⟨o2, hk t (by simp) o2 ho2, r2⟩⟩
  item := fun i s Q E hi st hQ => by
    obtain ⟨j, rfl, h1, h2⟩ := st
    have hj : j < items.size := by omega
    refine wpAny_nextOf_tuple_item h1 h2 (x := items[j]) (by simp [hj]) fun h' hit' hs' => ?_
    refine hQ _ h' s.toks ⟨j, rfl, by simp [hj]⟩ ⟨j + 1, rfl, hit', ?_⟩ hs'
    obtain ⟨o2, ho2, r2⟩ := h2
    exact ⟨o2, (hs'.2 t hne).trans ho2, r2⟩
  done := fun s Q E st hE => by
    obtain ⟨j, ej, h1, h2⟩ := st
    have hj : j = items.size := by omega
    subst hj
    exact wpAny_nextOf_tuple_end hh h1 h2 (by simp) hE
end
end PySem
namespace FL
open PySem PySem.Spec PyProof.Rows L2
/-- the tuple at a, each item in a new pair with its number from 1 on -/
def IteK (K : PySem.W.Frag) (a : Addr) : It :=
  ⟨fun i H => ∃ (xs : List V) (x : V), SqT K H a xs ∧ xs[i]? = some x, fun i H v H' => ∃ T x, v = .ref T ∧ H T = none ∧ H' = upd H T (.tup [.int ((i : Nat) + 1), x]) ∧ ∀ xs, SqT K H a xs → xs[i]? = some x, fun i H => ∃ xs : List V, SqT K H a xs ∧ xs.length = i⟩
theorem turn_enumK {P : Program} {w : World} {K : PySem.W.Frag} {elts : List Expr} {kk : Nat} {tpos : Pos} (a e it : Addr) :
    Turn P w K (.Tuple elts kk tpos) (IteK K a) [e, it] e (fun i h => (∃ old, IsEnum h e it (((i : Nat) : Int) + 1) old) ∧ h.IsTupleIter it a i ∧ e ≠ it ∧ a ≠ it ∧ a ≠ e) where
  mem := by simp
  obj := fun i h st b hb => by
    obtain ⟨⟨old, he⟩, ⟨o, ho, hc, hd⟩, _⟩ := st
    have e' : b = e ∨ b = it := by simpa using hb
    rcases e' with z | z
    · rw [z]; exact ⟨_, he, fun v q => nomatch q⟩
    · rw [z]; exact ⟨o, ho, fun v q => by rw [hd] at q; cases q⟩
  keep := fun i h h' st k => let ⟨⟨old, he⟩, hi, hne⟩ := st; ⟨⟨old, k e (by simp) _ he⟩, hi.at fun o q => k it (by simp) o q, hne⟩
  item := by
    intro X hP hw hK hc i pins s σ H E I hf st hg
    subst hP hw hK
    obtain ⟨⟨old, he⟩, hit, hne, hai, hae⟩ := st
    obtain ⟨xs, x, hq, hx⟩ := hg
    obtain ⟨its, rv, p, hz⟩ := I.tuple hq
    obtain ⟨u, hu, ru⟩ := rv.get hx
    have hel : e < s.heap.objs.size := Heap.lt_size he
    have hil : it < s.heap.objs.size := by obtain ⟨_, q, _⟩ := hit; exact Heap.lt_size q
    have D : Draws X.prog X.w X.A.in1 it [it, a] (its.toArray.size + 1) (fun i v => ∃ j, i = j + 1 ∧ its.toArray[j]? = some v) (fun i h => ∃ j, i = j + 1 ∧ h.IsTupleIter it a j ∧ h.IsTuple a its.toArray) := Draws.tupK (A := X.A.in1) (I.ok.hd hc) it a its.toArray hai
    have hil2 : i < its.length := (List.getElem?_eq_some_iff.mp hu).1
    refine wpAny_pyNext_enum_itemD D (i := i + 1) (old := old) (by show IsEnum s.heap e it (((i + 1 : Nat) : Int)) old; have e1 : ((i + 1 : Nat) : Int) = (i : Int) + 1 := by omega
                                                                   rw [e1]; exact he) ⟨i, rfl, hit, p⟩ (by simpa using hil2) hne (by simp [hne, Ne.symm hae]) fun y h' tk hPy ho hst' hT hsz hk => ?_
    obtain ⟨j, ej, ey⟩ := hPy
    have ej' : j = i := by omega
    subst ej'
    have eyu : y = u := by
      have : its.toArray[j]? = some u := by simpa using hu
      rw [this] at ey
      exact (Option.some.inj ey).symm
    subst eyu
    obtain ⟨j2, ej2, hit', _⟩ := hst'
    have ej2' : j2 = j + 1 := by omega
    subst ej2'
    refine ⟨_, rfl, wpAny_letOwnedTupleGo_enum (s := { s with heap := h', toks := tk + 1 }) ho fun h'' he' sb => ?_⟩
    have hT2 : h''.get? s.heap.objs.size = some { cls := .type "tuple", data := .seq #[.int ((j + 1 : Nat) : Int) tk, y] } := (sb.2 _ (Nat.ne_of_gt hel)).trans hT
    have e1 : ((j + 1 : Nat) : Int) = (j : Int) + 1 := by omega
    rw [e1] at hT2
    have new : ObjOk X.prog X.w (upd H s.heap.objs.size (.tup [.int ((j : Nat) + 1), x])) h'' s.heap.objs.size (.tup [.int ((j : Nat) + 1), x]) :=
      ⟨by show 2 ≤ sizeLine; decide, [.int ((j : Int) + 1) tk, y], .cons ⟨_, rfl⟩ (.cons ru .nil), ⟨_, hT2, rfl, _, rfl⟩⟩
    have I1 : Inv X pins σ (upd H s.heap.objs.size (.tup [.int ((j : Nat) + 1), x])) { s with heap := h'', toks := tk + 1 } :=
      I.turnedNew (ch := [e, it]) (fun b ob hb q => (sb.2 b (fun z => hb (by simp [z]))).trans (hk b ob (fun z => hb (by simp [z])) (fun z => hb (by simp [z])) q)) hf (Nat.le_refl _) new
    refine ⟨.ref s.heap.objs.size, _, I1, rfl, ⟨_, x, rfl, I.hok.fresh (Nat.le_refl _), rfl, fun ys hy => by rw [I.tuple_inj hy hq]; exact hx⟩, ⟨⟨y, ?_⟩, hit'.at fun o q => (sb.2 it (Ne.symm hne)).trans q, hne, hai, hae⟩, fun b hb => ?_⟩
    · rw [e1] at he' ⊢
      exact he'
    · have hb' : b < s.heap.objs.size := by
        have e' : b = e ∨ b = it := by simpa using hb
        rcases e' with z | z
        · rw [z]; exact hel
        · rw [z]; exact hil
      rw [upd_ne (Nat.ne_of_lt hb')]
      exact (hf b hb).1
  done := by
    intro X hP hw hK hc i pins s σ H E I hf st hg
    subst hP hw hK
    obtain ⟨⟨old, he⟩, hit, hne, hai, hae⟩ := st
    obtain ⟨xs, hq, hx⟩ := hg
    obtain ⟨its, rv, p, hz⟩ := I.tuple hq
    obtain ⟨f0, f1, f2, f3, f4, f5⟩ := hf it (by simp)
    have hl := rv.length
    have hi : i = its.length := by omega
    subst hi
    have D : Draws X.prog X.w X.A.in1 it [it, a] (its.toArray.size + 1) (fun i v => ∃ j, i = j + 1 ∧ its.toArray[j]? = some v) (fun i h => ∃ j, i = j + 1 ∧ h.IsTupleIter it a j ∧ h.IsTuple a its.toArray) := Draws.tupK (A := X.A.in1) (I.ok.hd hc) it a its.toArray hai
    exact wpAny_pyNext_enum_endD D he ⟨its.length, by simp, hit, p⟩ fun h' eb => ⟨rfl, I.turned (t' := s.toks) (fun b o hb q => eb b o hb q) f0 f1 f3 f4 f5⟩
  self := fun A i s Q E st h => let ⟨⟨_, he⟩, _⟩ := st; wpAny_pyIter_enum he h
section
variable {M : Model} {A : Around} {E : Value → Shared → Prop} {s : Shared} {env : Env}
theorem callWith_type_kwB {pos : Pos} {T : String} {first : List Value} {args : List (Bool × Sem Value)} {keywords : List (Option Str × Sem Value)} {Q : Value → Shared → Prop}
    (hplain : args.any (·.1) = false) (hkw : keywords.any (·.1.isNone) = false)
    (h : wpAny M A (evalArgs (.type T) true args keywords) (fun a s₁ => wpAny M A (call (.type T) (first ++ a.pos) a.kw) Q E s₁) E s) :
    wpAny M A (callWith pos (.type T) first args keywords) Q E s := by
  unfold callWith
  refine wpAny_bind (wpAny_holding (wpAny_mono h (fun a s₁ h₁ => wpAny_bind (wpAny_standAt ?_)) fun _ _ x => x))
  simp only [hplain, hkw, Bool.or_false]
  refine wpAny_bind (wpAny_pure ?_)
  exact wpAny_bind (wpAny_mono h₁ (fun r s₂ hr => wpAny_bind (wpAny_holding (wpAny_point (wpAny_pure hr)))) fun _ _ x => x)
end
/-- the items, each with its number -/
def enumD (k : Int) : List D → List D
  | [] => []
  | d :: ds => .tup [.int k, d] :: enumD (k + 1) ds
theorem enumD_get : ∀ {ds : List D} {k : Int} {i : Nat} {d : D}, (enumD k ds)[i]? = some d → ∃ x, ds[i]? = some x ∧ d = .tup [.int (k + i), x]
  | [], _, _, _, h => by simp [enumD] at h
  | x :: ds, k, 0, d, h => by
    have e : D.tup [.int k, x] = d := Option.some.inj h
    exact ⟨x, rfl, by rw [← e]; simp⟩
  | x :: ds, k, i + 1, d, h => by
    obtain ⟨y, e1, e2⟩ := enumD_get (ds := ds) (k := k + 1) (i := i) h
    refine ⟨y, e1, ?_⟩
    rw [e2]
    congr 3
    omega
theorem enumD_len : ∀ {ds : List D} {k : Int}, (enumD k ds).length = ds.length
  | [], _ => rfl
  | _ :: ds, k => by
    show (enumD (k + 1) ds).length + 1 = ds.length + 1
    rw [enumD_len]
def iEnumK (K : PySem.W.Frag) (te : TE) : TI := fun σ H R => te σ H fun v H1 => ∃ a xs, v = .ref a ∧ SqT K H1 a xs ∧ R (IteK K a) H1
section
variable {X : Cx} {W : WX} {e : Expr} {fe : PS1 → Option (R D)}
theorem pi_enumK {te : TE} {p pos tpos cpos kpos : Pos} {elts : List Expr} {kk j : Nat} (hg : Gl X "enumerate") (hm : X.mg "enumerate" = none) (he : PE X e te) (hmono : ∀ {σ : L2.St} {H : Hp} (Q Q' : VK), (∀ v H', Q v H' → Q' v H') → te σ H Q → te σ H Q')
    (hs : starEach [e] X.env = (false, eval e X.env) :: starEach [] X.env := by rfl) (hpl : (backTo pos (starEach [e] X.env)).any (·.1) = false := by rfl) :
    PI X (.Tuple elts kk tpos) (.Call (.Name "enumerate" p) [e] [⟨some "start", .Constant (.int 1) j cpos, kpos⟩] pos) (iEnumK X.K te) := by
  refine ⟨fun pins s σ H R I h => ?_⟩
  refine wpAny_Call_Name_kw (ld_blt I hg hm boot_enumerate ?_)
  have ha : PA X [e] (tCons te tNil) := pa_cons he pa_nil hs
  have hk : PK X [⟨some "start", .Constant (.int 1) j cpos, kpos⟩] (tCons (tC (.int 1)) tNil) := pk_cons pe_int pk_nil
  refine callWith_type_kwB hpl (by rfl) (PyProof.Rows.evalArgs_kw2 (by rfl) ?_ hs)
  have q0 : tCons te tNil σ H (fun vs H1 => ∃ a xs, vs = [V.ref a] ∧ SqT X.K H1 a xs ∧ R (IteK X.K a) H1) := hmono _ _ (fun v H1 ⟨a, xs, ev, hq, q⟩ => ⟨a, xs, by rw [ev], hq, q⟩) h
  refine thn (ha.run pos pins s σ H _ I q0) fun us s1 ⟨vs, H1, I1, r1, a, xs, ev, hq, q⟩ => ?_
  refine thn (hk.run pos pins s1 σ H1 (fun zs H2 => zs = [V.int 1] ∧ H2 = H1) I1 ⟨rfl, rfl⟩) fun ws s2 ⟨zs, H2, I2, r2, ez, eH⟩ => ?_
  subst ev ez eH
  cases r1 with
  | cons r rr =>
    cases rr
    cases r
    cases r2 with
    | cons rz rzz =>
      cases rzz
      obtain ⟨tk, rfl⟩ := rz
      obtain ⟨its, rv, p', hz⟩ := I2.tuple hq
      show wpAny _ _ (call (.type "enumerate") [.ref a] [(Str.ofString "start", .int 1 tk)]) _ _ _
      refine call_enumerate_tupK p' fun h' he hit hsz hk => wpAny_pyIter_enum he ?_
      have I3 : Inv X pins σ H2 { s2 with heap := h' } := I2.kept (t' := s2.toks) hk
      have al : a < s2.heap.objs.size := by
        obtain ⟨o, ho, _⟩ := p'
        exact Heap.lt_size ho
      refine ⟨s2.heap.objs.size + 1, [s2.heap.objs.size + 1, s2.heap.objs.size], _, _, H2, rfl, I3, turn_enumK a (s2.heap.objs.size + 1) s2.heap.objs.size, ⟨⟨.none, by simpa using he⟩, hit, Nat.succ_ne_self _, Nat.ne_of_lt al, Nat.ne_of_lt (Nat.lt_succ_of_lt al)⟩, fun b hb => ?_, q⟩
      have e' : b = s2.heap.objs.size + 1 ∨ b = s2.heap.objs.size := by simpa using hb
      have hle : s2.heap.objs.size ≤ b := by
        rcases e' with z | z
        · rw [z]; exact Nat.le_add_right _ _
        · rw [z]; exact Nat.le_refl _
      exact I2.fpOk hle (I2.hok.fresh hle)
theorem walk_enumK {K : PySem.W.Frag} {B : Hp} {p : Addr} {vs : List V} {ds : List D} (hs : SqT K B p vs) (rs : Reps K B ds vs) : WalkD K B (IteK K p) (enumD 1 ds) where
  go := fun i d B1 H1 b1 bh e => by
    obtain ⟨x, ex, rfl⟩ := enumD_get e
    obtain ⟨v, ev, rv⟩ := rs.get ex
    have hq := seqT (b1.trans bh) hs
    refine ⟨⟨vs, v, hq, ev⟩, fun t H' ⟨T, y, et, hT, eH, hx⟩ => ?_⟩
    subst et eH
    have := hx vs hq
    rw [ev] at this
    cases this
    have E := Ext.laid (o := .tup [.int ((i : Nat) + 1), v]) bh hT
    refine ⟨_, E, rep_tup.mpr ⟨T, _, rfl, SqT.of upd_same, Reps.cons (rep_int.mpr ?_) (Reps.one ((rv.mono b1).mono E.b))⟩⟩
    congr 1
    omega
  stop := fun B1 H1 b1 bh => ⟨vs, seqT (b1.trans bh) hs, by rw [rs.length, enumD_len]⟩
def fEnumK (fe : PS1 → Option (R D)) : PS1 → Option (R (List D)) := fun s => bnd (fe s) fun x => match x with
  | .tup xs => some (.ok (enumD 1 xs))
  | _ => none
theorem tD_mono {K : PySem.W.Frag} {σ : L2.St} {H : Hp} {Q Q' : VK} (h : tD K W fe σ H Q) (k : ∀ v H', Q v H' → Q' v H') : tD K W fe σ H Q' := by
  obtain ⟨B, h⟩ := h
  exact ⟨B, h.imp fun d B' H' _ z v r => k v H' (z v r)⟩
theorem di_enumK {p pos tpos cpos kpos : Pos} {elts : List Expr} {kk j : Nat} (hg : Gl X "enumerate") (hm : X.mg "enumerate" = none) (he : DE X W e fe)
    (hs : starEach [e] X.env = (false, eval e X.env) :: starEach [] X.env := by rfl) (hpl : (backTo pos (starEach [e] X.env)).any (·.1) = false := by rfl) :
    DI X W (.Tuple elts kk tpos) (.Call (.Name "enumerate" p) [e] [⟨some "start", .Constant (.int 1) j cpos, kpos⟩] pos) (fEnumK fe) := by
  refine PI.imp (pi_enumK hg hm he (fun Q Q' k h => tD_mono h k) hs hpl) fun σ H R h => ?_
  obtain ⟨B, h⟩ := h
  refine ⟨B, (Run.bind h).imp fun x B1 H1 e1 h1 v rv => ?_⟩
  cases x with
  | tup xs =>
    obtain ⟨a, vs, rfl, hs, rs⟩ := rep_tup.mp rv
    exact ⟨a, vs, rfl, seqT h1.same hs, Run.now (P := fun ds B' H' => ∀ J, WalkD X.K B' J ds → R J H') h1 _ (walk_enumK hs rs)⟩
  | _ => obtain ⟨_, _, _, _, hf, _⟩ := h1; cases hf
end
/-! ### lcm -/
def rLcm : List V → Hp → VK → Prop := fun vs H Q => ∃ a b : Int, vs = [.int a, .int b] ∧ a.natAbs < 2 ^ 64 ∧ b.natAbs < 2 ^ 64 ∧ Q (.int ((Nat.lcm a.natAbs b.natAbs : Nat) : Int)) H
theorem cr_lcm {X : Cx} : CallR X (.builtin "math.lcm") rLcm := by
  intro pins s σ H vs us Q I r h
  obtain ⟨a, b, rfl, ha, hb, q⟩ := h
  obtain ⟨t, u, rfl⟩ := Vals.int2 r
  exact PySem.W.mc_lcm ha hb fun _ => ⟨.int _, H, I.tok _, ⟨_, rfl⟩, q⟩
def gLcm : List D → Option D
  | [.int i, .int j] => if i.natAbs < 2 ^ 64 ∧ j.natAbs < 2 ^ 64 then some (.int (Nat.lcm i.natAbs j.natAbs : Nat)) else none
  | _ => none
theorem pure_lcm {K : PySem.W.Frag} : PureC K rLcm gLcm := by
  intro B H xs z vs Q bh e rs q
  unfold gLcm at e
  split at e
  · split at e
    · rename_i c
      cases e
      obtain ⟨v, u, rfl, r1, r2⟩ := reps_2 rs
      exact ⟨_, _, by rw [rep_int.mp r1, rep_int.mp r2], c.1, c.2, q B H (Ext.refl bh) _ (rep_int.mpr rfl)⟩
    · cases e
  · cases e
end FL

namespace FL
open PySem PySem.Spec PyProof.Rows L2
section
variable {X : Cx} {W : WX} {e a b : Expr} {es : List Expr} {pos : Pos} {fe fa fb : PS1 → Option (R D)}
/-! ### f'..' -/
def fFmt (fe : PS1 → Option (R D)) : PS1 → Option (R D) := fun s => bnd (fe s) fun x => lft ((strOf x).map .str)
theorem de_fmt (he : DE X W e fe) : DE X W (.FormattedValue e (-1) none pos) (fFmt fe) := by
  refine PE.imp (pe_fmt he) fun σ H Q ⟨B, h⟩ => ?_
  refine ⟨B, (Run.bind h).imp fun x B1 H1 e1 h1 v rv => ?_⟩
  obtain ⟨z, hz, q⟩ := Run.lifted h1
  obtain ⟨y, hy, rfl⟩ := Option.map_eq_some_iff.mp hz
  cases x with
  | str x =>
    have hy : (if x.length ≤ 100000 then some x else none) = some y := hy
    split at hy
    · cases hy
      exact .inl ⟨_, rep_str.mp rv, Nat.le_trans (by assumption) (by decide), q B1 H1 (Ext.refl h1.same) _ (rep_str.mpr rfl)⟩
    · cases hy
  | int i =>
    have hy : (if i.natAbs.log2 < 1920 then some (toString i : Str) else none) = some y := hy
    split at hy
    · cases hy
      exact .inr ⟨_, rep_int.mp rv, by assumption, q B1 H1 (Ext.refl h1.same) _ (rep_str.mpr rfl)⟩
    · cases hy
  | _ => cases hy
def fJs : List (PS1 → Option (R D)) → Str → PS1 → Option (R D)
  | [], acc => fun _ => some (.ok (.str acc))
  | f :: fs, acc => fun s => bnd (f s) fun x => match x with
    | .str y => if (acc ++ y).length ≤ 100000 then fJs fs (acc ++ y) s else none
    | _ => none
theorem js_imp {K : PySem.W.Frag} {σ : L2.St} {Q : VK} : ∀ {fs : List (PS1 → Option (R D))} {acc : Str} {B H : Hp}, Run K W σ (RV K Q) (fJs fs acc) B H → tJs (fs.map (tD K W)) acc σ H (fun out H1 => Q (.str out) H1)
  | [], acc, B, H, h => Run.now h _ (rep_str.mpr rfl)
  | f :: fs, acc, B, H, h => by
    refine ⟨B, (Run.bind h).imp fun x B1 H1 e1 h1 v rv => ?_⟩
    obtain ⟨ad, s, r, hs, hf, hq⟩ := h1
    cases x with
    | str y =>
      replace hf : (if (acc ++ y).length ≤ 100000 then fJs fs (acc ++ y) s else none) = some r := hf
      split at hf
      · exact ⟨y, rep_str.mp rv, Nat.le_trans (by assumption) (by decide), js_imp ⟨ad, s, r, hs, hf, hq⟩⟩
      · cases hf
    | _ => cases hf
inductive DJ (X : Cx) (W : WX) : List Expr → List (PS1 → Option (R D)) → Prop where
  | nil : DJ X W [] []
  | cons {e : Expr} {f : PS1 → Option (R D)} {es : List Expr} {fs : List (PS1 → Option (R D))} (h : DE X W e f) (r : DJ X W es fs) : DJ X W (e :: es) (f :: fs)
theorem DJ.pj {es : List Expr} {fs : List (PS1 → Option (R D))} (h : DJ X W es fs) : PJ X es (fs.map (tD X.K W)) := by
  induction h with
  | nil => exact .nil
  | cons h r ih => exact .cons h ih
theorem de_joined {v1 v2 : Expr} {rest : List Expr} {fs : List (PS1 → Option (R D))} (h : DJ X W (v1 :: v2 :: rest) fs) : DE X W (.JoinedStr (v1 :: v2 :: rest) pos) (fJs fs Str.empty) :=
  PE.imp (pe_joined h.pj) fun σ H Q ⟨B, h⟩ => js_imp h

/-! ### dicts -/
def keyOf : D → Option Key
  | .int i => some (.inl i)
  | .str x => some (.inr x)
  | _ => none
theorem key_rep {K : PySem.W.Frag} {B : Hp} {d : D} {k : Key} {v : V} (h : keyOf d = some k) (r : Rep K B d v) : v = kV k := by
  cases d with
  | int i => cases h; exact rep_int.mp r
  | str i => cases h; exact rep_str.mp r
  | _ => cases h
def gInK (x y : D) : Option D := match y with
  | .dct ks _ => (keyOf x).map fun k => .bl (ks.any fun q => decide (q = k))
  | _ => none
theorem any_fst {kvs : List (Key × V)} {k : Key} : ((kvs.map (·.1)).any fun q => decide (q = k)) = (valV kvs k).isSome := by
  rw [List.any_map, ← valV_any]
  rfl
theorem de_inK (hu : X.A.units + 1 < cLine) (ha : DE X W a fa) (hb : DE X W b fb) (h1 : behindInMarks .In b = false := by first | exact nobehind _ (by decide) (by decide) | rfl) : DE X W (.Compare a [.In] [b] pos) (fop gInK fa fb) := by
  refine PE.imp (pe_cmp (pc_din hu ha hb) h1) fun σ H Q ⟨B, h⟩ => ?_
  refine ⟨B, (Run.bind h).imp fun x B1 H1 e1 h1 v rv => ⟨B1, (Run.bind h1).imp fun y B2 H2 e2 h2 u ru => ?_⟩⟩
  obtain ⟨z, hz, q⟩ := Run.lifted h2
  cases y with
  | dct ks xs =>
    obtain ⟨k, hk, rfl⟩ := Option.map_eq_some_iff.mp (show (keyOf x).map (fun k => D.bl (ks.any fun q => decide (q = k))) = some z from hz)
    obtain ⟨p, kvs, rfl, hp, hn, rs⟩ := rep_dct.mp ru
    refine ⟨p, valV kvs k, rfl, .inl ⟨kvs, k, .inl (h2.same _ _ hp), key_rep hk rv, rfl⟩, ?_⟩
    rw [← any_fst, hn]
    exact q B2 H2 (Ext.refl h2.same) _ (rep_bl.mpr rfl)
  | _ => cases hz
/-- a dict's pairs, one more put in -/
def putP (kvs : List (Key × D)) (k : Key) (x : D) : List (Key × D) := if (kvs.any fun kv => decide (kv.1 = k)) = true then kvs.map (fun kv => if kv.1 = k then (kv.1, x) else kv) else kvs ++ [(k, x)]
def RepP (K : PySem.W.Frag) (B : Hp) (ps : List (Key × D)) (kvs : List (Key × V)) : Prop := kvs.map (·.1) = ps.map (·.1) ∧ Reps K B (ps.map (·.2)) (kvs.map (·.2))
theorem RepP.mono {K : PySem.W.Frag} {B B' : Hp} (e : Same B B') {ps : List (Key × D)} {kvs : List (Key × V)} (h : RepP K B ps kvs) : RepP K B' ps kvs := ⟨h.1, h.2.mono e⟩
theorem RepP.put {K : PySem.W.Frag} {B : Hp} {k : Key} {x : D} {v : V} (rx : Rep K B x v) {ps : List (Key × D)} {kvs : List (Key × V)} (h : RepP K B ps kvs) : RepP K B (putP ps k x) (putK kvs k v) := by
  have ea : (kvs.any fun kv => decide (kv.1 = k)) = ps.any fun kv => decide (kv.1 = k) := by
    have e1 : (kvs.any fun kv => decide (kv.1 = k)) = ((kvs.map (·.1)).any fun q => decide (q = k)) := by rw [List.any_map]; rfl
    have e2 : (ps.any fun kv => decide (kv.1 = k)) = ((ps.map (·.1)).any fun q => decide (q = k)) := by rw [List.any_map]; rfl
    rw [e1, e2, h.1]
  unfold putP putK
  rw [ea]
  split
  · have gen : ∀ {ps : List (Key × D)} {kvs : List (Key × V)}, RepP K B ps kvs → RepP K B (ps.map (fun kv => if kv.1 = k then (kv.1, x) else kv)) (kvs.map (fun kv => if kv.1 = k then (kv.1, v) else kv)) := fun {ps} => by
      induction ps with
      | nil =>
        intro kvs h
        cases kvs with
        | nil => exact h
        | cons p r => have := h.1; cases this
      | cons q ps ih =>
        intro kvs h
        cases kvs with
        | nil => have := h.1; cases this
        | cons p r =>
          obtain ⟨h1, h2⟩ := h
          have e0 : p.1 = q.1 := (List.cons.inj h1).1
          have e1 : r.map (·.1) = ps.map (·.1) := (List.cons.inj h1).2
          obtain ⟨u, us, e2, r1, r2⟩ := reps_cons.mp h2
          have e3 : p.2 = u := (List.cons.inj e2).1
          have e4 : r.map (·.2) = us := (List.cons.inj e2).2
          subst e3 e4
          obtain ⟨i1, i2⟩ := ih ⟨e1, r2⟩
          have j1 : (if p.1 = k then (p.1, v) else p).1 = (if q.1 = k then (q.1, x) else q).1 := by
            rw [e0]
            split
            · rfl
            · exact e0
          have j2 : Rep K B (if q.1 = k then (q.1, x) else q).2 (if p.1 = k then (p.1, v) else p).2 := by
            rw [e0]
            split
            · exact rx
            · exact r1
          refine ⟨?_, ?_⟩
          · rw [List.map_cons, List.map_cons, List.map_cons, List.map_cons, j1, i1]
          · rw [List.map_cons, List.map_cons, List.map_cons, List.map_cons]
            exact Reps.cons j2 i2
    exact gen h
  · refine ⟨?_, ?_⟩
    · rw [List.map_append, List.map_append, h.1]
      rfl
    · rw [List.map_append, List.map_append]
      exact h.2.append (Reps.one rx)
def dcF (gi : D → PS1 → Option PS1) (ft : PS1 → Option (R Bool)) (fk fv : PS1 → Option (R D)) (sw : PS1) : List D → List (Key × D) → Option (List (Key × D))
  | [], acc => some acc
  | d :: ds, acc => (gi d sw).bind fun s1 => match ft s1 with
    | some (.ok true) => (match fk s1 with
      | some (.ok y) => (match fv s1 with
        | some (.ok z) => (keyOf y).bind fun k => dcF gi ft fk fv sw ds (putP acc k z)
        | _ => none)
      | _ => none)
    | some (.ok false) => dcF gi ft fk fv sw ds acc
    | _ => none
def fDc (fi : PS1 → Option (R (List D))) (vs : List Nat) (gi : D → PS1 → Option PS1) (ft : PS1 → Option (R Bool)) (fk fv : PS1 → Option (R D)) : PS1 → Option (R D) := fun s => bnd (fi s) fun ds =>
  lft (if ds.length ≤ 100000 then (dcF gi ft fk fv (wipeS s vs) ds []).map fun kvs => .dct (kvs.map (·.1)) (kvs.map (·.2)) else none)
theorem putP_len (ps : List (Key × D)) (k : Key) (x : D) : (putP ps k x).length ≤ ps.length + 1 := by
  unfold putP
  split
  · rw [List.length_map]
    omega
  · rw [List.length_append, List.length_singleton]
    omega
theorem de_dc {kx vx tg iter : Expr} {ifs : List Expr} {scope : Scope} {own : List (Str × Nat)} {gt : TG} {gi : D → PS1 → Option PS1} {fi : PS1 → Option (R (List D))} {ft : PS1 → Option (R Bool)} {fk fv : PS1 → Option (R D)}
    (hc : X.calm = true) (hN : X.N.Nodup) (hi : DI X W tg iter fi) (ok : BlkOk X.N X.env.scope scope own)
    (hg : ∀ (s : Shared) (H : Hp) (C : Addr) (cl : List (Str × Addr)) (fp : List Addr), PG (X.blk s H scope (compEnvC scope cl C X.env) fp) tg gt) (hgi : TgC X.K (own.map (·.2)) gt gi)
    (ht : ∀ (s : Shared) (H : Hp) (C : Addr) (cl : List (Str × Addr)) (fp : List Addr), DTs (X.blk s H scope (compEnvC scope cl C X.env) fp) ifs ft)
    (hk : ∀ (s : Shared) (H : Hp) (C : Addr) (cl : List (Str × Addr)) (fp : List Addr), DE (X.blk s H scope (compEnvC scope cl C X.env) fp) W0 kx fk)
    (he : ∀ (s : Shared) (H : Hp) (C : Addr) (cl : List (Str × Addr)) (fp : List Addr), DE (X.blk s H scope (compEnvC scope cl C X.env) fp) W0 vx fv) (hs : ∀ x, foldedSetIterable iter X.env x = pure x := by intro _; rfl) :
    DE X W (.DictComp kx vx [⟨tg, iter, ifs, 0⟩] scope pos) (fDc fi (own.map (·.2)) gi ft fk fv) := by
  refine PE.imp (pe_dc (tt := tDb X.K W0 ft) (tk := tD X.K W0 fk) (tv := tD X.K W0 fv) hc hN hi ok hg ht hk he hs) fun σ H Q h => ?_
  obtain ⟨B, ad, s, r, sl, hf, hq⟩ := h
  have hf : bnd (fi s) (fun ds => lft (if ds.length ≤ 100000 then (dcF gi ft fk fv (wipeS s (own.map (·.2))) ds []).map fun kvs => D.dct (kvs.map (·.1)) (kvs.map (·.2)) else none)) = some r := hf
  generalize hvs : own.map (·.2) = vs at hgi hf ⊢
  cases e : fi s with
  | none => rw [e] at hf; cases hf
  | some rd =>
    rw [e] at hf
    cases rd with
    | er x =>
      cases hf
      exact ⟨B, ad, s, .er x, sl, e, hq⟩
    | ok ds =>
      obtain ⟨dd, ht0, rfl⟩ := lft_eq (show lft (if ds.length ≤ 100000 then (dcF gi ft fk fv (wipeS s vs) ds []).map fun kvs => D.dct (kvs.map (·.1)) (kvs.map (·.2)) else none) = some r from hf)
      split at ht0
      · rename_i hz
        obtain ⟨tot, ht1, rfl⟩ := Option.map_eq_some_iff.mp ht0
        refine ⟨B, ad, s, .ok ds, sl, e, fun B1 H1 x1 J wk Dn hD => ?_⟩
        have s1 : Slots X.K B1 H1 ad σ s := sl.mono x1
        have hne := s1.apart_new hD
        have hDo : H Dn = none := x1.h.free hD
        refine ⟨fun i m H' => ∃ B' acc kvs, i + m = ds.length ∧ Same B1 B' ∧ Ext B H B' H' ∧ B' Dn = none ∧ H' Dn = some (.dK kvs) ∧ RepP X.K B' acc kvs ∧ Slots X.K B' H' ad σ s ∧ acc.length ≤ i ∧ dcF gi ft fk fv (wipeS s vs) (ds.drop i) acc = some tot,
          ⟨ds.length, B1, [], [], by omega, Same.refl _, x1.trans (Ext.own s1.bh hD), s1.bh.free hD, upd_same, ⟨rfl, reps_nil.mpr rfl⟩, s1.upd (s1.bh.free hD) hne, Nat.le_refl _, ht1⟩, ?_⟩
        rintro i m H2 ⟨B2, acc, kvs, em, sb, ex, hb, hh, ra, s2, hl, er⟩
        cases m with
        | zero =>
          have ei : i = ds.length := by omega
          subst ei
          rw [List.drop_length] at er
          cases er
          have E := ex.adopt hDo hb hh
          exact .inl ⟨wk.stop B2 H2 sb s2.bh, hq _ H2 E _ (rep_dct.mpr ⟨Dn, kvs, rfl, upd_same, ra.1, ra.2.mono (same_upd hb)⟩)⟩
        | succ n =>
          have hi : i < ds.length := by omega
          rw [List.drop_eq_getElem_cons hi] at er
          obtain ⟨w1, w2⟩ := wk.go i ds[i] B2 H2 sb s2.bh (List.getElem?_eq_getElem hi)
          refine .inr ⟨w1, fun H' => ∃ B' acc kvs, (i + 1) + n = ds.length ∧ Same B1 B' ∧ Ext B H B' H' ∧ B' Dn = none ∧ H' Dn = some (.dK kvs) ∧ RepP X.K B' acc kvs ∧ Slots X.K B' H' ad σ s ∧ acc.length ≤ i + 1 ∧ dcF gi ft fk fv (wipeS s vs) (ds.drop (i + 1)) acc = some tot,
            fun H' w => ⟨n, Nat.lt_succ_self n, w⟩, fun x H3 hy => ?_⟩
          obtain ⟨B3, x3, rx⟩ := w2 x H3 hy
          have er : (gi ds[i] (wipeS s vs)).bind (fun s1 => match ft s1 with
            | some (.ok true) => (match fk s1 with
              | some (.ok y) => (match fv s1 with
                | some (.ok z) => (keyOf y).bind fun k => dcF gi ft fk fv (wipeS s vs) (ds.drop (i + 1)) (putP acc k z)
                | _ => none)
              | _ => none)
            | some (.ok false) => dcF gi ft fk fv (wipeS s vs) (ds.drop (i + 1)) acc
            | _ => none) = some tot := er
          obtain ⟨sg, eg, er⟩ := Option.bind_eq_some_iff.mp er
          have s3 : Slots X.K B3 H3 ad σ s := s2.mono x3
          refine hgi.run _ (Good.of_slots (s3.wiped vs)) rx eg fun σ' g' w' => ⟨w'.trans (wipe_wipe vs), ?_⟩
          split at er
          · rename_i et1
            split at er
            · rename_i y ey
              split at er
              · rename_i z ez
                obtain ⟨k, ek, er⟩ := Option.bind_eq_some_iff.mp er
                refine ⟨B3, ad, sg, .ok true, g'.sl, et1, fun B4 H4 x4 => ?_⟩
                unfold RB
                dsimp only
                rw [if_pos rfl]
                refine ⟨B4, ad, sg, .ok y, g'.sl.mono x4, ey, fun B5 H5 x5 v rv => ?_⟩
                refine ⟨B5, ad, sg, .ok z, (g'.sl.mono x4).mono x5, ez, fun B6 H6 x6 u ru => ?_⟩
                have x36 := ((x3.trans x4).trans x5).trans x6
                have hb5 : B6 Dn = none := x36.alive hb hh
                have hh5 : H6 Dn = some (.dK kvs) := x36.h _ _ hh
                have hlk : kvs.length = acc.length := by
                  have := congrArg List.length ra.1
                  rw [List.length_map, List.length_map] at this
                  exact this
                refine ⟨kvs, k, key_rep ek rv, hh5, ?_, ?_⟩
                · rw [hlk]
                  exact Nat.lt_of_le_of_lt hl (Nat.lt_of_lt_of_le hi (Nat.le_trans hz (by decide)))
                · refine ⟨B6, putP acc k z, putK kvs k u, by omega, sb.trans x36.b, (ex.trans x36).mut hDo hb5, hb5, upd_same, (ra.mono x36.b).put ru, (s2.mono x36).upd hb5 hne, ?_, er⟩
                  have := putP_len acc k z
                  omega
              · cases er
            · cases er
          · rename_i et1
            refine ⟨B3, ad, sg, .ok false, g'.sl, et1, fun B4 H4 x4 => ?_⟩
            unfold RB
            dsimp only
            rw [if_neg Bool.false_ne_true]
            have x34 := x3.trans x4
            exact ⟨B4, acc, kvs, by omega, sb.trans x34.b, ex.trans x34, x34.alive hb hh, x34.h _ _ hh, ra.mono x34.b, s2.mono x34, by omega, er⟩
          · cases er
      · cases ht0
/-- a look at an own list, an own object, where the answer is no object -/
def scalD : D → Bool
  | .non => true
  | .bl _ => true
  | .int _ => true
  | .str _ => true
  | _ => false
def fPeek (i : Nat) (f : PS1 → Option (R D)) : PS1 → Option (R D) := fun s => match f (frz i s) with
  | some (.ok d) => if scalD d = true then some (.ok d) else none
  | some (.er x) => if x.fs.isNone = true then some (.er x) else none
  | none => none
theorem scal_rep {K : PySem.W.Frag} {B B' : Hp} {d : D} {v : V} (h : scalD d = true) (r : Rep K B d v) : Rep K B' d v := by
  cases d with
  | non => exact rep_non.mpr (rep_non.mp r)
  | bl b => exact rep_bl.mpr (rep_bl.mp r)
  | int b => exact rep_int.mpr (rep_int.mp r)
  | str b => exact rep_str.mpr (rep_str.mp r)
  | _ => cases h
theorem de_peek (i : Nat) (h : DE X W e fe) : DE X W e (fPeek i fe) := by
  refine PE.imp h fun σ H Q ⟨B, ad, s, r, hs, hf, hq⟩ => ?_
  obtain ⟨B', sb, g'⟩ := (Good.of_slots hs).frz (i := i)
  unfold fPeek at hf
  have keep : ∀ {B2 H2 : Hp}, Ext B' H B2 H2 → Ext B H B H2 := fun x => ⟨Same.refl _, x.h, hs.bh.trans x.h, fun _ q _ => q⟩
  cases e1 : fe (frz i s) with
  | none => rw [e1] at hf; cases hf
  | some rr =>
    rw [e1] at hf
    refine ⟨B', ad, _, rr, g'.sl, e1, ?_⟩
    cases rr with
    | ok d =>
      replace hf : (if scalD d = true then some (R.ok d) else none) = some r := hf
      split at hf
      · cases hf
        exact fun B2 H2 x v rv => hq B H2 (keep x) v (scal_rep (by assumption) rv)
      · cases hf
    | er x =>
      replace hf : (if x.fs.isNone = true then some (R.er x) else none) = some r := hf
      split at hf
      · rename_i hn
        cases hf
        refine fun cls dd B2 H2 x2 rx => hq cls dd B H2 (keep x2) ?_
        obtain ⟨C, fs⟩ := x
        cases fs with
        | none => exact rx
        | some _ => cases hn
      · cases hf
theorem dt_peek (i : Nat) {ft : PS1 → Option (R Bool)} (h : DT X W e ft) : DT X W e (fun s => match ft (frz i s) with
  | some (.ok b) => some (.ok b)
  | _ => none) := by
  refine PT.imp h fun σ H Q ⟨B, ad, s, r, hs, hf, hq⟩ => ?_
  obtain ⟨B', sb, g'⟩ := (Good.of_slots hs).frz (i := i)
  dsimp only at hf
  split at hf
  · rename_i b e1
    cases hf
    exact ⟨B', ad, _, .ok b, g'.sl, e1, fun B2 H2 x => hq B H2 ⟨Same.refl _, x.h, hs.bh.trans x.h, fun _ q _ => q⟩⟩
  · cases hf
end
end FL

namespace FL
open PySem PySem.Spec PyProof.Rows L2
section
variable {X : Cx} {W : WX} {e a b : Expr} {es : List Expr} {pos : Pos} {fe fa fb fc : PS1 → Option (R D)} {ft fu : PS1 → Option (R Bool)}
theorem pure_eqD {K : PySem.W.Frag} : Pure2 K (rEqD K) gEq := fun {B H x y z v u} Q bh e rv ru q => by
  obtain ⟨k, e1, rfl⟩ := Option.map_eq_some_iff.mp e
  obtain ⟨p, p', h1, h2, s1, s2, rfl⟩ := eqD_inv e1
  exact ⟨p, p', Dp.mono bh (rv.dp h1), Dp.mono bh (ru.dp h2), s1, s2, q B H (Ext.refl bh) _ (rep_bl.mpr rfl)⟩
theorem pure_neD {K : PySem.W.Frag} : Pure2 K (rNeD K) gNe := fun {B H x y z v u} Q bh e rv ru q => by
  obtain ⟨k, e1, rfl⟩ := Option.map_eq_some_iff.mp e
  obtain ⟨p, p', h1, h2, s1, s2, rfl⟩ := eqD_inv e1
  exact ⟨p, p', Dp.mono bh (rv.dp h1), Dp.mono bh (ru.dp h2), s1, s2, q B H (Ext.refl bh) _ (rep_bl.mpr rfl)⟩
theorem pure_inS {K : PySem.W.Frag} : Pure2 K (rIn K false) gIn := fun {B H x y z v u} Q bh e rv ru q => by
  obtain ⟨k, e1, rfl⟩ := Option.map_eq_some_iff.mp e
  obtain ⟨p, xs, rfl, h1, h2, h3, rfl⟩ := inD_rep bh e1 rv ru
  exact ⟨p, xs, rfl, h1, h2, h3, q B H (Ext.refl bh) _ (rep_bl.mpr rfl)⟩
theorem pure_notInS {K : PySem.W.Frag} : Pure2 K (rIn K true) gNotIn := fun {B H x y z v u} Q bh e rv ru q => by
  obtain ⟨k, e1, rfl⟩ := Option.map_eq_some_iff.mp e
  obtain ⟨p, xs, rfl, h1, h2, h3, rfl⟩ := inD_rep bh e1 rv ru
  exact ⟨p, xs, rfl, h1, h2, h3, q B H (Ext.refl bh) _ (rep_bl.mpr rfl)⟩
theorem pure_isN {K : PySem.W.Frag} : Pure2 K (fun x y H Q => y = .non ∧ Q (.bl (decide (x = .non))) H) gIsN := fun {B H x y z v u} Q bh e rv ru q => by
  unfold gIsN at e
  split at e
  · rename_i c
    have ey := isNon_eq c
    subst ey
    cases e
    exact ⟨rep_non.mp ru, q B H (Ext.refl bh) _ (rep_bl.mpr (by rw [isNon_v rv]))⟩
  · cases e
theorem pure_notN {K : PySem.W.Frag} : Pure2 K (fun x y H Q => y = .non ∧ Q (.bl (!decide (x = .non))) H) gNotN := fun {B H x y z v u} Q bh e rv ru q => by
  unfold gNotN at e
  split at e
  · rename_i c
    have ey := isNon_eq c
    subst ey
    cases e
    exact ⟨rep_non.mp ru, q B H (Ext.refl bh) _ (rep_bl.mpr (by rw [isNon_v rv]))⟩
  · cases e
/-- a + b: ints, tuples, texts -/
def gAdd : D → D → Option D
  | .int i, .int j => some (.int (i + j))
  | .tup xs, .tup ys => if xs.length + ys.length ≤ 100000 then some (.tup (xs ++ ys)) else none
  | .str x, .str y => if x.length + y.length ≤ 100000 then some (.str (x ++ y)) else none
  | _, _ => none
def rAddA (K : PySem.W.Frag) : R2 := fun x y H Q => (∃ i j, x = .int i ∧ y = .int j ∧ Q (.int (i + j)) H) ∨ (rCatA K x y H Q ∨ ∃ i j, x = .str i ∧ y = .str j ∧ i.length + j.length ≤ sizeLine ∧ Q (.str (i ++ j)) H)
theorem op_addA : OpR X (binaryOp .Add) (rAddA X.K) := op_add.or (op_catA.or op_add_str)
theorem pure_addA {K : PySem.W.Frag} : Pure2 K (rAddA K) gAdd := fun {B H x y z v u} Q bh e rv ru q => by
  unfold gAdd at e
  split at e
  · cases e
    exact .inl ⟨_, _, rep_int.mp rv, rep_int.mp ru, q B H (Ext.refl bh) _ (rep_int.mpr rfl)⟩
  · split at e
    · rename_i c
      cases e
      obtain ⟨p, vs, rfl, h1, r1⟩ := rep_tup.mp rv
      obtain ⟨p', vs', rfl, h2, r2⟩ := rep_tup.mp ru
      refine .inr (.inl ⟨p, p', vs, vs', rfl, rfl, seqT bh h1, seqT bh h2, by rw [r1.length, r2.length]; exact Nat.le_trans c (by decide), fun en => ?_, fun n1 en => ?_, fun n1 n2 l hl => ?_⟩)
      · refine q B H (Ext.refl bh) _ (rep_tup.mpr ⟨p', vs', rfl, h2, ?_⟩)
        have := r1.append r2
        rw [en] at this
        exact this
      · refine q B H (Ext.refl bh) _ (rep_tup.mpr ⟨p, vs, rfl, h1, ?_⟩)
        have := r1.append r2
        rw [en, List.append_nil] at this
        exact this
      · have E := Ext.laid (o := .tup (vs ++ vs')) bh hl
        exact q _ _ E _ (rep_tup.mpr ⟨l, _, rfl, SqT.of upd_same, (r1.append r2).mono E.b⟩)
    · cases e
  · split at e
    · rename_i c
      cases e
      exact .inr (.inr ⟨_, _, rep_str.mp rv, rep_str.mp ru, Nat.le_trans c (by decide), q B H (Ext.refl bh) _ (rep_str.mpr rfl)⟩)
    · cases e
  · cases e
theorem de_add (ha : DE X W a fa) (hb : DE X W b fb) : DE X W (.BinOp a .Add b pos) (fop gAdd fa fb) := de_op op_addA pure_addA ha hb
/-- a * b: ints, a tuple times a number -/
def gMul : D → D → Option D
  | .int i, .int j => if cMul i j = true then some (.int (i * j)) else none
  | .tup xs, .int k => if xs ≠ [] ∧ 2 ≤ k ∧ k ≤ 1000 ∧ xs.length ≤ 1000 then some (.tup (List.replicate k.toNat xs).flatten) else none
  | _, _ => none
theorem reps_rep {K : PySem.W.Frag} {B : Hp} {xs : List D} {vs : List V} (r : Reps K B xs vs) : ∀ n : Nat, Reps K B (List.replicate n xs).flatten (List.replicate n vs).flatten
  | 0 => reps_nil.mpr rfl
  | n + 1 => by
    rw [List.replicate_succ, List.replicate_succ, List.flatten_cons, List.flatten_cons]
    exact r.append (reps_rep r n)
theorem op_mulB : OpR X (binaryOp .Mult) (fun x y H Q => rI (fun i j => CMul i j ∨ CMulW i j) (fun i j => .int (i * j)) x y H Q ∨ rRepT X.K x y H Q) := op_mulA.or op_repT
theorem pure_mulB {K : PySem.W.Frag} : Pure2 K (fun x y H Q => rI (fun i j => CMul i j ∨ CMulW i j) (fun i j => .int (i * j)) x y H Q ∨ rRepT K x y H Q) gMul := fun {B H x y z v u} Q bh e rv ru q => by
  unfold gMul at e
  split at e
  · split at e
    · rename_i c
      cases e
      exact .inl ⟨_, _, rep_int.mp rv, rep_int.mp ru, mul_c c, q B H (Ext.refl bh) _ (rep_int.mpr rfl)⟩
    · cases e
  · split at e
    · rename_i xs k c
      cases e
      obtain ⟨c1, c2, c3, c4⟩ := c
      obtain ⟨p, vs, rfl, h1, r1⟩ := rep_tup.mp rv
      refine .inr ⟨p, k, vs, rfl, rep_int.mp ru, seqT bh h1, fun en => ?_, c2, c3, by rw [r1.length]; exact c4, fun l hl => ?_⟩
      · have := r1.length
        rw [en] at this
        exact c1 (List.eq_nil_of_length_eq_zero this.symm)
      · have E := Ext.laid (o := .tup (List.replicate k.toNat vs).flatten) bh hl
        exact q _ _ E _ (rep_tup.mpr ⟨l, _, rfl, SqT.of upd_same, (reps_rep r1 _).mono E.b⟩)
    · cases e
  · cases e
theorem de_mulB (ha : DE X W a fa) (hb : DE X W b fb) : DE X W (.BinOp a .Mult b pos) (fop gMul fa fb) := de_op op_mulB pure_mulB ha hb
theorem de_gI {x : Str} {i : Int} {t : Tok} (hg : Gl X x) (hm : X.mg x = some (.int i t)) (hdb : (x == ("__debug__" : Str)) = false := by decide) : DE X W (.Name x pos) (fC (.int i)) := de_glob (v := .int i) hg hm ⟨_, rfl⟩ rep_int hdb
theorem de_gB {x : Str} {i : Bool} (hg : Gl X x) (hm : X.mg x = some (.bool i)) (hdb : (x == ("__debug__" : Str)) = false := by decide) : DE X W (.Name x pos) (fC (.bl i)) := de_glob (v := .bl i) hg hm rfl rep_bl hdb
theorem de_gS {x i : Str} {t : Tok} (hg : Gl X x) (hm : X.mg x = some (.str i t)) (hdb : (x == ("__debug__" : Str)) = false := by decide) : DE X W (.Name x pos) (fC (.str i)) := de_glob (v := .str i) hg hm ⟨_, rfl⟩ rep_str hdb
/-- an expression's truth -/
theorem dt_tr (ha : DE X W a fa) (he : ∀ whole, isTrue a X.env whole = (do let v ← whole; standAt a.pos; holding [v] (truthy v)) := by intro _; rfl) : DT X W a (fTr fa) := dt_truth ha he
theorem dt_chainT {c : Expr} {op op' : CmpOp} {r r' : R2} {g g' : D → D → Option D} (ho : OpR X (compareOp op) r) (ho' : OpR X (compareOp op') r') (hp : Pure2 X.K r g) (hp' : Pure2 X.K r' g') (ha : DE X W a fa) (hb : DE X W b fb) (hc : DE X W c fc)
    (hm2 : lastMarks [op, op'] [b, c] = false := by with_unfolding_all rfl) : DT X W (.Compare a [op, op'] [b, c] pos) (fBl (fChain g g' fa fb fc)) := by
  refine PT.imp (pt_chain ho ho' ha hb hc hm2) fun σ H Q ⟨B, h⟩ => ?_
  refine chain_imp hp hp' ⟨B, (Run.bind h).imp fun x B1 H1 e1 h1 v rv => ?_⟩
  obtain ⟨b, hb, q⟩ := Run.lifted h1
  have ex := blOf_inv hb
  subst ex
  exact ⟨b, rep_bl.mp rv, q B1 H1 (Ext.refl h1.same)⟩
/-- a, b = e (a tuple) -/
def fSetT (is : List Nat) (fe : PS1 → Option (R D)) : PS1 → Option Fl := fEx fe fun d s => (giTup is d s).map .nx
theorem ds_setT {t : Expr} {is : List Nat} (hg : PG X t (gTup X.K is.length (gNames is))) (he : DE X W e fe) (hs : swapsWithSole [t] e pos.line X.env = pure false := by rfl) (hw : swappedStores [t] e X.env = pure none := by rfl)
    (h1 : (assignEach [t] X.env).map (·.2) = [assign t X.env] := by rfl) : DS X W (.Assign [t] e pos) (fSetT is fe) := by
  refine PS.imp (ps_asg he hg hs hw h1) fun D σ H h => ?_
  obtain ⟨B0, H0, B, ad, s, r, g, hf, hq⟩ := h
  refine ⟨B, (ex_run g hf hq).imp fun d B' H' _ ⟨x, e2⟩ v rv => ?_⟩
  obtain ⟨s', e3, rfl⟩ := Option.map_eq_some_iff.mp e2
  exact (tg_tup is).run _ (g.mono x) rv e3 fun σ' g' => hq _ _ _ _ x.b g'
/-- x[i] = e, x an own list -/
def setIxD (xs : List D) (i : Int) (d : D) : Option (List D) := (ixN xs.length i).map fun j => xs.set j d
def fSetIx (i : Nat) (fk fe : PS1 → Option (R D)) : PS1 → Option Fl := fun s => match s[i]? with
  | some (.own xs) => fEx fe (fun d s => fEx fk (fun k s => match k with
    | .int n => (setIxD xs n d).map fun ys => .nx (s.set i (.own ys))
    | _ => none) s) s
  | _ => none
theorem ds_setIx (i : Nat) {x : Str} {p tpos : Pos} {k : Expr} {fk : PS1 → Option (R D)} (hg : PG X (.Subscript (.Name x p) k tpos) (L2.gSub (tVar i) (tD X.K W fk) rSetL)) (he : DE X W e fe) (hs : swapsWithSole [.Subscript (.Name x p) k tpos] e pos.line X.env = pure false := by rfl) (hw : swappedStores [.Subscript (.Name x p) k tpos] e X.env = pure none := by rfl)
    (h1 : (assignEach [.Subscript (.Name x p) k tpos] X.env).map (·.2) = [assign (.Subscript (.Name x p) k tpos) X.env] := by rfl) : DS X W (.Assign [.Subscript (.Name x p) k tpos] e pos) (fSetIx i fk fe) := by
  refine PS.imp (ps_asg he hg hs hw h1) fun D σ H h => ?_
  obtain ⟨B0, H0, B, ad, s, r, g, hf, hq⟩ := h
  unfold fSetIx at hf
  split at hf
  · rename_i xs es
    refine ⟨B, (ex_run g hf hq).imp fun d B' H' _ ⟨x, e2⟩ v rv => ?_⟩
    have g1 := g.mono x
    obtain ⟨hv1, hb, hn, vs, hh, rs⟩ := g1.at_own es
    refine ⟨_, hv1, B', (ex_run g1 e2 (hq.mono x.b)).imp fun kd B2 H2 _ ⟨x2, e3⟩ u ru => ?_⟩
    cases kd with
    | int n =>
      obtain ⟨ys, ey, rfl⟩ := Option.map_eq_some_iff.mp e3
      obtain ⟨j, ej, rfl⟩ := Option.map_eq_some_iff.mp ey
      have g2 := g1.mono x2
      have hh2 := x2.h _ _ hh
      have hb2 := x2.alive hb hh
      have rs2 := rs.mono x2.b
      refine ⟨ad i, vs, n, j, rfl, rep_int.mp ru, hh2, by rw [rs2.length]; exact ej, ?_⟩
      exact hq _ _ _ _ (x.b.trans x2.b) (g2.mut es rfl (fun H3 h3 => ⟨hv1, hb2, _, h3, rs2.set j ((rv.mono x2.b))⟩) rfl hb2)
    | _ => cases e3
  · cases hf
end
/-! ### the law -/
def spLaw (K : PySem.W.Frag) : Sp := fun vs H Q _ => ∃ (a : Addr) (ns : List Int), vs = [.ref a] ∧ SqL K H a (ns.map V.int) ∧ ns.length ≤ 63 ∧ ∀ H', Q (.bl true) H'
theorem reps_ints {K : PySem.W.Frag} {B : Hp} : ∀ ns : List Int, Reps K B (ns.map D.int) (ns.map V.int)
  | [] => reps_nil.mpr rfl
  | n :: ns => Reps.cons (rep_int.mpr rfl) (reps_ints ns)
theorem law_of {P : Program} {w : World} {K : PySem.W.Frag} {mg : Str → Option Value} {base : Heap} {k : Nat} {f : Addr} {fd : FuncData} {x : Str} {g : List D → Option (R D)} (h : ∀ ns : List Int, ns.length ≤ 63 → g [.lst (ns.map D.int)] = some (.ok (.bl true)))
    (F : FnF P w K mg base k f fd [x] 1 g) : FnOk P w K mg base (L2.CX P w) k f fd [x] (spLaw K) := F.imp fun vs H Q E ⟨a, ns, ev, hs, hl, q⟩ => by
  subst ev
  refine ⟨rfl, H, [.lst (ns.map D.int)], .ok (.bl true), Same.refl _, Reps.one (rep_lst.mpr ⟨a, _, rfl, hs, reps_ints ns⟩), h ns hl, fun v B' H' _ r => ?_⟩
  rw [rep_bl.mp r]
  exact q H'
theorem cx_false {P : Program} {w : World} {outer : List Env} {H : Hp} {s : Shared} {e : Value} {s' : Shared} (h : L2.CX P w outer H s (fun _ _ _ => False) e s') : False := by
  obtain ⟨_, _, _, _, _, _, _, _, _, _, _, _, z⟩ := h
  exact z.elim
end FL

namespace FL
open PySem PySem.Spec PyProof.Rows L2
/-! ### how the functions are reckoned -/
def nums (l : List Int) : List D := l.map D.int
@[simp] theorem nums_length (l : List Int) : (nums l).length = l.length := List.length_map ..
theorem nums_append (l m : List Int) : nums (l ++ m) = nums l ++ nums m := List.map_append
theorem cMod_pos {i j : Int} (h : 0 < j) : cMod i j = true := decide_eq_true h
theorem log2_lt {j : Int} (h : 0 < j) (h2 : j < 2 ^ 62) : j.natAbs.log2 < 9000 := by
  have h3 : j.natAbs ≠ 0 := by omega
  have h4 : j.natAbs < 2 ^ 62 := by omega
  exact Nat.lt_trans ((Nat.log2_lt h3).mpr h4) (by decide)
theorem cDiv_pos {i j : Int} (h : 0 < j) (h2 : j < 2 ^ 62) : cDiv i j = true := by
  unfold cDiv
  rw [decide_eq_true h, decide_eq_true (log2_lt h h2)]
  rfl
theorem cMul_r {i j : Int} (h : -(2 ^ 62) < j) (h2 : j < 2 ^ 62) : cMul i j = true := by
  unfold cMul
  rw [decide_eq_true (show -(2 ^ 64) < j by omega), decide_eq_true (show j < 2 ^ 64 by omega)]
  simp
theorem cMul_l {i j : Int} (h : -(2 ^ 62) < i) (h2 : i < 2 ^ 62) : cMul i j = true := by
  unfold cMul
  rw [decide_eq_true (show -(2 ^ 64) < i by omega), decide_eq_true (show i < 2 ^ 64 by omega)]
  simp
section
variable {i j : Int}
theorem gMod_int (h : 0 < j) : gMod (.int i) (.int j) = some (.int (i % j)) := by simp [gMod, gI, cMod_pos h]
theorem gDiv_int (h : 0 < j) (h2 : j < 2 ^ 62) : gDiv (.int i) (.int j) = some (.int (i / j)) := by simp [gDiv, gI, cDiv_pos h h2]
theorem gMul_r (h : -(2 ^ 62) < j) (h2 : j < 2 ^ 62) : gMul (.int i) (.int j) = some (.int (i * j)) := by simp [gMul, cMul_r h h2]
theorem gMul_l (h : -(2 ^ 62) < i) (h2 : i < 2 ^ 62) : gMul (.int i) (.int j) = some (.int (i * j)) := by simp [gMul, cMul_l h h2]
@[simp] theorem gAdd_int : gAdd (.int i) (.int j) = some (.int (i + j)) := (rfl)
@[simp] theorem gSub_int : gSub (.int i) (.int j) = some (.int (i - j)) := (rfl)
@[simp] theorem gLt_int : gLt (.int i) (.int j) = some (.bl (decide (i < j))) := (rfl)
@[simp] theorem gLe_int : gLe (.int i) (.int j) = some (.bl (decide (i ≤ j))) := (rfl)
@[simp] theorem gGt_int : gGt (.int i) (.int j) = some (.bl (decide (j < i))) := (rfl)
@[simp] theorem gGe_int : gGe (.int i) (.int j) = some (.bl (decide (j ≤ i))) := (rfl)
@[simp] theorem gNeg_int : gNeg (.int i) = some (.int (-i)) := (rfl)
theorem gDivmod_int (h : 0 < j) (h2 : j < 1073741824) : gDivmod [.int i, .int j] = some (.tup [.int (i / j), .int (i % j)]) := by simp [gDivmod, h, h2]
theorem gPow_10 {n : Nat} (h : n ≤ 1000) : gPow (.int 10) (.int n) = some (.int (10 ^ n)) := by
  have : cPow 10 n = true := by
    unfold cPow
    rw [decide_eq_true (show (0 : Int) ≤ n by omega), decide_eq_true (show (n : Int) ≤ 1000000 by omega)]
    rfl
  simp [gPow, gI, this]
end
theorem eqD_int (i j : Int) : eqD (.int i) (.int j) = some (decide (i = j)) := by
  show some _ = _
  congr 1
theorem eqD_bl (i j : Bool) : eqD (.bl i) (.bl j) = some (decide (i = j)) := by
  cases i <;> cases j <;> rfl
@[simp] theorem gEq_int (i j : Int) : gEq (.int i) (.int j) = some (.bl (decide (i = j))) := by rw [gEq, eqD_int]; rfl
@[simp] theorem gNe_int (i j : Int) : gNe (.int i) (.int j) = some (.bl (!decide (i = j))) := by rw [gNe, eqD_int]; rfl
@[simp] theorem gNe_bl (i j : Bool) : gNe (.bl i) (.bl j) = some (.bl (!decide (i = j))) := by rw [gNe, eqD_bl]; rfl
theorem flat_ints (l : List Int) : (nums l).all flatD = true := by
  induction l with
  | nil => rfl
  | cons a r ih => exact ih
theorem any_ints (x : Int) (l : List Int) : (nums l).any (fun y => eqF y (.int x)) = decide (x ∈ l) := by
  induction l with
  | nil => rfl
  | cons a r ih =>
    show (eqF (.int a) (.int x) || (nums r).any _) = _
    rw [ih]
    show ((a == x) || decide (x ∈ r)) = _
    by_cases h : a = x
    · subst h
      simp
    · have h2 : ¬ x = a := fun e => h e.symm
      simp [h, h2, List.mem_cons]
theorem gIn_ints (x : Int) (l : List Int) : gIn (.int x) (.tup (nums l)) = some (.bl (decide (x ∈ l))) := by
  unfold gIn inD
  show Option.map D.bl (if (true && (nums l).all flatD) = true then _ else none) = _
  rw [flat_ints, any_ints]
  rfl
theorem atI_nat {α : Type} {xs : List α} {k : Nat} (h : k < xs.length) : atI xs (k : Int) = xs[k]? := by
  unfold atI ixN
  rw [if_pos (by omega), if_pos (by omega)]
  rfl
theorem ints_get (l : List Int) {k : Nat} (h : k < l.length) : (nums l)[k]? = some (.int (l.getD k 0)) := by
  unfold nums
  rw [List.getElem?_map, List.getD_eq_getElem?_getD, List.getElem?_eq_getElem h]
  rfl
theorem gIx_ints {l : List Int} {i : Int} (h : 0 ≤ i) (h2 : i < l.length) : gIx (.tup (nums l)) (.int i) = some (.int (l.getD i.toNat 0)) := by
  show atI (nums l) i = _
  have e : i = ((i.toNat : Nat) : Int) := by omega
  rw [e, atI_nat (by rw [nums_length]; omega), ints_get l (by omega)]
  rfl
theorem gIx_lints {l : List Int} {i : Int} (h : 0 ≤ i) (h2 : i < l.length) : gIx (.lst (nums l)) (.int i) = some (.int (l.getD i.toNat 0)) := gIx_ints h h2
theorem gIx_fn {f : Nat → D} {n : Nat} {i : Int} (h : 0 ≤ i) (h2 : i < n) : gIx (.tup ((List.range n).map f)) (.int i) = some (f i.toNat) := by
  show atI _ i = _
  have e : i = ((i.toNat : Nat) : Int) := by omega
  rw [e, atI_nat (by rw [List.length_map, List.length_range]; omega)]
  rw [List.getElem?_map, List.getElem?_range (by omega)]
  rfl
theorem gIx_lastL {f : Nat → D} {n : Nat} : gIx (.lst ((List.range (n + 1)).map f)) (.int (-1)) = some (f n) := by
  show atI _ (-1) = _
  unfold atI ixN
  rw [if_neg (by omega), if_pos (by rw [List.length_map, List.length_range]; omega)]
  show ((List.range (n + 1)).map f)[_]? = _
  have : (-1 + (((List.range (n + 1)).map f).length : Int)).toNat = n := by rw [List.length_map, List.length_range]; omega
  rw [this, List.getElem?_map, List.getElem?_range (by omega)]
  rfl
theorem gIx_lastT {f : Nat → D} {n : Nat} : gIx (.tup ((List.range (n + 1)).map f)) (.int (-1)) = some (f n) := gIx_lastL (f := f)
theorem intsOf_ints (l : List Int) : intsOf (nums l) = some l := by
  induction l with
  | nil => rfl
  | cons a r ih => show (intsOf (nums r)).map _ = _; rw [ih]; rfl
@[simp] theorem gSum_ints (l : List Int) : gSum [.lst (nums l)] = some (.int l.sum) := by
  show (intsOf (nums l)).map _ = _
  rw [intsOf_ints]
  rfl
theorem blsOf_bls (l : List Bool) : blsOf (l.map D.bl) = some l := by
  induction l with
  | nil => rfl
  | cons a r ih => show (blsOf (r.map D.bl)).map _ = _; rw [ih]; rfl
theorem gAll_bls (l : List Bool) : gAll [.lst (l.map D.bl)] = some (.bl (l.all id)) := by
  show (blsOf _).map _ = _
  rw [blsOf_bls]
  rfl
/-- a comprehension, element by element -/
theorem lcF_list {α : Type} {gi : D → PS1 → Option PS1} {ft : PS1 → Option (R Bool)} {fe : PS1 → Option (R D)} {sw : PS1} (g : α → D) (S : α → PS1) (p : α → Bool) (f : α → D) : ∀ l : List α, (∀ a ∈ l, gi (g a) sw = some (S a) ∧ ft (S a) = some (.ok (p a)) ∧ (p a = true → fe (S a) = some (.ok (f a)))) → lcF gi ft fe sw (l.map g) = some ((l.filter p).map f)
  | [], _ => rfl
  | a :: l, h => by
    obtain ⟨h1, h2, h3⟩ := h a (List.mem_cons_self ..)
    have ih := lcF_list g S p f l fun b hb => h b (List.mem_cons_of_mem _ hb)
    have e : lcF gi ft fe sw ((a :: l).map g) = (gi (g a) sw).bind fun s1 => match ft s1 with
      | some (.ok true) => (match fe s1 with
        | some (.ok y) => (lcF gi ft fe sw (l.map g)).map fun ys => y :: ys
        | _ => none)
      | some (.ok false) => lcF gi ft fe sw (l.map g)
      | _ => none := rfl
    rw [e, h1, Option.bind_some, h2]
    cases hp : p a with
    | true =>
      simp only [h3 hp, ih]
      rw [List.filter_cons_of_pos hp]
      rfl
    | false =>
      simp only [ih]
      rw [List.filter_cons_of_neg (by rw [hp]; exact Bool.false_ne_true)]
theorem filter_all {α : Type} (l : List α) : l.filter (fun _ => true) = l := List.filter_eq_self.mpr fun _ _ => rfl
theorem lcF_all {α : Type} {gi : D → PS1 → Option PS1} {fe : PS1 → Option (R D)} {sw : PS1} (g : α → D) (S : α → PS1) (f : α → D) (l : List α) (h : ∀ a ∈ l, gi (g a) sw = some (S a) ∧ fe (S a) = some (.ok (f a))) : lcF gi fYes fe sw (l.map g) = some (l.map f) := by
  rw [lcF_list g S (fun _ => true) f l fun a ha => ⟨(h a ha).1, rfl, fun _ => (h a ha).2⟩, filter_all]
theorem rangeD_eq (lo : Int) (n : Nat) : rangeD lo n = (List.range n).map fun k => .int (lo + (k : Nat)) := rfl
theorem gRng1 {n : Nat} (h : n ≤ 100000) : gRng [.int n] = some ((List.range n).map fun k => .int (k : Nat)) := by
  have : inB (n : Int) = true := by
    unfold inB
    rw [decide_eq_true (by omega), decide_eq_true (by omega)]
    rfl
  simp [gRng, this, rangeD_eq]
theorem gRng2 {n : Nat} (h : n ≤ 100000) : gRng [.int 1, .int (n + 1)] = some ((List.range n).map fun k => .int (1 + (k : Nat))) := by
  have : inB ((n : Int) + 1) = true := by
    unfold inB
    rw [decide_eq_true (by omega), decide_eq_true (by omega)]
    rfl
  have h1 : inB 1 = true := by decide
  simp only [gRng, this, h1, rangeD_eq, Bool.and_self, if_true, show ((n : Int) + 1 - 1).toNat = n by omega]
/-! sums -/
def sumTo (g : Nat → Int) : Nat → Int
  | 0 => 0
  | n + 1 => sumTo g n + g n
theorem sum_range (g : Nat → Int) (n : Nat) : ((List.range n).map g).sum = sumTo g n := by
  induction n with
  | zero => rfl
  | succ n ih => rw [List.range_succ, List.map_append, List.sum_append, ih]; simp [sumTo]
theorem sumTo_add (g : Nat → Int) (m n : Nat) : sumTo g (m + n) = sumTo g m + sumTo (fun j => g (m + j)) n := by
  induction n with
  | zero => simp [sumTo]
  | succ n ih => rw [← Nat.add_assoc]; simp only [sumTo]; rw [ih]; omega
theorem sumTo_congr {g h : Nat → Int} {n : Nat} (e : ∀ j, j < n → g j = h j) : sumTo g n = sumTo h n := by
  induction n with
  | zero => rfl
  | succ n ih => simp only [sumTo]; rw [ih fun j hj => e j (by omega), e n (by omega)]
theorem sumTo_mul (g : Nat → Int) (n : Nat) : ∀ m, sumTo g (m * n) = sumTo (fun r => sumTo (fun j => g (r * n + j)) n) m
  | 0 => by simp [sumTo]
  | m + 1 => by rw [Nat.succ_mul, sumTo_add, sumTo_mul g n m]; simp only [sumTo]

/-! one step -/
section
variable {α : Type} (s : PS1) (i n : Nat) (f g : PS1 → Option Fl) (fa fb fc : PS1 → Option (R D)) (ft fu : PS1 → Option (R Bool)) (fr : PS1 → Option (R (List D))) (g1 : D → Option D) (g2 g3 : D → D → Option D) (gl : List D → Option D) (gn : List D → Option (List D)) (go : List D → Option (R D)) (fp fq : PS1 → Option (R α))
theorem r_seq : fSeq f g s = match f s with
  | some (.nx s') => g s'
  | r => r := (rfl)
theorem r_ex (k : α → PS1 → Option Fl) : fEx fp k s = match fp s with
  | some (.ok d) => k d s
  | some (.er x) => some (.er x s)
  | none => none := (rfl)
theorem r_set : fSet i fa s = match fa s with
  | some (.ok d) => some (.nx (s.set i (.d d)))
  | some (.er x) => some (.er x s)
  | none => none := by
  show fEx fa _ s = _
  unfold fEx
  cases fa s with
  | none => rfl
  | some r => cases r <;> rfl
theorem r_setN : fSetN i fr s = match fr s with
  | some (.ok d) => some (.nx (s.set i (.own d)))
  | some (.er x) => some (.er x s)
  | none => none := by
  show fEx fr _ s = _
  unfold fEx
  cases fr s with
  | none => rfl
  | some r => cases r <;> rfl
theorem r_drop : fDrop fa s = match fa s with
  | some (.ok _) => some (.nx s)
  | some (.er x) => some (.er x s)
  | none => none := by
  show fEx fa _ s = _
  unfold fEx
  cases fa s with
  | none => rfl
  | some r => cases r <;> rfl
theorem r_ret : fRet fa s = match fa s with
  | some (.ok d) => some (.rt d)
  | some (.er x) => some (.er x s)
  | none => none := by
  show fEx fa _ s = _
  unfold fEx
  cases fa s with
  | none => rfl
  | some r => cases r <;> rfl
theorem r_if : fIfS ft f g s = match ft s with
  | some (.ok true) => f s
  | some (.ok false) => g s
  | some (.er x) => some (.er x s)
  | none => none := by
  show fEx ft _ s = _
  unfold fEx
  cases ft s with
  | none => rfl
  | some r => cases r with
    | er x => rfl
    | ok b => cases b <;> rfl
theorem r_frz : fFrz i f s = f (frz i s) := (rfl)
theorem r_next : fNext s = some (.nx s) := (rfl)
theorem r_for (gi : D → PS1 → Option PS1) : fFor fr gi f s = match fr s with
  | some (.ok ds) => loopF gi f ds s
  | some (.er x) => some (.er x s)
  | none => none := by
  show fEx fr _ s = _
  unfold fEx
  cases fr s with
  | none => rfl
  | some r => cases r <;> rfl
theorem r_op : fop g2 fa fb s = bnd (fa s) fun x => bnd (fb s) fun y => lft (g2 x y) := (rfl)
theorem r_fun1 : fun1 g1 fa s = bnd (fa s) fun x => lft (g1 x) := (rfl)
theorem r_call : fcall gl fr s = bnd (fr s) fun xs => lft (gl xs) := (rfl)
theorem r_callN : fcallN gn fr s = bnd (fr s) fun xs => lft (gn xs) := (rfl)
theorem r_cons : fCons fa fr s = bnd (fa s) fun x => bnd (fr s) fun xs => some (.ok (x :: xs)) := (rfl)
theorem r_nil : fNil s = some (.ok []) := (rfl)
theorem r_var : fVar i s = lft (match s[i]? with
  | some (.d x) => some x
  | _ => none) := (rfl)
theorem r_c (d : D) : fC d s = some (.ok d) := (rfl)
theorem r_bl : fBl fa s = bnd (fa s) fun x => lft (blOf x) := (rfl)
theorem r_tr : fTr fa s = bnd (fa s) fun x => lft (truD x) := (rfl)
theorem r_not : fNot ft s = bnd (ft s) fun b => some (.ok (!b)) := (rfl)
theorem r_andB : fAndB ft fu s = bnd (ft s) fun b => match b with
  | true => fu s
  | false => some (.ok false) := (rfl)
theorem r_orB : fOrB ft fu s = bnd (ft s) fun b => match b with
  | true => some (.ok true)
  | false => fu s := (rfl)
theorem r_andV : fAndV fa fb s = bnd (fa s) fun x => match x with
  | .bl true => fb s
  | .bl false => some (.ok (.bl false))
  | _ => none := (rfl)
theorem r_notV : fNotV fa s = bnd (fa s) fun x => match x with
  | .bl k => some (.ok (.bl (!k)))
  | _ => none := (rfl)
theorem r_ifE : fIf ft fp fq s = bnd (ft s) fun b => match b with
  | true => fp s
  | false => fq s := (rfl)
theorem r_chain : fChain g2 g3 fa fb fc s = bnd (fa s) fun x => bnd (fb s) fun y => bnd (lft (g2 x y)) fun k =>
  match k with
  | .bl true => bnd (fc s) fun z => lft (g3 y z)
  | .bl false => some (.ok (.bl false))
  | _ => none := (rfl)
theorem r_lst : fLst fr s = bnd (fr s) fun xs => some (.ok (.lst xs)) := (rfl)
theorem r_tup : fTup fr s = bnd (fr s) fun xs => bnd (lft (szOk xs)) fun xs => some (.ok (.tup xs)) := (rfl)
theorem r_sz : fSz fr s = bnd (fr s) fun xs => lft (szOk xs) := (rfl)
theorem r_own : fOwn n go fr s = bnd (fr s) fun ds => if ds.length = n then go ds else none := (rfl)
theorem r_seqOf : fSeqOf fa s = bnd (fa s) fun x => lft (seqOf x) := (rfl)
theorem r_lc (vs : List Nat) (gi : D → PS1 → Option PS1) : fLc fr vs gi ft fa s = bnd (fr s) fun ds => lft (if ds.length ≤ 100000 then lcF gi ft fa (wipeS s vs) ds else none) := (rfl)
theorem r_app : fApp i fa s = match s[i]? with
  | some (.own xs) => (match fa s with
    | some (.ok d) => if xs.length < 100000 then some (.nx (s.set i (.own (xs ++ [d])))) else none
    | some (.er x) => some (.er x s)
    | none => none)
  | _ => none := by
  unfold fApp fEx
  cases s[i]? with
  | none => rfl
  | some x => cases x with
    | own xs => cases fa s with
      | none => rfl
      | some r => cases r <;> rfl
    | _ => rfl
theorem r_fld (C : Addr) (x : Str) : fFld C x fa s = bnd (fa s) fun d => match d with
  | .obj C' ns xs => if C' = C then lft (lookN x ns xs) else none
  | _ => none := (rfl)
theorem r_meth (C : Addr) (m : Str) : fMeth C m n go fa fr s = bnd (fa s) fun x => match x with
  | .obj C' ns xs => if C' = C ∧ (ns.any fun y => m == y) = false then bnd (fr s) fun ds => if ds.length + 1 = n then go (.obj C' ns xs :: ds) else none else none
  | _ => none := (rfl)
theorem r_peek : fPeek i fa s = match fa (frz i s) with
  | some (.ok d) => if scalD d = true then some (.ok d) else none
  | some (.er x) => if x.fs.isNone = true then some (.er x) else none
  | none => none := (rfl)
theorem r_enum : fEnumK fa s = bnd (fa s) fun x => match x with
  | .tup xs => some (.ok (enumD 1 xs))
  | _ => none := (rfl)
theorem r_def (m : Nat) (ds : List D) : fDef m f ds = match f (ds.map .d ++ List.replicate m .no) with
  | some (.rt d) => some (.ok d)
  | some (.nx _) => some (.ok .non)
  | some (.er x _) => some (.er x)
  | _ => none := (rfl)
theorem r_frzS : frz i s = match s[i]? with
  | some (.own xs) => s.set i (.d (.lst xs))
  | some (.obj _ C ns xs) => s.set i (.d (.obj C ns xs))
  | _ => s := (rfl)
end
theorem bndo {α β : Type} (a : α) (k : α → Option (R β)) : bnd (some (.ok a)) k = k a := (rfl)
theorem bnde {α β : Type} (e : Er) (k : α → Option (R β)) : bnd (some (.er e)) k = some (.er e) := (rfl)
theorem lfts {α : Type} (a : α) : lft (some a) = some (.ok a) := (rfl)
theorem getz {α : Type} (a : α) (l : List α) : (a :: l)[0]? = some a := (rfl)
theorem getS {α : Type} (a : α) (l : List α) (i : Nat) : (a :: l)[i + 1]? = l[i]? := (rfl)
theorem setz {α : Type} (a b : α) (l : List α) : (a :: l).set 0 b = b :: l := (rfl)
theorem setS {α : Type} (a b : α) (l : List α) (i : Nat) : (a :: l).set (i + 1) b = a :: l.set i b := (rfl)
theorem st {f g : PS1 → Option Fl} {s s' : PS1} {r : Option Fl} (h : f s = some (.nx s')) (k : g s' = r) : fSeq f g s = r := by
  unfold fSeq
  rw [h]
  exact k
theorem def_rt {m : Nat} {f : PS1 → Option Fl} {ds : List D} {d : D} (h : f (ds.map .d ++ List.replicate m .no) = some (.rt d)) : fDef m f ds = some (.ok d) := by
  unfold fDef
  rw [h]
theorem sz_ok {xs : List D} (h : xs.length ≤ 100000) : szOk xs = some xs := by unfold szOk; rw [if_pos h]
end FL

namespace FL
open PySem PySem.Spec PyProof.Rows L2
/-- a walk of numbers that do not fit a machine word -/
theorem far_turn {P : Program} {w : World} {K : PySem.W.Frag} {tg : Expr} (I : Addr) (from_ : Int) (m : Nat) : Turn P w K tg (Itr from_ m) [I] I (fun i h => IsLongIter h I (from_ + (i : Nat) * 1) ((m : Int) - (i : Nat)) 1) where
  mem := List.mem_singleton.mpr rfl
  obj := fun i h at_ b hb => by
    cases List.mem_singleton.mp hb
    exact ⟨_, at_, fun v z => nomatch (show Data.fields _ = Data.cell v from z)⟩
  keep := fun i h h' at_ kept => kept I (List.mem_singleton.mpr rfl) _ at_
  item := by
    intro Y eP ew eK ec i pn s τ G E J fz at_ go
    subst eP ew eK
    obtain ⟨z0, z1, z2, z3, z4, z5⟩ := fz I (List.mem_singleton.mpr rfl)
    refine (Walks.longrange (prog := Y.prog) (w := Y.w) (J.ok.hd ec) I from_ 1 m).item i s _ _ go at_ fun v g tk vv at2 same => ?_
    obtain ⟨tt, rfl⟩ := vv
    have J2 : Inv Y pn τ G { s with heap := g, toks := tk } := J.turned (fun b o nb e => same b o (fun q => nb (List.mem_singleton.mp q)) e) z0 z1 z3 z4 z5
    refine ⟨_, rfl, go_of (s := { s with heap := g, toks := tk }) (n := "longrange_iterator") at2 rfl rfl (by decide) ⟨.int (from_ + i), G, J2, ⟨tt, by rw [Int.mul_one]⟩, ⟨rfl, rfl⟩, at2, fun b hb => (fz b hb).1⟩⟩
  done := by
    intro Y eP ew eK ec i pn s τ G E J fz at_ stop
    subst eP ew eK
    obtain ⟨z0, z1, z2, z3, z4, z5⟩ := fz I (List.mem_singleton.mpr rfl)
    have over : m ≤ i := stop
    exact wpAny_pyNext_long_end (J.ok.hd ec) at_ (by omega) fun g eb => ⟨rfl, J.turned (t' := s.toks) (fun b o nb e => eb b o nb e) z0 z1 z3 z4 z5⟩
  self := fun _ _ _ _ _ at_ h => wpAny_pyIter_longiter at_ h
theorem far_it {Y : Cx} {tg : Expr} {pn : List (Addr × Obj)} {τ : L2.St} {G : Hp} {s : Shared} {R : It → Hp → Prop} {E : Value → Shared → Prop} {lo hi : Int} {t u v : Tok} {tk : Nat} (J : Inv Y pn τ G s) (big : Builtin.Range.small lo hi 1 = false)
    (q : R (Itr lo (hi - lo).toNat) G) : wpAny (model Y.prog Y.w) Y.A (pyIter (.ref s.heap.objs.size)) (PIE Y pn τ tg R) E { s with heap := s.heap.push { cls := .type "range", data := .fields #[.int lo t, .int hi u, .int 1 v] }, toks := tk } := by
  refine wpAny_pyIter_longrange (IsRange.new ..) big ?_
  have J2 : Inv Y pn τ G { s with heap := s.heap.push { cls := .type "range", data := .fields #[.int lo t, .int hi u, .int 1 v] }, toks := tk } := J.kept fun b o e => Heap.get?_push_of_some _ e
  refine ⟨(s.heap.push { cls := .type "range", data := .fields #[.int lo t, .int hi u, .int 1 v] }).objs.size, [(s.heap.push { cls := .type "range", data := .fields #[.int lo t, .int hi u, .int 1 v] }).objs.size], _, _, G, rfl,
    J2.kept (t' := tk) fun b o e => Heap.get?_push_of_some _ e, far_turn _ lo (hi - lo).toNat, ?_, fun b hb => ?_, q⟩
  · have x1 : lo + ((0 : Nat) : Int) * 1 = lo := by rw [Int.natCast_zero, Int.zero_mul, Int.add_zero]
    have x2 : (((hi - lo).toNat : Nat) : Int) - ((0 : Nat) : Int) = Builtin.Range.rangeSize lo hi 1 := by
      rw [rangeSize_one]
      split <;> omega
    show IsLongIter _ _ (lo + ((0 : Nat) : Int) * 1) ((((hi - lo).toNat : Nat) : Int) - ((0 : Nat) : Int)) 1
    rw [x1, x2]
    exact Heap.get?_push_size _ rfl
  · cases List.mem_singleton.mp hb
    exact J2.fpOk (Nat.le_refl _) (J2.hok.fresh (Nat.le_refl _))
theorem near_it {Y : Cx} {tg : Expr} {pn : List (Addr × Obj)} {τ : L2.St} {G : Hp} {s : Shared} {R : It → Hp → Prop} {E : Value → Shared → Prop} {lo hi : Int} {t u v : Tok} {tk : Nat} (J : Inv Y pn τ G s) (small : Builtin.Range.small lo hi 1 = true)
    (q : R (Itr lo (hi - lo).toNat) G) : wpAny (model Y.prog Y.w) Y.A (pyIter (.ref s.heap.objs.size)) (PIE Y pn τ tg R) E { s with heap := s.heap.push { cls := .type "range", data := .fields #[.int lo t, .int hi u, .int 1 v] }, toks := tk } := by
  refine wpAny_pyIter_range (IsRange.new ..) small ?_
  have J2 : Inv Y pn τ G { s with heap := s.heap.push { cls := .type "range", data := .fields #[.int lo t, .int hi u, .int 1 v] }, toks := tk } := J.kept fun b o e => Heap.get?_push_of_some _ e
  refine ⟨(s.heap.push { cls := .type "range", data := .fields #[.int lo t, .int hi u, .int 1 v] }).objs.size, [(s.heap.push { cls := .type "range", data := .fields #[.int lo t, .int hi u, .int 1 v] }).objs.size], _, _, G, rfl,
    J2.kept (t' := tk) fun b o e => Heap.get?_push_of_some _ e, turn_range _ lo (hi - lo).toNat, ?_, fun b hb => ?_, q⟩
  · have x1 : lo + ((0 : Nat) : Int) * 1 = lo := by rw [Int.natCast_zero, Int.zero_mul, Int.add_zero]
    have x2 : (((hi - lo).toNat : Nat) : Int) - ((0 : Nat) : Int) = Builtin.Range.rangeSize lo hi 1 := by
      rw [rangeSize_one]
      split <;> omega
    show IsRangeIter _ _ (lo + ((0 : Nat) : Int) * 1) ((((hi - lo).toNat : Nat) : Int) - ((0 : Nat) : Int)) 1
    rw [x1, x2]
    exact Heap.get?_push_size _ rfl
  · cases List.mem_singleton.mp hb
    exact J2.fpOk (Nat.le_refl _) (J2.hok.fresh (Nat.le_refl _))
section
variable {X : Cx} {W : WX} {a b : Expr} {pos : Pos} {fr : PS1 → Option (R (List D))}
def iFar (ta : TA) : TI := fun σ H R => ta σ H fun vs H1 => ∃ i j : Int, vs = [.int i, .int j] ∧ R (Itr i (j - i).toNat) H1
theorem pi_far {tg : Expr} {ta : TA} {p : Pos} (hg : Gl X "range") (hm : X.mg "range" = none) (ha : PA X [a, b] ta) (hs : starEach [a, b] X.env = [(false, eval a X.env), (false, eval b X.env)]) (hs2 : starEach [b] X.env = [(false, eval b X.env)]) :
    PI X tg (.Call (.Name "range" p) [a, b] [] pos) (iFar ta) := by
  refine ⟨fun pn s τ G R J h => ?_⟩
  refine Call_ (ld_blt J hg hm boot_range (PyProof.Rows.callWith_type1 (thn (ha.run pos pn s τ G _ J h) fun us s1 ⟨vs, G1, J1, rs, got⟩ => ?_) (by rw [hs, hs2]) (by rw [hs2]; rfl)))
  obtain ⟨i, j, rfl, q⟩ := got
  cases rs with
  | cons r1 rs =>
    cases rs with
    | cons r2 rs =>
      cases rs
      obtain ⟨t1, rfl⟩ := r1
      obtain ⟨t2, rfl⟩ := r2
      cases sz : Builtin.Range.small i j 1 with
      | true => exact call_range_2 (near_it J1 sz q)
      | false => exact call_range_2 (far_it J1 sz q)
def gRngW : List D → Option (List D)
  | [.int i, .int j] => some (rangeD i (j - i).toNat)
  | _ => none
theorem di_range2W {tg : Expr} {p : Pos} (hg : Gl X "range") (hm : X.mg "range" = none) (ha : DA X W [a, b] fr) (hs : starEach [a, b] X.env = [(false, eval a X.env), (false, eval b X.env)] := by rfl) (hs2 : starEach [b] X.env = [(false, eval b X.env)] := by rfl) : DI X W tg (.Call (.Name "range" p) [a, b] [] pos) (fcallN gRngW fr) := by
  refine PI.imp (pi_far hg hm ha hs hs2) fun σ H R h => ?_
  obtain ⟨B, ad, s, r, hsl, hf, hq⟩ := h
  have hf : bnd (fr s) (fun xs => lft (gRngW xs)) = some r := hf
  refine ⟨B, ?_⟩
  cases ed : fr s with
  | none => rw [ed] at hf; cases hf
  | some rd =>
    rw [ed] at hf
    refine ⟨ad, s, rd, hsl, ed, ?_⟩
    cases rd with
    | er x => cases hf; exact hq
    | ok xs =>
      obtain ⟨ds, e1, rfl⟩ := lft_eq (show lft (gRngW xs) = some r from hf)
      refine fun B' H' x vs rs => ?_
      unfold gRngW at e1
      split at e1
      · cases e1
        obtain ⟨v, u, rfl, rv, ru⟩ := reps_2 rs
        exact ⟨_, _, by rw [rep_int.mp rv, rep_int.mp ru], hq B' H' x _ walk_range⟩
      · cases e1
end
end FL

namespace FL
open PySem PySem.Spec PyProof.Rows L2
section
variable {X : Cx} {W : WX}
/-- try .. except C: what m knows of the classes that come -/
def fTry (m : Addr → Option Bool) (fb fs : PS1 → Option Fl) : PS1 → Option Fl := fun s => match fb s with
  | some (.er x s') => (match m x.C with
    | some true => fs s'
    | some false => some (.er x s')
    | none => none)
  | r => r
theorem ds_try {x : Str} {C : Addr} {body suite : List Stmt} {b0 : Stmt} {np pos pos' : Pos} {fb fs : PS1 → Option Fl} (m : Addr → Option Bool) (hs : X.stack = X.env :: X.outer) (hf : X.env.frame = some X.env.locals) (hc : Names X x (.ref C)) (tk : Takes X W)
    (hm : ∀ A b, m A = some b → PySem.W.exmOne X.K (.ref A) (.ref C) = some b)
    (hb : ∀ (V : WX) (pn : List (Addr × Obj)) (xe : Value → Shared → Prop), Takes (X.tr pn xe) V → PassesOwn (model X.prog X.w) X.A X.env xe → DSs (X.tr pn xe) V body fb)
    (hsu : ∀ (a : Addr) (oe : Obj) (pn : List (Addr × Obj)), DSs (X.suite a ((a, oe) :: pn)) W (b0 :: suite) fs) :
    DS X W (.Try body [.ExceptHandler (some (.Name x np)) none (b0 :: suite) pos'] [] [] pos) (fTry m fb fs) := by
  refine PS.imp (ps_try_only (tb := fun V => tF X.K V fb) (ts := fun _ _ _ => tF X.K W fs) hs hf hc tk hb (fun a oe cls d pn _ _ => hsu a oe pn)) fun D σ H h => ?_
  obtain ⟨B0, H0, B, ad, s, r, g, hf, hq⟩ := h
  have hf : (match fb s with
    | some (.er x s') => (match m x.C with
      | some true => fs s'
      | some false => some (.er x s')
      | none => none)
    | r => r) = some r := hf
  cases eb : fb s with
  | none => rw [eb] at hf; cases hf
  | some rb =>
    rw [eb] at hf
    refine ⟨B0, H0, B, ad, s, rb, g, eb, ?_⟩
    cases rb with
    | nx s' => cases hf; exact hq
    | bk s' => cases hf; exact hq
    | ct s' => cases hf; exact hq
    | rt d => cases hf; exact hq
    | er y s' =>
      intro cls dd σ2 H2 B2 ad2 sb g2 rx
      obtain ⟨rfl, rd⟩ := rx
      cases em : m y.C with
      | none => simp only [em] at hf; cases hf
      | some b =>
        refine ⟨b, hm _ _ em, fun eb a _ => ?_, fun eb => ?_⟩
        · subst eb
          simp only [em] at hf
          exact ⟨B0, H0, B2, ad2, s', r, g2, hf, hq.mono sb⟩
        · subst eb
          simp only [em] at hf
          cases hf
          exact hq _ _ _ _ _ _ sb g2 ⟨rfl, rd⟩
end
theorem exm_self {K : PySem.W.Frag} {C : Addr} (h1 : PySem.W.subIn K (.ref C) (.type "BaseException") = some true) (hi : PySem.W.isClsIn K C = true) (ht : PySem.W.typeIn K (.ref C) = some (.type "type")) (h4 : PySem.W.subIn K (.ref C) (.ref C) = some true) : PySem.W.exmOne K (.ref C) (.ref C) = some true := by
  have e1 : (PySem.W.subIn K (.ref C) (.type "BaseException") == some true) = true := by rw [h1]; rfl
  have e2 : ((PySem.W.clsIn K C).isSome && PySem.W.typeIn K (.ref C) == some (.type "type")) = true := by
    rw [show (PySem.W.clsIn K C).isSome = true from hi, ht]
    rfl
  show (if (PySem.W.subIn K (.ref C) (.type "BaseException") == some true) = true then (if ((PySem.W.clsIn K C).isSome && PySem.W.typeIn K (.ref C) == some (.type "type")) = true then PySem.W.subIn K (.ref C) (.ref C) else none) else none) = some true
  rw [if_pos e1, if_pos e2]
  exact h4
def mSelf (C A : Addr) : Option Bool := if A = C then some true else none
theorem mSelf_ok {K : PySem.W.Frag} {C : Addr} (h : PySem.W.exmOne K (.ref C) (.ref C) = some true) (A : Addr) (b : Bool) (e : mSelf C A = some b) : PySem.W.exmOne K (.ref A) (.ref C) = some b := by
  unfold mSelf at e
  split at e
  · rename_i q
    cases e
    rw [q]
    exact h
  · cases e
end FL

/-! more of the layer: tuples that stand at the module's level -/
namespace FL
open PySem PySem.Spec PyProof.Rows L2
section
variable {X : Cx} {W : WX} {pos : Pos}
/-- a name of the module whose value is plain data, whatever the heap -/
def GCon (K : PySem.W.Frag) (mg : Str → Option Value) (x : Str) (d : D) : Prop := ∃ (v : V) (u : Value), mg x = some u ∧ RelV v u ∧ ∀ B, Rep K B d v
theorem de_gC {x : Str} {d : D} (hg : Gl X x) (hm : GCon X.K X.mg x d) (hdb : (x == ("__debug__" : Str)) = false := by decide) : DE X W (.Name x pos) (fC d) := by
  obtain ⟨v, u, h1, h2, h3⟩ := hm
  refine PE.imp (pe_glob hg h1 h2 hdb) fun σ H Q ⟨B, ad, s, r, g, hf, hq⟩ => ?_
  cases hf
  exact hq B H (Ext.refl g.bh) v (h3 B)
end
/-- a value of the written part, as data -/
def RepK (K : PySem.W.Frag) (d : D) (u : Value) : Prop := ∃ v, RelV v u ∧ ∀ B, Rep K B d v
theorem rk_int {K : PySem.W.Frag} {i : Int} {t : Tok} : RepK K (.int i) (.int i t) := ⟨.int i, ⟨_, rfl⟩, fun _ => rep_int.mpr rfl⟩
theorem rk_str {K : PySem.W.Frag} {i : Str} {t : Tok} : RepK K (.str i) (.str i t) := ⟨.str i, ⟨_, rfl⟩, fun _ => rep_str.mpr rfl⟩
theorem rk_bl {K : PySem.W.Frag} {i : Bool} : RepK K (.bl i) (.bool i) := ⟨.bl i, rfl, fun _ => rep_bl.mpr rfl⟩
theorem rk_non {K : PySem.W.Frag} : RepK K .non .none := ⟨.non, rfl, fun _ => rep_non.mpr rfl⟩
inductive RepKs (K : PySem.W.Frag) : List D → List Value → Prop where
  | nil : RepKs K [] []
  | cons {d : D} {u : Value} {ds : List D} {us : List Value} : RepK K d u → RepKs K ds us → RepKs K (d :: ds) (u :: us)
theorem RepKs.get {K : PySem.W.Frag} : ∀ {ds : List D} {us : List Value}, RepKs K ds us → ∃ vs, Vals vs us ∧ ∀ B, Reps K B ds vs
  | _, _, .nil => ⟨[], .nil, fun _ => reps_nil.mpr rfl⟩
  | _, _, .cons h r => by
    obtain ⟨v, h1, h2⟩ := h
    obtain ⟨vs, r1, r2⟩ := r.get
    exact ⟨v :: vs, .cons h1 r1, fun B => Reps.cons (h2 B) (r2 B)⟩
theorem rk_tup {K : PySem.W.Frag} {a : Addr} {od : Option Addr} {its : Array Value} {n : Nat} {sl : Array (Option Value)} {ds : List D} (h : K.lookup a = some ⟨.type "tuple", od, .seq its n, sl⟩) (r : RepKs K ds its.toList) (hl : its.size ≤ sizeLine := by exact Nat.le_of_ble_eq_true rfl) : RepK K (.tup ds) (.ref a) := by
  obtain ⟨vs, r1, r2⟩ := r.get
  exact ⟨.ref a, rfl, fun B => rep_tup.mpr ⟨a, vs, rfl, .inr ⟨_, _, _, h, rfl, rfl, hl, r1⟩, r2 B⟩⟩
theorem RepK.ref {K : PySem.W.Frag} {d : D} {a : Addr} (h : RepK K d (.ref a)) (B : Hp) : Rep K B d (.ref a) := by
  obtain ⟨v, h1, h2⟩ := h
  cases v with
  | ref b =>
    have e : Value.ref a = Value.ref b := h1
    cases e
    exact h2 B
  | non => cases (show Value.ref a = Value.none from h1)
  | bl b => cases (show Value.ref a = Value.bool b from h1)
  | int b => obtain ⟨t, e⟩ := h1; cases e
  | str b => obtain ⟨t, e⟩ := h1; cases e
  | byt b => obtain ⟨t, e⟩ := h1; cases e
  | flt b => obtain ⟨t, e⟩ := h1; cases e
  | ty b => cases (show Value.ref a = Value.type b from h1)
theorem RepK.con {K : PySem.W.Frag} {mg : Str → Option Value} {x : Str} {d : D} {u : Value} (h : RepK K d u) (e : mg x = some u) : GCon K mg x d := by
  obtain ⟨v, h1, h2⟩ := h
  exact ⟨v, u, e, h1, h2⟩
/-! ### x is False, x is not False -/
theorem is_bool_gen {M : Model} {A : Around} {E : Value → Shared → Prop} {s : Shared} {Q : Value → Shared → Prop} {v : Value} {c : Bool} {x : V} (r : RelV x v) (h : Q (.bool (v == .bool c)) s) : wpAny M A (compareOp .Is v (.bool c)) Q E s := by
  cases v <;> first | exact wpAny_pure h | (exfalso; cases x <;> first | (obtain ⟨t, e⟩ := r; cases e; done) | (cases r; done))
theorem isnot_bool_gen {M : Model} {A : Around} {E : Value → Shared → Prop} {s : Shared} {Q : Value → Shared → Prop} {v : Value} {c : Bool} {x : V} (r : RelV x v) (h : Q (.bool (!(v == .bool c))) s) : wpAny M A (compareOp .IsNot v (.bool c)) Q E s := by
  cases v <;> first | exact wpAny_pure h | (exfalso; cases x <;> first | (obtain ⟨t, e⟩ := r; cases e; done) | (cases r; done))
theorem op_isB {X : Cx} : OpR X (compareOp .Is) (fun x y H Q => ∃ c, y = .bl c ∧ Q (.bl (decide (x = .bl c))) H) := by
  intro pins s σ H x y v u Q I rx ry h
  obtain ⟨c, rfl, q⟩ := h
  cases ry
  refine is_bool_gen rx (fin_bl I q ?_)
  cases x with
  | bl b => cases rx; cases b <;> cases c <;> rfl
  | non => cases rx; rfl
  | int _ => obtain ⟨t, rfl⟩ := rx; rfl
  | str _ => obtain ⟨t, rfl⟩ := rx; rfl
  | byt _ => obtain ⟨t, rfl⟩ := rx; rfl
  | flt _ => obtain ⟨t, rfl⟩ := rx; rfl
  | ref _ => cases rx; rfl
  | ty _ => cases rx; rfl
theorem op_notB {X : Cx} : OpR X (compareOp .IsNot) (fun x y H Q => ∃ c, y = .bl c ∧ Q (.bl (!decide (x = .bl c))) H) := by
  intro pins s σ H x y v u Q I rx ry h
  obtain ⟨c, rfl, q⟩ := h
  cases ry
  refine isnot_bool_gen rx (fin_bl I q ?_)
  cases x with
  | bl b => cases rx; cases b <;> cases c <;> rfl
  | non => cases rx; rfl
  | int _ => obtain ⟨t, rfl⟩ := rx; rfl
  | str _ => obtain ⟨t, rfl⟩ := rx; rfl
  | byt _ => obtain ⟨t, rfl⟩ := rx; rfl
  | flt _ => obtain ⟨t, rfl⟩ := rx; rfl
  | ref _ => cases rx; rfl
  | ty _ => cases rx; rfl
def isBlD (c : Bool) : D → Bool
  | .bl b => b == c
  | _ => false
theorem isBl_v {K : PySem.W.Frag} {B : Hp} {x : D} {v : V} {c : Bool} (r : Rep K B x v) : decide (v = .bl c) = isBlD c x := by
  cases x with
  | non => rw [rep_non.mp r]; rfl
  | bl b => rw [rep_bl.mp r]; cases b <;> cases c <;> rfl
  | int b => rw [rep_int.mp r]; rfl
  | str b => rw [rep_str.mp r]; rfl
  | tup b => obtain ⟨_, _, rfl, _⟩ := rep_tup.mp r; rfl
  | lst b => obtain ⟨_, _, rfl, _⟩ := rep_lst.mp r; rfl
  | obj _ _ b => obtain ⟨_, _, _, rfl, _⟩ := rep_obj.mp r; rfl
  | dct _ b => obtain ⟨_, _, rfl, _⟩ := rep_dct.mp r; rfl
  | ref _ => rw [rep_ref.mp r]; rfl
def gIsB (x y : D) : Option D := match y with
  | .bl c => some (.bl (isBlD c x))
  | _ => none
def gNotB (x y : D) : Option D := match y with
  | .bl c => some (.bl (!isBlD c x))
  | _ => none
theorem pure_isB {K : PySem.W.Frag} : Pure2 K (fun x y H Q => ∃ c, y = .bl c ∧ Q (.bl (decide (x = .bl c))) H) gIsB := fun {B H x y z v u} Q bh e rv ru q => by
  unfold gIsB at e
  split at e
  · cases e
    exact ⟨_, rep_bl.mp ru, q B H (Ext.refl bh) _ (rep_bl.mpr (by rw [isBl_v rv]))⟩
  · cases e
theorem pure_notB {K : PySem.W.Frag} : Pure2 K (fun x y H Q => ∃ c, y = .bl c ∧ Q (.bl (!decide (x = .bl c))) H) gNotB := fun {B H x y z v u} Q bh e rv ru q => by
  unfold gNotB at e
  split at e
  · cases e
    exact ⟨_, rep_bl.mp ru, q B H (Ext.refl bh) _ (rep_bl.mpr (by rw [isBl_v rv]))⟩
  · cases e
section
variable {X : Cx} {W : WX} {pos : Pos} {a b : Expr} {fa fb : PS1 → Option (R D)}
theorem de_isB (ha : DE X W a fa) (hb : DE X W b fb) : DE X W (.Compare a [.Is] [b] pos) (fop gIsB fa fb) := de_cmp op_isB pure_isB ha hb (nomark _)
theorem de_notB (ha : DE X W a fa) (hb : DE X W b fb) : DE X W (.Compare a [.IsNot] [b] pos) (fop gNotB fa fb) := de_cmp op_notB pure_notB ha hb (nomark _)
end
/-! ### a class's __init__ as a function of its arguments -/
def InitRun (C : Addr) (m : Nat) (fb : PS1 → Option Fl) (ds : List D) (r : R (List Str × List D)) : Prop := ∀ p : Addr, match r with
  | .ok (ns, xs) => ∃ s, fb (.obj p C [] [] :: (ds.map .d ++ List.replicate m .no)) = some (.nx s) ∧ s[0]? = some (.obj p C ns xs)
  | .er x => ∃ s, fb (.obj p C [] [] :: (ds.map .d ++ List.replicate m .no)) = some (.er x s)
noncomputable def fInit (C : Addr) (m : Nat) (fb : PS1 → Option Fl) : List D → Option (R (List Str × List D)) := fun ds => open Classical in if h : ∃ r, InitRun C m fb ds r then some h.choose else none
theorem fInit_ok {C : Addr} {m : Nat} {fb : PS1 → Option Fl} : InitOk C m fb (fInit C m fb) := fun p ds r h => by
  unfold fInit at h
  split at h
  · rename_i k
    cases h
    exact k.choose_spec p
  · cases h
theorem InitRun.one {C : Addr} {m : Nat} {fb : PS1 → Option Fl} {ds : List D} {r r' : R (List Str × List D)} (h : InitRun C m fb ds r) (h' : InitRun C m fb ds r') : r = r' := by
  have a := h 0
  have b := h' 0
  cases r with
  | ok o => cases r' with
    | ok o' =>
      obtain ⟨s, e1, e2⟩ := a
      obtain ⟨s', f1, f2⟩ := b
      rw [e1] at f1
      cases f1
      rw [e2] at f2
      cases o
      cases o'
      cases f2
      rfl
    | er x =>
      obtain ⟨s, e1, e2⟩ := a
      obtain ⟨s', f1⟩ := b
      rw [e1] at f1
      cases f1
  | er y => cases r' with
    | ok o' =>
      obtain ⟨s, e1⟩ := a
      obtain ⟨s', f1, f2⟩ := b
      rw [e1] at f1
      cases f1
    | er x =>
      obtain ⟨s, e1⟩ := a
      obtain ⟨s', f1⟩ := b
      rw [e1] at f1
      cases f1
      rfl
theorem fInit_eq {C : Addr} {m : Nat} {fb : PS1 → Option Fl} {ds : List D} {r : R (List Str × List D)} (h : InitRun C m fb ds r) : fInit C m fb ds = some r := by
  unfold fInit
  have k : ∃ r, InitRun C m fb ds r := ⟨r, h⟩
  rw [dif_pos k, k.choose_spec.one h]
/-! ### constructors with keywords: the defaults of those that lack -/
end FL

/-! how functions are reckoned: loops by a word, comprehensions -/
namespace FL
open PySem PySem.Spec PyProof.Rows L2
theorem r_orV (fa fb : PS1 → Option (R D)) (s : PS1) : fOrV fa fb s = bnd (fa s) fun x => match x with
  | .bl true => some (.ok (.bl true))
  | .bl false => fb s
  | _ => none := (rfl)
theorem lcF_nm {α : Type} {i : Nat} {ft : PS1 → Option (R Bool)} {fe : PS1 → Option (R D)} {sw : PS1} (g : α → D) (p : α → Bool) (f : α → D) (l : List α) (h : ∀ a ∈ l, ft (sw.set i (.d (g a))) = some (.ok (p a)) ∧ (p a = true → fe (sw.set i (.d (g a))) = some (.ok (f a)))) : lcF (giName i) ft fe sw (l.map g) = some ((l.filter p).map f) :=
  lcF_list g (fun a => sw.set i (.d (g a))) p f l fun a ha => ⟨rfl, h a ha⟩
theorem lcF_nmA {α : Type} {i : Nat} {fe : PS1 → Option (R D)} {sw : PS1} (g : α → D) (f : α → D) (l : List α) (h : ∀ a ∈ l, fe (sw.set i (.d (g a))) = some (.ok (f a))) : lcF (giName i) fYes fe sw (l.map g) = some (l.map f) :=
  lcF_all g (fun a => sw.set i (.d (g a))) f l fun a ha => ⟨rfl, h a ha⟩
/-- a loop by a word I over (turn, slots) -/
theorem loop_rel {α : Type} {gi : D → PS1 → Option PS1} {b : PS1 → Option Fl} (g : α → D) : ∀ (l : List α) (I : Nat → PS1 → Prop) (s : PS1), (∀ i a s, l[i]? = some a → I i s → ∃ s1 s2, gi (g a) s = some s1 ∧ b s1 = some (.nx s2) ∧ I (i + 1) s2) → I 0 s →
    ∃ s', loopF gi b (l.map g) s = some (.nx s') ∧ I l.length s'
  | [], I, s, _, h0 => ⟨s, rfl, h0⟩
  | a :: l, I, s, h, h0 => by
    obtain ⟨s1, s2, e1, e2, i1⟩ := h 0 a s rfl h0
    obtain ⟨s', e3, i3⟩ := loop_rel g l (fun i => I (i + 1)) s2 (fun i x s q k => h (i + 1) x s q k) i1
    refine ⟨s', ?_, i3⟩
    rw [List.map_cons]
    show (match gi (g a) s with
      | none => none
      | some s1 => match b s1 with
        | some (.nx s') => loopF gi b (l.map g) s'
        | some (.ct s') => loopF gi b (l.map g) s'
        | some (.bk s') => some (.nx s')
        | r => r) = _
    rw [e1]
    show (match b s1 with
        | some (.nx s') => loopF gi b (l.map g) s'
        | some (.ct s') => loopF gi b (l.map g) s'
        | some (.bk s') => some (.nx s')
        | r => r) = _
    rw [e2]
    exact e3
/-- the same over ints -/
theorem loop_int {gi : D → PS1 → Option PS1} {b : PS1 → Option Fl} (l : List Int) (I : Nat → PS1 → Prop) (s : PS1) (h : ∀ i a s, l[i]? = some a → I i s → ∃ s1 s2, gi (.int a) s = some s1 ∧ b s1 = some (.nx s2) ∧ I (i + 1) s2) (h0 : I 0 s) :
    ∃ s', loopF gi b (nums l) s = some (.nx s') ∧ I l.length s' := loop_rel D.int l I s h h0
/-- over a range -/
theorem loop_rng {gi : D → PS1 → Option PS1} {b : PS1 → Option Fl} (f : Nat → D) (n : Nat) (I : Nat → PS1 → Prop) (s : PS1) (h : ∀ i s, i < n → I i s → ∃ s1 s2, gi (f i) s = some s1 ∧ b s1 = some (.nx s2) ∧ I (i + 1) s2) (h0 : I 0 s) :
    ∃ s', loopF gi b ((List.range n).map f) s = some (.nx s') ∧ I n s' := by
  have := loop_rel (gi := gi) (b := b) f (List.range n) I s (fun i a s q k => by
    obtain ⟨h1, h2⟩ := List.getElem?_eq_some_iff.mp q
    rw [List.length_range] at h1
    rw [List.getElem_range] at h2
    subst h2
    exact h i s h1 k) h0
  rw [List.length_range] at this
  exact this
/-- a loop over a range that returns at a place -/
theorem loop_find {gi : D → PS1 → Option PS1} {b : PS1 → Option Fl} {d : D} : ∀ (j0 : Nat) (f : Nat → D) (l : List Nat) (I : Nat → PS1 → Prop) (s : PS1), j0 < l.length → (∀ i s, i < j0 → I i s → ∃ s1 s2, gi (f (l.getD i 0)) s = some s1 ∧ b s1 = some (.nx s2) ∧ I (i + 1) s2) → (∀ s, I j0 s → ∃ s1, gi (f (l.getD j0 0)) s = some s1 ∧ b s1 = some (.rt d)) → I 0 s →
    loopF gi b (l.map f) s = some (.rt d)
  | _, _, [], _, _, h, _, _, _ => absurd h (Nat.not_lt_zero _)
  | 0, f, a :: l, I, s, _, _, hr, h0 => by
    obtain ⟨s1, e1, e2⟩ := hr s h0
    rw [List.getD_cons_zero] at e1
    rw [List.map_cons]
    show (match gi (f a) s with
      | none => none
      | some s1 => match b s1 with
        | some (.nx s') => loopF gi b (l.map f) s'
        | some (.ct s') => loopF gi b (l.map f) s'
        | some (.bk s') => some (.nx s')
        | r => r) = _
    rw [e1]
    show (match b s1 with
        | some (.nx s') => loopF gi b (l.map f) s'
        | some (.ct s') => loopF gi b (l.map f) s'
        | some (.bk s') => some (.nx s')
        | r => r) = _
    rw [e2]
  | j0 + 1, f, a :: l, I, s, hl, hb, hr, h0 => by
    obtain ⟨s1, s2, e1, e2, i1⟩ := hb 0 s (Nat.succ_pos _) h0
    rw [List.getD_cons_zero] at e1
    have ih := loop_find j0 f l (fun i => I (i + 1)) s2 (by rw [List.length_cons] at hl; omega) (fun i s q k => by
      have := hb (i + 1) s (by omega) k
      rw [List.getD_cons_succ] at this
      exact this) (fun s k => by
      have := hr s k
      rw [List.getD_cons_succ] at this
      exact this) i1
    rw [List.map_cons]
    show (match gi (f a) s with
      | none => none
      | some s1 => match b s1 with
        | some (.nx s') => loopF gi b (l.map f) s'
        | some (.ct s') => loopF gi b (l.map f) s'
        | some (.bk s') => some (.nx s')
        | r => r) = _
    rw [e1]
    show (match b s1 with
        | some (.nx s') => loopF gi b (l.map f) s'
        | some (.ct s') => loopF gi b (l.map f) s'
        | some (.bk s') => some (.nx s')
        | r => r) = _
    rw [e2]
    exact ih
theorem loop_findR {gi : D → PS1 → Option PS1} {b : PS1 → Option Fl} {d : D} (j0 n : Nat) (f : Nat → D) (I : Nat → PS1 → Prop) (s : PS1) (hj : j0 < n) (hb : ∀ i s, i < j0 → I i s → ∃ s1 s2, gi (f i) s = some s1 ∧ b s1 = some (.nx s2) ∧ I (i + 1) s2) (hr : ∀ s, I j0 s → ∃ s1, gi (f j0) s = some s1 ∧ b s1 = some (.rt d)) (h0 : I 0 s) :
    loopF gi b ((List.range n).map f) s = some (.rt d) := by
  have g : ∀ i, i < n → (List.range n).getD i 0 = i := fun i hi => by
    rw [List.getD_eq_getElem?_getD, List.getElem?_range hi]
    rfl
  refine loop_find j0 f (List.range n) I s (by rw [List.length_range]; exact hj) (fun i s q k => by rw [g i (by omega)]; exact hb i s q k) (fun s k => by rw [g j0 hj]; exact hr s k) h0
theorem rngW_eq {a b : Int} : gRngW [.int a, .int b] = some ((List.range (b - a).toNat).map fun j : Nat => .int (a + (j : Int))) := (rfl)
/-- a loop that returns at the first one with p -/
theorem loop_first {α : Type} {gi : D → PS1 → Option PS1} {b : PS1 → Option Fl} {d : D} (g : α → D) (p : α → Bool) (I : PS1 → Prop) : ∀ (l : List α) (s : PS1), (∀ a s, a ∈ l → I s → ∃ s1, gi (g a) s = some s1 ∧ ((p a = true ∧ b s1 = some (.rt d)) ∨ (p a = false ∧ ∃ s2, b s1 = some (.nx s2) ∧ I s2))) → I s →
    (l.any p = true ∧ loopF gi b (l.map g) s = some (.rt d)) ∨ (l.any p = false ∧ ∃ s', loopF gi b (l.map g) s = some (.nx s') ∧ I s')
  | [], s, _, h0 => .inr ⟨rfl, s, rfl, h0⟩
  | a :: l, s, h, h0 => by
    obtain ⟨s1, e1, e2⟩ := h a s (List.mem_cons_self ..) h0
    have key : loopF gi b ((a :: l).map g) s = match b s1 with
        | some (.nx s') => loopF gi b (l.map g) s'
        | some (.ct s') => loopF gi b (l.map g) s'
        | some (.bk s') => some (.nx s')
        | r => r := by
      rw [List.map_cons]
      show (match gi (g a) s with
        | none => none
        | some s1 => match b s1 with
          | some (.nx s') => loopF gi b (l.map g) s'
          | some (.ct s') => loopF gi b (l.map g) s'
          | some (.bk s') => some (.nx s')
          | r => r) = _
      rw [e1]
    rcases e2 with ⟨hp, e2⟩ | ⟨hp, s2, e2, i2⟩
    · refine .inl ⟨by rw [List.any_cons, hp]; rfl, ?_⟩
      rw [key, e2]
    · rcases loop_first g p I l s2 (fun a s q k => h a s (List.mem_cons_of_mem _ q) k) i2 with ⟨h1, h2⟩ | ⟨h1, h2⟩
      · refine .inl ⟨by rw [List.any_cons, hp, h1]; rfl, ?_⟩
        rw [key, e2]
        exact h2
      · refine .inr ⟨by rw [List.any_cons, hp, h1]; rfl, ?_⟩
        rw [key, e2]
        exact h2
theorem blsOf_map {α : Type} (f : α → Bool) (l : List α) : blsOf (l.map fun a => D.bl (f a)) = some (l.map f) := by
  have := blsOf_bls (l.map f)
  rw [List.map_map] at this
  exact this
theorem gAny_map {α : Type} (f : α → Bool) (l : List α) : gAny [.lst (l.map fun a => D.bl (f a))] = some (.bl (l.any f)) := by
  show (blsOf _).map _ = _
  rw [blsOf_map]
  show some (D.bl ((l.map f).any id)) = _
  rw [List.any_map]
  rfl
theorem gAll_map {α : Type} (f : α → Bool) (l : List α) : gAll [.lst (l.map fun a => D.bl (f a))] = some (.bl (l.all f)) := by
  show (blsOf _).map _ = _
  rw [blsOf_map]
  show some (D.bl ((l.map f).all id)) = _
  rw [List.all_map]
  rfl
theorem ixM1 (a : D) : gIx (.tup [a]) (.int (-1)) = some a := (rfl)
theorem ixM2 (a b : D) : gIx (.tup [a, b]) (.int (-1)) = some b := (rfl)
theorem ixM3 (a b c : D) : gIx (.tup [a, b, c]) (.int (-1)) = some c := (rfl)
theorem ixM4 (a b c d : D) : gIx (.tup [a, b, c, d]) (.int (-1)) = some d := (rfl)
theorem gAdd_tup {xs ys : List D} (h : xs.length + ys.length ≤ 100000) : gAdd (.tup xs) (.tup ys) = some (.tup (xs ++ ys)) := by
  show (if xs.length + ys.length ≤ 100000 then _ else _) = _
  rw [if_pos h]
theorem while_one' (t : PS1 → Option (R Bool)) (b : PS1 → Option Fl) (n : Nat) (s : PS1) : whileF t b (n + 1) s = match t s with
  | some (.ok true) => (match b s with
    | some (.nx s') => whileF t b n s'
    | some (.ct s') => whileF t b n s'
    | some (.bk s') => some (.nx s')
    | r => r)
  | some (.ok false) => some (.nx s)
  | some (.er x) => some (.er x s)
  | none => none := by
  show fEx t _ s = _
  unfold fEx
  cases t s with
  | none => rfl
  | some r => cases r with
    | er x => rfl
    | ok b => cases b <;> rfl
theorem while_rel {t : PS1 → Option (R Bool)} {b : PS1 → Option Fl} (I : PS1 → Prop) (μ : PS1 → Nat) (h : ∀ s, I s → t s = some (.ok false) ∨ ∃ s', t s = some (.ok true) ∧ b s = some (.nx s') ∧ I s' ∧ μ s' < μ s) : ∀ (fuel : Nat) (s : PS1), I s → μ s < fuel →
    ∃ s', whileF t b fuel s = some (.nx s') ∧ I s' ∧ t s' = some (.ok false)
  | 0, s, _, hf => absurd hf (Nat.not_lt_zero _)
  | n + 1, s, h0, hf => by
    rw [while_one']
    rcases h s h0 with e | ⟨s', e1, e2, i2, m2⟩
    · refine ⟨s, ?_, h0, e⟩
      rw [e]
    · obtain ⟨s3, e3, i3, k3⟩ := while_rel I μ h n s' i2 (by omega)
      refine ⟨s3, ?_, i3, k3⟩
      rw [e1]
      show (match b s with
        | some (.nx s') => whileF t b n s'
        | some (.ct s') => whileF t b n s'
        | some (.bk s') => some (.nx s')
        | r => r) = _
      rw [e2]
      exact e3
theorem st_ex {α : Type} {p : α → Prop} {f g : PS1 → Option Fl} {s : PS1} {S : α → PS1} {r : Option Fl} (h : ∃ a, p a ∧ f s = some (.nx (S a))) (t : ∀ a, p a → g (S a) = r) : fSeq f g s = r := by
  obtain ⟨a, pa, e⟩ := h
  exact st e (t a pa)
/-- a statement that ends in a state of a word -/
theorem st_rel {p : PS1 → Prop} {f g : PS1 → Option Fl} {s : PS1} {r : Option Fl} (h : ∃ s', f s = some (.nx s') ∧ p s') (t : ∀ s', p s' → g s' = r) : fSeq f g s = r := by
  obtain ⟨s', e, ps⟩ := h
  exact st e (t s' ps)
/-- a statement that returns -/
theorem st_rt {f g : PS1 → Option Fl} {s : PS1} {d : D} (h : f s = some (.rt d)) : fSeq f g s = some (.rt d) := by
  unfold fSeq
  rw [h]
theorem st_er {f g : PS1 → Option Fl} {s s' : PS1} {x : Er} (h : f s = some (.er x s')) : fSeq f g s = some (.er x s') := by
  unfold fSeq
  rw [h]
theorem st_nx (g : PS1 → Option Fl) (s : PS1) : fSeq fNext g s = g s := (rfl)
section
variable {i j : Int}
theorem isi_ii (i : Int) : gIsi "int" (.int i) = some (.bl true) := by rfl
end
theorem p20 (x y : D) : gIx (.tup [x, y]) (.int 0) = some x := (rfl)
theorem p21 (x y : D) : gIx (.tup [x, y]) (.int 1) = some y := (rfl)
theorem p30 (x y z : D) : gIx (.tup [x, y, z]) (.int 0) = some x := (rfl)
theorem p31 (x y z : D) : gIx (.tup [x, y, z]) (.int 1) = some y := (rfl)
theorem p32 (x y z : D) : gIx (.tup [x, y, z]) (.int 2) = some z := (rfl)
theorem ixL0 (x0 : D) (xs : List D) : gIx (.lst (x0::xs)) (.int 0) = some x0 := atI_nat (xs := x0::xs) (k := 0) (by simp only [List.length_cons]; omega)
theorem ixT0 (x0 : D) (xs : List D) : gIx (.tup (x0::xs)) (.int 0) = some x0 := atI_nat (xs := x0::xs) (k := 0) (by simp only [List.length_cons]; omega)
theorem ixL1 (x0 x1 : D) (xs : List D) : gIx (.lst (x0::x1::xs)) (.int 1) = some x1 := atI_nat (xs := x0::x1::xs) (k := 1) (by simp only [List.length_cons]; omega)
theorem ixT1 (x0 x1 : D) (xs : List D) : gIx (.tup (x0::x1::xs)) (.int 1) = some x1 := atI_nat (xs := x0::x1::xs) (k := 1) (by simp only [List.length_cons]; omega)
theorem ixL2 (x0 x1 x2 : D) (xs : List D) : gIx (.lst (x0::x1::x2::xs)) (.int 2) = some x2 := atI_nat (xs := x0::x1::x2::xs) (k := 2) (by simp only [List.length_cons]; omega)
theorem ixT2 (x0 x1 x2 : D) (xs : List D) : gIx (.tup (x0::x1::x2::xs)) (.int 2) = some x2 := atI_nat (xs := x0::x1::x2::xs) (k := 2) (by simp only [List.length_cons]; omega)
theorem ixL3 (x0 x1 x2 x3 : D) (xs : List D) : gIx (.lst (x0::x1::x2::x3::xs)) (.int 3) = some x3 := atI_nat (xs := x0::x1::x2::x3::xs) (k := 3) (by simp only [List.length_cons]; omega)
theorem ixT3 (x0 x1 x2 x3 : D) (xs : List D) : gIx (.tup (x0::x1::x2::x3::xs)) (.int 3) = some x3 := atI_nat (xs := x0::x1::x2::x3::xs) (k := 3) (by simp only [List.length_cons]; omega)
theorem ixL4 (x0 x1 x2 x3 x4 : D) (xs : List D) : gIx (.lst (x0::x1::x2::x3::x4::xs)) (.int 4) = some x4 := atI_nat (xs := x0::x1::x2::x3::x4::xs) (k := 4) (by simp only [List.length_cons]; omega)
theorem ixT4 (x0 x1 x2 x3 x4 : D) (xs : List D) : gIx (.tup (x0::x1::x2::x3::x4::xs)) (.int 4) = some x4 := atI_nat (xs := x0::x1::x2::x3::x4::xs) (k := 4) (by simp only [List.length_cons]; omega)
theorem ixL5 (x0 x1 x2 x3 x4 x5 : D) (xs : List D) : gIx (.lst (x0::x1::x2::x3::x4::x5::xs)) (.int 5) = some x5 := atI_nat (xs := x0::x1::x2::x3::x4::x5::xs) (k := 5) (by simp only [List.length_cons]; omega)
theorem ixT5 (x0 x1 x2 x3 x4 x5 : D) (xs : List D) : gIx (.tup (x0::x1::x2::x3::x4::x5::xs)) (.int 5) = some x5 := atI_nat (xs := x0::x1::x2::x3::x4::x5::xs) (k := 5) (by simp only [List.length_cons]; omega)
theorem ixL6 (x0 x1 x2 x3 x4 x5 x6 : D) (xs : List D) : gIx (.lst (x0::x1::x2::x3::x4::x5::x6::xs)) (.int 6) = some x6 := atI_nat (xs := x0::x1::x2::x3::x4::x5::x6::xs) (k := 6) (by simp only [List.length_cons]; omega)
theorem ixT6 (x0 x1 x2 x3 x4 x5 x6 : D) (xs : List D) : gIx (.tup (x0::x1::x2::x3::x4::x5::x6::xs)) (.int 6) = some x6 := atI_nat (xs := x0::x1::x2::x3::x4::x5::x6::xs) (k := 6) (by simp only [List.length_cons]; omega)
theorem ixL7 (x0 x1 x2 x3 x4 x5 x6 x7 : D) (xs : List D) : gIx (.lst (x0::x1::x2::x3::x4::x5::x6::x7::xs)) (.int 7) = some x7 := atI_nat (xs := x0::x1::x2::x3::x4::x5::x6::x7::xs) (k := 7) (by simp only [List.length_cons]; omega)
theorem ixT7 (x0 x1 x2 x3 x4 x5 x6 x7 : D) (xs : List D) : gIx (.tup (x0::x1::x2::x3::x4::x5::x6::x7::xs)) (.int 7) = some x7 := atI_nat (xs := x0::x1::x2::x3::x4::x5::x6::x7::xs) (k := 7) (by simp only [List.length_cons]; omega)
theorem ixL8 (x0 x1 x2 x3 x4 x5 x6 x7 x8 : D) (xs : List D) : gIx (.lst (x0::x1::x2::x3::x4::x5::x6::x7::x8::xs)) (.int 8) = some x8 := atI_nat (xs := x0::x1::x2::x3::x4::x5::x6::x7::x8::xs) (k := 8) (by simp only [List.length_cons]; omega)
theorem ixT8 (x0 x1 x2 x3 x4 x5 x6 x7 x8 : D) (xs : List D) : gIx (.tup (x0::x1::x2::x3::x4::x5::x6::x7::x8::xs)) (.int 8) = some x8 := atI_nat (xs := x0::x1::x2::x3::x4::x5::x6::x7::x8::xs) (k := 8) (by simp only [List.length_cons]; omega)
theorem ixL9 (x0 x1 x2 x3 x4 x5 x6 x7 x8 x9 : D) (xs : List D) : gIx (.lst (x0::x1::x2::x3::x4::x5::x6::x7::x8::x9::xs)) (.int 9) = some x9 := atI_nat (xs := x0::x1::x2::x3::x4::x5::x6::x7::x8::x9::xs) (k := 9) (by simp only [List.length_cons]; omega)
theorem ixT9 (x0 x1 x2 x3 x4 x5 x6 x7 x8 x9 : D) (xs : List D) : gIx (.tup (x0::x1::x2::x3::x4::x5::x6::x7::x8::x9::xs)) (.int 9) = some x9 := atI_nat (xs := x0::x1::x2::x3::x4::x5::x6::x7::x8::x9::xs) (k := 9) (by simp only [List.length_cons]; omega)
theorem len1 {α : Type} {l : List α} (h : l.length = 1) : ∃ a0 : α, l = [a0] := match l, h with
  | [a0], _ => ⟨a0, rfl⟩
theorem len2 {α : Type} {l : List α} (h : l.length = 2) : ∃ a0 a1 : α, l = [a0, a1] := match l, h with
  | [a0, a1], _ => ⟨a0, a1, rfl⟩
theorem len3 {α : Type} {l : List α} (h : l.length = 3) : ∃ a0 a1 a2 : α, l = [a0, a1, a2] := match l, h with
  | [a0, a1, a2], _ => ⟨a0, a1, a2, rfl⟩
theorem len4 {α : Type} {l : List α} (h : l.length = 4) : ∃ a0 a1 a2 a3 : α, l = [a0, a1, a2, a3] := match l, h with
  | [a0, a1, a2, a3], _ => ⟨a0, a1, a2, a3, rfl⟩
theorem len5 {α : Type} {l : List α} (h : l.length = 5) : ∃ a0 a1 a2 a3 a4 : α, l = [a0, a1, a2, a3, a4] := match l, h with
  | [a0, a1, a2, a3, a4], _ => ⟨a0, a1, a2, a3, a4, rfl⟩
theorem len6 {α : Type} {l : List α} (h : l.length = 6) : ∃ a0 a1 a2 a3 a4 a5 : α, l = [a0, a1, a2, a3, a4, a5] := match l, h with
  | [a0, a1, a2, a3, a4, a5], _ => ⟨a0, a1, a2, a3, a4, a5, rfl⟩
theorem len7 {α : Type} {l : List α} (h : l.length = 7) : ∃ a0 a1 a2 a3 a4 a5 a6 : α, l = [a0, a1, a2, a3, a4, a5, a6] := match l, h with
  | [a0, a1, a2, a3, a4, a5, a6], _ => ⟨a0, a1, a2, a3, a4, a5, a6, rfl⟩
theorem len8 {α : Type} {l : List α} (h : l.length = 8) : ∃ a0 a1 a2 a3 a4 a5 a6 a7 : α, l = [a0, a1, a2, a3, a4, a5, a6, a7] := match l, h with
  | [a0, a1, a2, a3, a4, a5, a6, a7], _ => ⟨a0, a1, a2, a3, a4, a5, a6, a7, rfl⟩
theorem len9 {α : Type} {l : List α} (h : l.length = 9) : ∃ a0 a1 a2 a3 a4 a5 a6 a7 a8 : α, l = [a0, a1, a2, a3, a4, a5, a6, a7, a8] := match l, h with
  | [a0, a1, a2, a3, a4, a5, a6, a7, a8], _ => ⟨a0, a1, a2, a3, a4, a5, a6, a7, a8, rfl⟩
theorem len10 {α : Type} {l : List α} (h : l.length = 10) : ∃ a0 a1 a2 a3 a4 a5 a6 a7 a8 a9 : α, l = [a0, a1, a2, a3, a4, a5, a6, a7, a8, a9] := match l, h with
  | [a0, a1, a2, a3, a4, a5, a6, a7, a8, a9], _ => ⟨a0, a1, a2, a3, a4, a5, a6, a7, a8, a9, rfl⟩
theorem len11 {α : Type} {l : List α} (h : l.length = 11) : ∃ a0 a1 a2 a3 a4 a5 a6 a7 a8 a9 a10 : α, l = [a0, a1, a2, a3, a4, a5, a6, a7, a8, a9, a10] := match l, h with
  | [a0, a1, a2, a3, a4, a5, a6, a7, a8, a9, a10], _ => ⟨a0, a1, a2, a3, a4, a5, a6, a7, a8, a9, a10, rfl⟩
theorem len12 {α : Type} {l : List α} (h : l.length = 12) : ∃ a0 a1 a2 a3 a4 a5 a6 a7 a8 a9 a10 a11 : α, l = [a0, a1, a2, a3, a4, a5, a6, a7, a8, a9, a10, a11] := match l, h with
  | [a0, a1, a2, a3, a4, a5, a6, a7, a8, a9, a10, a11], _ => ⟨a0, a1, a2, a3, a4, a5, a6, a7, a8, a9, a10, a11, rfl⟩
theorem r_slT (fe : PS1 → Option (R D)) (fl fh : PS1 → Option (R (Option Int))) (s : PS1) : fSlT fe fl fh s = bnd (fe s) fun x => bnd (fl s) fun lo => bnd (fh s) fun hi => match x with
  | .tup xs => some (.ok (.tup (cutD xs lo hi)))
  | .str z => if z.length ≤ 100000 then some (.ok (.str (cutS z lo hi))) else none
  | _ => none := (rfl)
theorem r_slL (fe : PS1 → Option (R D)) (fl fh : PS1 → Option (R (Option Int))) (s : PS1) : fSlL fe fl fh s = bnd (fe s) fun x => bnd (fl s) fun lo => bnd (fh s) fun hi => match x with
  | .lst xs => some (.ok (cutD xs lo hi))
  | _ => none := (rfl)
theorem r_part (fe : PS1 → Option (R D)) (s : PS1) : fPart fe s = bnd (fe s) fun x => match x with
  | .int i => some (.ok (some i))
  | _ => none := (rfl)
theorem r_noPart (s : PS1) : fNoPart s = some (.ok none) := (rfl)
theorem gIn_s2T (w a b : Str) : gIn (.str w) (.tup [.str a, .str b]) = some (.bl (a == w || (b == w || false))) := (rfl)
theorem gIn_s2L (w a b : Str) : gIn (.str w) (.lst [.str a, .str b]) = some (.bl (a == w || (b == w || false))) := (rfl)
theorem gAbs_int (x : Int) : gAbs [.int x] = some (.int (if x < 0 then -x else x)) := (rfl)
theorem ixL10 (x0 x1 x2 x3 x4 x5 x6 x7 x8 x9 x10 : D) (xs : List D) : gIx (.lst (x0::x1::x2::x3::x4::x5::x6::x7::x8::x9::x10::xs)) (.int 10) = some x10 := atI_nat (xs := x0::x1::x2::x3::x4::x5::x6::x7::x8::x9::x10::xs) (k := 10) (by simp only [List.length_cons]; omega)
theorem ixT10 (x0 x1 x2 x3 x4 x5 x6 x7 x8 x9 x10 : D) (xs : List D) : gIx (.tup (x0::x1::x2::x3::x4::x5::x6::x7::x8::x9::x10::xs)) (.int 10) = some x10 := atI_nat (xs := x0::x1::x2::x3::x4::x5::x6::x7::x8::x9::x10::xs) (k := 10) (by simp only [List.length_cons]; omega)
theorem ixL11 (x0 x1 x2 x3 x4 x5 x6 x7 x8 x9 x10 x11 : D) (xs : List D) : gIx (.lst (x0::x1::x2::x3::x4::x5::x6::x7::x8::x9::x10::x11::xs)) (.int 11) = some x11 := atI_nat (xs := x0::x1::x2::x3::x4::x5::x6::x7::x8::x9::x10::x11::xs) (k := 11) (by simp only [List.length_cons]; omega)
theorem ixT11 (x0 x1 x2 x3 x4 x5 x6 x7 x8 x9 x10 x11 : D) (xs : List D) : gIx (.tup (x0::x1::x2::x3::x4::x5::x6::x7::x8::x9::x10::x11::xs)) (.int 11) = some x11 := atI_nat (xs := x0::x1::x2::x3::x4::x5::x6::x7::x8::x9::x10::x11::xs) (k := 11) (by simp only [List.length_cons]; omega)
theorem ixL12 (x0 x1 x2 x3 x4 x5 x6 x7 x8 x9 x10 x11 x12 : D) (xs : List D) : gIx (.lst (x0::x1::x2::x3::x4::x5::x6::x7::x8::x9::x10::x11::x12::xs)) (.int 12) = some x12 := atI_nat (xs := x0::x1::x2::x3::x4::x5::x6::x7::x8::x9::x10::x11::x12::xs) (k := 12) (by simp only [List.length_cons]; omega)
theorem ixT12 (x0 x1 x2 x3 x4 x5 x6 x7 x8 x9 x10 x11 x12 : D) (xs : List D) : gIx (.tup (x0::x1::x2::x3::x4::x5::x6::x7::x8::x9::x10::x11::x12::xs)) (.int 12) = some x12 := atI_nat (xs := x0::x1::x2::x3::x4::x5::x6::x7::x8::x9::x10::x11::x12::xs) (k := 12) (by simp only [List.length_cons]; omega)
theorem ixL13 (x0 x1 x2 x3 x4 x5 x6 x7 x8 x9 x10 x11 x12 x13 : D) (xs : List D) : gIx (.lst (x0::x1::x2::x3::x4::x5::x6::x7::x8::x9::x10::x11::x12::x13::xs)) (.int 13) = some x13 := atI_nat (xs := x0::x1::x2::x3::x4::x5::x6::x7::x8::x9::x10::x11::x12::x13::xs) (k := 13) (by simp only [List.length_cons]; omega)
theorem ixT13 (x0 x1 x2 x3 x4 x5 x6 x7 x8 x9 x10 x11 x12 x13 : D) (xs : List D) : gIx (.tup (x0::x1::x2::x3::x4::x5::x6::x7::x8::x9::x10::x11::x12::x13::xs)) (.int 13) = some x13 := atI_nat (xs := x0::x1::x2::x3::x4::x5::x6::x7::x8::x9::x10::x11::x12::x13::xs) (k := 13) (by simp only [List.length_cons]; omega)
theorem len13 {α : Type} {l : List α} (h : l.length = 13) : ∃ a0 a1 a2 a3 a4 a5 a6 a7 a8 a9 a10 a11 a12 : α, l = [a0, a1, a2, a3, a4, a5, a6, a7, a8, a9, a10, a11, a12] := match l, h with
  | [a0, a1, a2, a3, a4, a5, a6, a7, a8, a9, a10, a11, a12], _ => ⟨a0, a1, a2, a3, a4, a5, a6, a7, a8, a9, a10, a11, a12, rfl⟩
theorem len14 {α : Type} {l : List α} (h : l.length = 14) : ∃ a0 a1 a2 a3 a4 a5 a6 a7 a8 a9 a10 a11 a12 a13 : α, l = [a0, a1, a2, a3, a4, a5, a6, a7, a8, a9, a10, a11, a12, a13] := match l, h with
  | [a0, a1, a2, a3, a4, a5, a6, a7, a8, a9, a10, a11, a12, a13], _ => ⟨a0, a1, a2, a3, a4, a5, a6, a7, a8, a9, a10, a11, a12, a13, rfl⟩
/-- None or an int -/
def oD : Option Int → D
  | none => .non
  | some x => .int x
end FL

/-! x in xs, data of any depth -/
namespace FL
open PySem PySem.Spec PyProof.Rows L2
section
variable {X : Cx}
def rInT (K : PySem.W.Frag) (n : Bool) : R2 := fun x y H Q => ∃ d ds, Dp K H x d ∧ Dp K H y (.tuple ds) ∧ SeqAt.shaped d = true ∧ SeqAt.shaped (.tuple ds) = true ∧ Q (.bl (xor n (ds.any fun z => PyData.eqv z d))) H
theorem op_inT (hu : X.A.units + 65 < cLine) : OpR X (compareOp .In) (rInT X.K false) := by
  intro pins s σ H x y v u Q I rx ry ⟨d, ds, hd, he, sd, se, q⟩
  obtain ⟨as, r1⟩ := Dp.reads I d x v hd rx
  obtain ⟨bs, r2⟩ := Dp.reads I (.tuple ds) y u he ry
  rw [Bool.false_xor] at q
  exact SeqAt.in_tuple_reads r2 r1 (SeqAt.canLay_of_shaped se) (SeqAt.canLay_of_shaped sd) (room_in_shaped sd hu) ⟨.bl _, H, I, rfl, q⟩
theorem op_notInT (hu : X.A.units + 65 < cLine) : OpR X (compareOp .NotIn) (rInT X.K true) := by
  intro pins s σ H x y v u Q I rx ry ⟨d, ds, hd, he, sd, se, q⟩
  obtain ⟨as, r1⟩ := Dp.reads I d x v hd rx
  obtain ⟨bs, r2⟩ := Dp.reads I (.tuple ds) y u he ry
  rw [Bool.true_xor] at q
  exact SeqAt.notIn_tuple_reads r2 r1 (SeqAt.canLay_of_shaped se) (SeqAt.canLay_of_shaped sd) (room_in_shaped sd hu) ⟨.bl _, H, I, rfl, q⟩
end
theorem units65 {k : Nat} {A : Around} (r : Room k A) : A.units + 65 < cLine := by have := r.un; omega
def inDp (x y : D) : Option Bool := match toPy x, toPy y with
  | some p, some (.tuple ps) => if (SeqAt.shaped p && SeqAt.shaped (.tuple ps)) = true then some (ps.any fun z => PyData.eqv z p) else none
  | some p, some (.list ps) => if (SeqAt.shaped p && SeqAt.shaped (.list ps)) = true then some (ps.any fun z => PyData.eqv z p) else none
  | _, _ => none
def gInX (x y : D) : Option D := (inDp x y).map .bl
def gNotInX (x y : D) : Option D := (inDp x y).map fun b => .bl (!b)
def rInX (K : PySem.W.Frag) : R2 := fun x y H Q => rInD K x y H Q ∨ rInT K false x y H Q
def rNotInX (K : PySem.W.Frag) : R2 := fun x y H Q => rNotInD K x y H Q ∨ rInT K true x y H Q
theorem op_inX {X : Cx} (hu : X.A.units + 65 < cLine) : OpR X (compareOp .In) (rInX X.K) := (op_inD hu).or (op_inT hu)
theorem op_notInX {X : Cx} (hu : X.A.units + 65 < cLine) : OpR X (compareOp .NotIn) (rNotInX X.K) := (op_notInD hu).or (op_notInT hu)
theorem pure_inX {K : PySem.W.Frag} : Pure2 K (rInX K) gInX := fun {B H x y z v u} Q bh e rv ru q => by
  obtain ⟨k, e1, rfl⟩ := Option.map_eq_some_iff.mp e
  unfold inDp at e1
  split at e1
  · rename_i p ps h1 h2
    split at e1
    · rename_i c
      cases e1
      rw [Bool.and_eq_true] at c
      exact .inr ⟨p, ps, Dp.mono bh (rv.dp h1), Dp.mono bh (ru.dp h2), c.1, c.2, by rw [Bool.false_xor]; exact q B H (Ext.refl bh) _ (rep_bl.mpr rfl)⟩
    · cases e1
  · rename_i p ps h1 h2
    split at e1
    · rename_i c
      cases e1
      rw [Bool.and_eq_true] at c
      exact .inl ⟨p, ps, Dp.mono bh (rv.dp h1), Dp.mono bh (ru.dp h2), c.1, c.2, q B H (Ext.refl bh) _ (rep_bl.mpr rfl)⟩
    · cases e1
  · cases e1
theorem pure_notInX {K : PySem.W.Frag} : Pure2 K (rNotInX K) gNotInX := fun {B H x y z v u} Q bh e rv ru q => by
  obtain ⟨k, e1, rfl⟩ := Option.map_eq_some_iff.mp e
  unfold inDp at e1
  split at e1
  · rename_i p ps h1 h2
    split at e1
    · rename_i c
      cases e1
      rw [Bool.and_eq_true] at c
      exact .inr ⟨p, ps, Dp.mono bh (rv.dp h1), Dp.mono bh (ru.dp h2), c.1, c.2, by rw [Bool.true_xor]; exact q B H (Ext.refl bh) _ (rep_bl.mpr rfl)⟩
    · cases e1
  · rename_i p ps h1 h2
    split at e1
    · rename_i c
      cases e1
      rw [Bool.and_eq_true] at c
      exact .inl ⟨p, ps, Dp.mono bh (rv.dp h1), Dp.mono bh (ru.dp h2), c.1, c.2, q B H (Ext.refl bh) _ (rep_bl.mpr rfl)⟩
    · cases e1
  · cases e1
section
variable {X : Cx} {W : WX} {pos : Pos} {a b : Expr} {fa fb : PS1 → Option (R D)}
theorem de_inX (hu : X.A.units + 65 < cLine) (ha : DE X W a fa) (hb : DE X W b fb) (hm : behindInMarks .In b = false) : DE X W (.Compare a [.In] [b] pos) (fop gInX fa fb) := de_cmp (op_inX hu) pure_inX ha hb hm
theorem de_notInX (hu : X.A.units + 65 < cLine) (ha : DE X W a fa) (hb : DE X W b fb) (hm : behindInMarks .NotIn b = false) : DE X W (.Compare a [.NotIn] [b] pos) (fop gNotInX fa fb) := de_cmp (op_notInX hu) pure_notInX ha hb hm
end
end FL

/-! == of plain data: no truth values, no objects -/
namespace FL
open PySem PySem.Spec PyProof.Rows L2
mutual
def okD : D → Bool
  | .non => true
  | .bl _ => false
  | .int _ => true
  | .str x => PyData.strOk x
  | .tup xs => okDs xs
  | .lst xs => okDs xs
  | .obj _ _ _ => false
  | .dct _ _ => false
  | .ref _ => false
def okDs : List D → Bool
  | [] => true
  | x :: xs => okD x && okDs xs
end
mutual
def dpD : D → Nat
  | .tup xs => dpDs xs + 1
  | .lst xs => dpDs xs + 1
  | _ => 0
def dpDs : List D → Nat
  | [] => 0
  | x :: xs => max (dpD x) (dpDs xs)
end
mutual
theorem ok_py : ∀ (x : D), okD x = true → ∃ p, toPy x = some p ∧ p.canLay0 = true ∧ p.depth = dpD x
  | .non, _ => ⟨.none, by rw [toPy], by rw [PyData.canLay0], by rw [PyData.depth, dpD]; all_goals (intro _ h; cases h)⟩
  | .bl b, h => by rw [okD] at h; cases h
  | .int i, _ => ⟨.int i, by rw [toPy], by rw [PyData.canLay0], by rw [PyData.depth, dpD]; all_goals (intro _ h; cases h)⟩
  | .str x, h => by
    rw [okD] at h
    exact ⟨.str x, by rw [toPy], by rw [PyData.canLay0]; exact h, by rw [PyData.depth, dpD]; all_goals (intro _ h; cases h)⟩
  | .tup xs, h => by
    rw [okD] at h
    obtain ⟨ps, e1, e2, e3⟩ := oks_py xs h
    exact ⟨.tuple ps, by rw [toPy, e1]; rfl, by rw [PyData.canLay0]; exact e2, by rw [PyData.depth, dpD, e3]⟩
  | .lst xs, h => by
    rw [okD] at h
    obtain ⟨ps, e1, e2, e3⟩ := oks_py xs h
    exact ⟨.list ps, by rw [toPy, e1]; rfl, by rw [PyData.canLay0]; exact e2, by rw [PyData.depth, dpD, e3]⟩
  | .obj _ _ _, h => by rw [okD] at h; cases h
  | .dct _ _, h => by rw [okD] at h; cases h
  | .ref _, h => by rw [okD] at h; cases h
theorem oks_py : ∀ (xs : List D), okDs xs = true → ∃ ps, toPys xs = some ps ∧ PyData.canLayAll0 ps = true ∧ PyData.depthAll ps = dpDs xs
  | [], _ => ⟨[], by rw [toPys], by rw [PyData.canLayAll0], by rw [PyData.depthAll, dpDs]⟩
  | x :: xs, h => by
    rw [okDs, Bool.and_eq_true] at h
    obtain ⟨p, a1, a2, a3⟩ := ok_py x h.1
    obtain ⟨ps, b1, b2, b3⟩ := oks_py xs h.2
    exact ⟨p :: ps, by rw [toPys, a1, b1]; rfl, by rw [PyData.canLayAll0, a2, b2]; rfl, by rw [PyData.depthAll, dpDs, a3, b3]⟩
end
mutual
theorem eqv_iff : ∀ (x y : D) (p q : PyData), okD x = true → okD y = true → toPy x = some p → toPy y = some q → (PyData.eqv p q = true ↔ x = y)
  | .non, y, p, q, _, hy, e1, e2 => by
    rw [toPy] at e1
    cases e1
    cases y with
    | non => rw [toPy] at e2; cases e2; rw [PyData.eqv]; exact ⟨fun _ => rfl, fun _ => rfl⟩
    | bl b => rw [okD] at hy; cases hy
    | int i => rw [toPy] at e2; cases e2; rw [PyData.eqv]; exact ⟨fun h => (by cases h), fun h => (by cases h)⟩
    | str i => rw [toPy] at e2; cases e2; rw [PyData.eqv]; exact ⟨fun h => (by cases h), fun h => (by cases h)⟩
    | tup ys => rw [toPy] at e2; obtain ⟨ps, _, rfl⟩ := Option.map_eq_some_iff.mp e2; rw [PyData.eqv]; exact ⟨fun h => (by cases h), fun h => (by cases h)⟩
    | lst ys => rw [toPy] at e2; obtain ⟨ps, _, rfl⟩ := Option.map_eq_some_iff.mp e2; rw [PyData.eqv]; exact ⟨fun h => (by cases h), fun h => (by cases h)⟩
    | obj _ _ _ => rw [okD] at hy; cases hy
    | dct _ _ => rw [okD] at hy; cases hy
    | ref _ => rw [okD] at hy; cases hy
  | .bl b, _, _, _, h, _, _, _ => by rw [okD] at h; cases h
  | .int i, y, p, q, _, hy, e1, e2 => by
    rw [toPy] at e1
    cases e1
    cases y with
    | non => rw [toPy] at e2; cases e2; rw [PyData.eqv]; exact ⟨fun h => (by cases h), fun h => (by cases h)⟩
    | bl b => rw [okD] at hy; cases hy
    | int j => rw [toPy] at e2; cases e2; rw [PyData.eqv, beq_iff_eq]; exact ⟨fun h => (by rw [h]), fun h => (by cases h; rfl)⟩
    | str j => rw [toPy] at e2; cases e2; rw [PyData.eqv]; exact ⟨fun h => (by cases h), fun h => (by cases h)⟩
    | tup ys => rw [toPy] at e2; obtain ⟨ps, _, rfl⟩ := Option.map_eq_some_iff.mp e2; rw [PyData.eqv]; exact ⟨fun h => (by cases h), fun h => (by cases h)⟩
    | lst ys => rw [toPy] at e2; obtain ⟨ps, _, rfl⟩ := Option.map_eq_some_iff.mp e2; rw [PyData.eqv]; exact ⟨fun h => (by cases h), fun h => (by cases h)⟩
    | obj _ _ _ => rw [okD] at hy; cases hy
    | dct _ _ => rw [okD] at hy; cases hy
    | ref _ => rw [okD] at hy; cases hy
  | .str i, y, p, q, _, hy, e1, e2 => by
    rw [toPy] at e1
    cases e1
    cases y with
    | non => rw [toPy] at e2; cases e2; rw [PyData.eqv]; exact ⟨fun h => (by cases h), fun h => (by cases h)⟩
    | bl b => rw [okD] at hy; cases hy
    | int j => rw [toPy] at e2; cases e2; rw [PyData.eqv]; exact ⟨fun h => (by cases h), fun h => (by cases h)⟩
    | str j => rw [toPy] at e2; cases e2; rw [PyData.eqv, beq_iff_eq]; exact ⟨fun h => (by rw [h]), fun h => (by cases h; rfl)⟩
    | tup ys => rw [toPy] at e2; obtain ⟨ps, _, rfl⟩ := Option.map_eq_some_iff.mp e2; rw [PyData.eqv]; exact ⟨fun h => (by cases h), fun h => (by cases h)⟩
    | lst ys => rw [toPy] at e2; obtain ⟨ps, _, rfl⟩ := Option.map_eq_some_iff.mp e2; rw [PyData.eqv]; exact ⟨fun h => (by cases h), fun h => (by cases h)⟩
    | obj _ _ _ => rw [okD] at hy; cases hy
    | dct _ _ => rw [okD] at hy; cases hy
    | ref _ => rw [okD] at hy; cases hy
  | .tup xs, y, p, q, hx, hy, e1, e2 => by
    rw [toPy] at e1
    obtain ⟨ps, e3, rfl⟩ := Option.map_eq_some_iff.mp e1
    rw [okD] at hx
    cases y with
    | non => rw [toPy] at e2; cases e2; rw [PyData.eqv]; exact ⟨fun h => (by cases h), fun h => (by cases h)⟩
    | bl b => rw [okD] at hy; cases hy
    | int j => rw [toPy] at e2; cases e2; rw [PyData.eqv]; exact ⟨fun h => (by cases h), fun h => (by cases h)⟩
    | str j => rw [toPy] at e2; cases e2; rw [PyData.eqv]; exact ⟨fun h => (by cases h), fun h => (by cases h)⟩
    | tup ys =>
      rw [okD] at hy
      rw [toPy] at e2
      obtain ⟨qs, e4, rfl⟩ := Option.map_eq_some_iff.mp e2
      rw [PyData.eqv, eqvs_iff xs ys ps qs hx hy e3 e4]
      exact ⟨fun h => (by rw [h]), fun h => (by cases h; rfl)⟩
    | lst ys => rw [toPy] at e2; obtain ⟨ps, _, rfl⟩ := Option.map_eq_some_iff.mp e2; rw [PyData.eqv]; exact ⟨fun h => (by cases h), fun h => (by cases h)⟩
    | obj _ _ _ => rw [okD] at hy; cases hy
    | dct _ _ => rw [okD] at hy; cases hy
    | ref _ => rw [okD] at hy; cases hy
  | .lst xs, y, p, q, hx, hy, e1, e2 => by
    rw [toPy] at e1
    obtain ⟨ps, e3, rfl⟩ := Option.map_eq_some_iff.mp e1
    rw [okD] at hx
    cases y with
    | non => rw [toPy] at e2; cases e2; rw [PyData.eqv]; exact ⟨fun h => (by cases h), fun h => (by cases h)⟩
    | bl b => rw [okD] at hy; cases hy
    | int j => rw [toPy] at e2; cases e2; rw [PyData.eqv]; exact ⟨fun h => (by cases h), fun h => (by cases h)⟩
    | str j => rw [toPy] at e2; cases e2; rw [PyData.eqv]; exact ⟨fun h => (by cases h), fun h => (by cases h)⟩
    | lst ys =>
      rw [okD] at hy
      rw [toPy] at e2
      obtain ⟨qs, e4, rfl⟩ := Option.map_eq_some_iff.mp e2
      rw [PyData.eqv, eqvs_iff xs ys ps qs hx hy e3 e4]
      exact ⟨fun h => (by rw [h]), fun h => (by cases h; rfl)⟩
    | tup ys => rw [toPy] at e2; obtain ⟨ps, _, rfl⟩ := Option.map_eq_some_iff.mp e2; rw [PyData.eqv]; exact ⟨fun h => (by cases h), fun h => (by cases h)⟩
    | obj _ _ _ => rw [okD] at hy; cases hy
    | dct _ _ => rw [okD] at hy; cases hy
    | ref _ => rw [okD] at hy; cases hy
  | .obj _ _ _, _, _, _, h, _, _, _ => by rw [okD] at h; cases h
  | .dct _ _, _, _, _, h, _, _, _ => by rw [okD] at h; cases h
  | .ref _, _, _, _, h, _, _, _ => by rw [okD] at h; cases h
theorem eqvs_iff : ∀ (xs ys : List D) (ps qs : List PyData), okDs xs = true → okDs ys = true → toPys xs = some ps → toPys ys = some qs → (PyData.eqvAll ps qs = true ↔ xs = ys)
  | [], ys, ps, qs, _, hy, e1, e2 => by
    rw [toPys] at e1
    cases e1
    cases ys with
    | nil => rw [toPys] at e2; cases e2; rw [PyData.eqvAll]; exact ⟨fun _ => rfl, fun _ => rfl⟩
    | cons y ys =>
      rw [toPys] at e2
      obtain ⟨p, _, e2⟩ := Option.bind_eq_some_iff.mp e2
      obtain ⟨ps, _, rfl⟩ := Option.map_eq_some_iff.mp e2
      rw [PyData.eqvAll]
      exact ⟨fun h => (by cases h), fun h => (by cases h)⟩
  | x :: xs, ys, ps, qs, hx, hy, e1, e2 => by
    rw [toPys] at e1
    obtain ⟨p, a1, e1⟩ := Option.bind_eq_some_iff.mp e1
    obtain ⟨ps, a2, rfl⟩ := Option.map_eq_some_iff.mp e1
    rw [okDs, Bool.and_eq_true] at hx
    cases ys with
    | nil => rw [toPys] at e2; cases e2; rw [PyData.eqvAll]; exact ⟨fun h => (by cases h), fun h => (by cases h)⟩
    | cons y ys =>
      rw [okDs, Bool.and_eq_true] at hy
      rw [toPys] at e2
      obtain ⟨q, b1, e2⟩ := Option.bind_eq_some_iff.mp e2
      obtain ⟨qs, b2, rfl⟩ := Option.map_eq_some_iff.mp e2
      rw [PyData.eqvAll, Bool.and_eq_true, eqv_iff x y p q hx.1 hy.1 a1 b1, eqvs_iff xs ys ps qs hx.2 hy.2 a2 b2]
      exact ⟨fun ⟨h1, h2⟩ => (by rw [h1, h2]), fun h => (by cases h; exact ⟨rfl, rfl⟩)⟩
end
theorem shaped_ok {x : D} {p : PyData} (h : okD x = true) (hd : dpD x ≤ 64) (e : toPy x = some p) : SeqAt.shaped p = true := by
  obtain ⟨p', e1, e2, e3⟩ := ok_py x h
  rw [e] at e1
  cases e1
  unfold SeqAt.shaped
  rw [e2, e3, decide_eq_true hd]
  rfl
theorem eqD_ok {x y : D} (hx : okD x = true) (hy : okD y = true) (dx : dpD x ≤ 64) (dy : dpD y ≤ 64) [Decidable (x = y)] : eqD x y = some (decide (x = y)) := by
  obtain ⟨p, e1, _⟩ := ok_py x hx
  obtain ⟨q, e2, _⟩ := ok_py y hy
  unfold eqD
  rw [e1, e2]
  simp only [shaped_ok hx dx e1, shaped_ok hy dy e2, Bool.and_self, if_true]
  congr 1
  have := eqv_iff x y p q hx hy e1 e2
  by_cases h : x = y
  · rw [decide_eq_true h, this.mpr h]
  · rw [decide_eq_false h]
    cases k : PyData.eqv p q
    · rfl
    · exact absurd (this.mp k) h
theorem gEq_ok {x y : D} (hx : okD x = true) (hy : okD y = true) (dx : dpD x ≤ 64) (dy : dpD y ≤ 64) [Decidable (x = y)] : gEq x y = some (.bl (decide (x = y))) := by rw [gEq, eqD_ok hx hy dx dy]; rfl
theorem gNe_ok {x y : D} (hx : okD x = true) (hy : okD y = true) (dx : dpD x ≤ 64) (dy : dpD y ≤ 64) [Decidable (x = y)] : gNe x y = some (.bl (!decide (x = y))) := by rw [gNe, eqD_ok hx hy dx dy]; rfl
theorem any_eqv {x : D} {p : PyData} (hx : okD x = true) (e : toPy x = some p) : ∀ (ys : List D) (qs : List PyData), okDs ys = true → toPys ys = some qs → ((qs.any fun z => PyData.eqv z p) = true ↔ x ∈ ys)
  | [], qs, _, e2 => by
    rw [toPys] at e2
    cases e2
    exact ⟨fun h => (by cases h), fun h => absurd h List.not_mem_nil⟩
  | y :: ys, qs, hy, e2 => by
    rw [okDs, Bool.and_eq_true] at hy
    rw [toPys] at e2
    obtain ⟨q, b1, e2⟩ := Option.bind_eq_some_iff.mp e2
    obtain ⟨qs, b2, rfl⟩ := Option.map_eq_some_iff.mp e2
    rw [List.any_cons, Bool.or_eq_true, eqv_iff y x q p hy.1 hx b1 e, any_eqv hx e ys qs hy.2 b2, List.mem_cons]
    exact ⟨fun h => h.imp Eq.symm id, fun h => h.imp Eq.symm id⟩
theorem inDp_tup {x : D} {ys : List D} (hx : okD x = true) (hy : okDs ys = true) (dx : dpD x ≤ 64) (dy : dpDs ys ≤ 60) [Decidable (x ∈ ys)] : inDp x (.tup ys) = some (decide (x ∈ ys)) := by
  obtain ⟨p, e1, _⟩ := ok_py x hx
  obtain ⟨qs, e2, _⟩ := oks_py ys hy
  have e3 : toPy (.tup ys) = some (.tuple qs) := by rw [toPy, e2]; rfl
  have s1 := shaped_ok hx dx e1
  have s2 := shaped_ok (x := .tup ys) (by rw [okD]; exact hy) (by rw [dpD]; omega) e3
  unfold inDp
  rw [e1, e3]
  simp only [s1, s2, Bool.and_self, if_true]
  congr 1
  have := any_eqv hx e1 ys qs hy e2
  by_cases h : x ∈ ys
  · rw [decide_eq_true h, this.mpr h]
  · rw [decide_eq_false h]
    cases k : qs.any fun z => PyData.eqv z p
    · rfl
    · exact absurd (this.mp k) h
theorem okDs_map {α : Type} (f : α → D) (l : List α) (h : ∀ a ∈ l, okD (f a) = true) : okDs (l.map f) = true := by
  induction l with
  | nil => rfl
  | cons a r ih =>
    rw [List.map_cons, okDs, h a (List.mem_cons_self ..), ih fun b hb => h b (List.mem_cons_of_mem _ hb)]
    rfl
theorem dpDs_map {α : Type} (f : α → D) (l : List α) (n : Nat) (h : ∀ a ∈ l, dpD (f a) ≤ n) : dpDs (l.map f) ≤ n := by
  induction l with
  | nil => rw [List.map_nil, dpDs]; exact Nat.zero_le _
  | cons a r ih =>
    rw [List.map_cons, dpDs]
    exact Nat.max_le.mpr ⟨h a (List.mem_cons_self ..), ih fun b hb => h b (List.mem_cons_of_mem _ hb)⟩
theorem okDs_nums (l : List Int) : okDs (nums l) = true := okDs_map _ _ fun _ _ => rfl
theorem dpDs_nums (l : List Int) : dpDs (nums l) ≤ 0 := dpDs_map _ _ 0 fun _ _ => Nat.le_refl _
theorem nums_inj {l m : List Int} (h : nums l = nums m) : l = m := (List.map_inj_right fun a b e => by cases e; rfl).mp h
theorem map_inj {α β : Type} {f : α → β} (hf : ∀ a b, f a = f b → a = b) {l m : List α} (h : l.map f = m.map f) : l = m := (List.map_inj_right hf).mp h
theorem gEq_lnums (l m : List Int) : gEq (.lst (nums l)) (.lst (nums m)) = some (.bl (decide (l = m))) := by
  have d1 := dpDs_nums l
  have d2 := dpDs_nums m
  have inst : Decidable ((D.lst (nums l)) = .lst (nums m)) := if h : l = m then isTrue (by rw [h]) else isFalse fun e => h (nums_inj (D.lst.inj e))
  rw [gEq_ok (x := .lst (nums l)) (y := .lst (nums m)) (by rw [okD]; exact okDs_nums l) (by rw [okD]; exact okDs_nums m) (by rw [dpD]; omega) (by rw [dpD]; omega)]
  congr 2
  refine decide_eq_decide.mpr ⟨fun e => nums_inj (D.lst.inj e), fun e => by rw [e]⟩
end FL

set_option maxHeartbeats 4000000
/-! more of lists: sorted, list + list, pop, reverse, extend -/
namespace FL
open PySem PySem.Spec PyProof.Rows L2
/-! ### sorted(xs), xs a list or a tuple of data that can be compared -/
def pyOf (d : D) : PyData := (toPy d).getD .none
def isPair0 : PyData → Bool
  | .tuple (_ :: _) => true
  | _ => false
def isFlat0 : PyData → Bool
  | .none => false
  | .tuple _ => false
  | _ => true
def canSort (ds : List D) : Bool := ds.all (fun d => (toPy d).isSome && decide ((pyOf d).depth ≤ 60)) && ((ds.all fun d => ds.all fun e => PySem.W.alike (pyOf d) (pyOf e)) && ((ds.all fun d => isPair0 (pyOf d)) || ds.all fun d => isFlat0 (pyOf d)))
def leD (x y : D) : Bool := PySem.W.dataLe false pyOf x y
def sortD (ds : List D) : List D := ds.mergeSort leD
/-- V's and data that go together -/
def RV2 (K : PySem.W.Frag) (B : Hp) (u : Value) (d : D) : Prop := ∃ v, RelV v u ∧ Rep K B d v
theorem each_of {K : PySem.W.Frag} {B : Hp} : ∀ {ds : List D} {vs : List V} {us : List Value}, Reps K B ds vs → Vals vs us → PySem.W.EachIs (RV2 K B) us ds
  | [], _, _, r, h => by
    rw [reps_nil.mp r] at h
    cases h
    exact .nil
  | d :: ds, _, _, r, h => by
    obtain ⟨v, vs, rfl, r1, r2⟩ := reps_cons.mp r
    cases h with
    | cons h1 h2 => exact .cons ⟨v, h1, r1⟩ (each_of r2 h2)
theorem each_to {K : PySem.W.Frag} {B : Hp} : ∀ {ds : List D} {us : List Value}, PySem.W.EachIs (RV2 K B) us ds → ∃ vs, Vals vs us ∧ Reps K B ds vs
  | _, _, .nil => ⟨[], .nil, reps_nil.mpr rfl⟩
  | _, _, .cons ⟨v, h1, h2⟩ t => by
    obtain ⟨vs, a, b⟩ := each_to t
    exact ⟨v :: vs, .cons h1 a, Reps.cons h2 b⟩
section
variable {prog : Program} {w : World} {A : Around} {E : Value → Shared → Prop} {s : Shared} {β : Type} {vs : List Value} {bs : List β} {enc : β → PyData} {R : Value → β → Prop}
theorem sorted_seq {l : Addr} {T : String} {o : Obj} {n : Nat} {Q : Value → Shared → Prop} (hT : T = "list" ∨ T = "tuple") (ho : s.heap.get? l = some o) (hc : o.cls = .type T) (hd : o.data = .seq vs.toArray n)
    (e : PySem.W.EachIs R vs bs) (er : PySem.W.EachIs (fun v b => ∃ as, Reads s.heap v (enc b) as) vs bs) (hal : PySem.W.AllAlike (bs.map enc)) (hk : PySem.W.Sortable (bs.map enc)) (hL : bs.length ≤ sizeLine) (hu : ∀ b, b ∈ bs → A.units + 3 + (enc b).depth < cLine)
    (h : ∀ (h1 h2 : Heap) (D : Addr) (out : List Value), (∀ b u, s.heap.get? b = some u → h1.get? b = some u) → (∀ b u, h1.get? b = some u → h2.get? b = some u) → h1.objs.size ≤ D → (∃ m, h2.get? D = some (seqObj "list" out.toArray m)) → out.length = bs.length → PySem.W.EachIs R out (bs.mergeSort (PySem.W.dataLe false enc)) → Q (.ref D) { s with heap := h2 }) :
    wpAny (model prog w) A (call (.builtin "sorted") [.ref l]) Q E s := by
  have hlen := e.length
  refine Calls.call_function_entry kind_sorted plain_sorted entry_sorted (args_sorted1 _) ?_
  unfold Builtin.«sorted»
  refine wpAny_bind (m := checkCount "sorted" 1 1 _) (wpAny_pure ?_)
  refine wpAny_bind (wpAny_collect_seq l hT ho hc hd (fun h' kp => ?_) (by rw [List.size_toArray]; omega))
  have eL : vs.toArray.toList = vs := by simp
  rw [eL]
  refine wpAny_bind (wpAny_newList ?_ (by omega))
  have at1 : (h'.push (seqObj "list" vs.toArray 0)).get? h'.objs.size = some (seqObj "list" vs.toArray 0) := Heap.get?_push_size _ rfl
  have keep0 : ∀ b u, h'.get? b = some u → (h'.push (seqObj "list" vs.toArray 0)).get? b = some u := fun b u q => Heap.get?_push_of_some _ q
  have keep1 : ∀ b u, s.heap.get? b = some u → (h'.push (seqObj "list" vs.toArray 0)).get? b = some u := fun b u q => keep0 b u (kp b u q)
  have step : wpAny (model prog w) A.in1 (call (.builtin "list.sort") [.ref h'.objs.size]) (fun _ s' => Q (.ref h'.objs.size) s') E { s with heap := h'.push (seqObj "list" vs.toArray 0) } := by
    refine PySem.W.list_sort_data (enc := enc) (R := R) at1 e ((PySem.W.each_mem er).mono fun v b q => ?_) hal hk hL (fun b hb => ?_) fun out ol oe => ?_
    · obtain ⟨⟨as, r⟩, hb⟩ := q
      refine ⟨as, PyProof.Rows.Reads.keeps keep1 r, fun ha => ?_⟩
      obtain ⟨u, hu'⟩ := PyProof.On.reads_mem_get r _ ha
      exact Nat.lt_irrefl _ (Heap.lt_size (kp _ _ hu'))
    · have := hu b hb
      show A.units + 1 + 1 + _ < _
      omega
    · refine h h' _ h'.objs.size out kp (fun b u q => ?_) (Nat.le_refl _) (sortedHeap_at at1) ol oe
      rw [sortedHeap_old (Nat.ne_of_lt (Heap.lt_size q)) (Heap.lt_size (keep0 b u q))]
      exact keep0 b u q
  exact wpAny_bind (wpAny_holding (wpAny_mono step (fun v s' x => wpAny_pure ⟨_, rfl, x⟩) fun _ _ x => x))
end
def rSortD (K : PySem.W.Frag) : List V → Hp → VK → Prop := fun vs H Q => ∃ (a : Addr) (xs : List V) (ds : List D) (B : Hp), vs = [V.ref a] ∧ (SqL K H a xs ∨ SqT K H a xs) ∧ Same B H ∧ Reps K B ds xs ∧ canSort ds = true ∧ ∀ ys p, Reps K B (sortD ds) ys → H p = none → Q (.ref p) (upd H p (.lst ys))
theorem canSort_of {ds : List D} (h : canSort ds = true) : (∀ d ∈ ds, toPy d = some (pyOf d) ∧ (pyOf d).depth ≤ 60) ∧ PySem.W.AllAlike (ds.map pyOf) ∧ PySem.W.Sortable (ds.map pyOf) := by
  unfold canSort at h
  rw [Bool.and_eq_true, Bool.and_eq_true, List.all_eq_true, List.all_eq_true] at h
  obtain ⟨h1, h2, h3⟩ := h
  refine ⟨fun d hd => ?_, fun x hx y hy => ?_, ?_⟩
  · have q := h1 d hd
    rw [Bool.and_eq_true] at q
    obtain ⟨q1, q2⟩ := q
    refine ⟨?_, of_decide_eq_true q2⟩
    unfold pyOf
    cases e : toPy d with
    | none => rw [e] at q1; cases q1
    | some p => rfl
  · obtain ⟨d, hd, rfl⟩ := List.mem_map.mp hx
    obtain ⟨d', hd', rfl⟩ := List.mem_map.mp hy
    exact List.all_eq_true.mp (h2 d hd) d' hd'
  · rw [Bool.or_eq_true, List.all_eq_true, List.all_eq_true] at h3
    rcases h3 with h3 | h3
    · refine .inl fun x hx => ?_
      obtain ⟨d, hd, rfl⟩ := List.mem_map.mp hx
      have := h3 d hd
      unfold isPair0 at this
      split at this
      · exact ⟨_, _, by assumption⟩
      · cases this
    · refine .inr fun x hx => ?_
      obtain ⟨d, hd, rfl⟩ := List.mem_map.mp hx
      have := h3 d hd
      unfold isFlat0 at this
      split at this
      · cases this
      · cases this
      · rename_i n1 n2
        exact ⟨n1, n2⟩
section
variable {X : Cx}
theorem cr_sortD (hu : X.A.units + 65 < cLine) : CallR X (.builtin "sorted") (rSortD X.K) := by
  intro pins s σ H vs us Q I r h
  obtain ⟨a, xs, ds, B, rfl, hs, bh, rs, hc, q⟩ := h
  obtain ⟨u, rfl, ru⟩ := vals1 r
  obtain rfl : u = Value.ref a := ru
  obtain ⟨c1, c2, c3⟩ := canSort_of hc
  have go : ∀ (its : List Value) (T : String) (o : Obj) (n : Nat), (T = "list" ∨ T = "tuple") → s.heap.get? a = some o → o.cls = .type T → o.data = .seq its.toArray n → Vals xs its → xs.length ≤ sizeLine →
      wpAny (model X.prog X.w) X.A (call (.builtin "sorted") [.ref a]) (EP X pins σ Q) X.xe s := fun its T o n hT ho hcl hd rv hz => by
    have ea := each_of rs rv
    have hl : ds.length ≤ sizeLine := by rw [← rs.length]; exact hz
    refine sorted_seq (enc := pyOf) hT ho hcl hd ea ((PySem.W.each_mem ea).mono fun v d hq => ?_) c2 c3 hl (fun d hd => ?_) fun h1 h2 D out k1 k2 hD hat ol oe => ?_
    · obtain ⟨⟨v', rv', rp⟩, hm⟩ := hq
      exact Dp.reads I (pyOf d) v' v (Dp.mono bh (rp.dp (c1 d hm).1)) rv'
    · have := (c1 d hd).2
      omega
    · obtain ⟨ys, v1, r1⟩ := each_to oe
      have I1 : Inv X pins σ H { s with heap := h1 } := I.kept (t' := s.toks) k1
      obtain ⟨m, hm⟩ := hat
      have ln : ys.length ≤ sizeLine := by
        have a1 := v1.length
        omega
      exact ⟨.ref D, upd H D (.lst ys), I1.laid (t' := s.toks) k2 hD (show ObjOk X.prog X.w _ h2 D (.lst ys) from ⟨ln, out, m, v1, hm⟩), rfl, q ys D r1 (I1.hok.fresh hD)⟩
  rcases hs with hs | hs
  · obtain ⟨its, rv, hl, hz⟩ := I.list hs
    obtain ⟨o, ho, hcl, n, hd⟩ := hl.isList
    exact go its "list" o n (.inl rfl) ho hcl hd rv hz
  · obtain ⟨its, rv, hl, hz⟩ := I.tuple hs
    obtain ⟨o, ho, hcl, n, hd⟩ := hl
    exact go its "tuple" o n (.inr rfl) ho hcl hd rv hz
end
def gSorted : List D → Option (List D)
  | [.tup xs] => if canSort xs = true then some (sortD xs) else none
  | [.lst xs] => if canSort xs = true then some (sortD xs) else none
  | _ => none
theorem pure_sorted {K : PySem.W.Frag} : PureCN K (rSortD K) gSorted := by
  intro B H xs z vs Q bh e rs q
  unfold gSorted at e
  split at e
  · split at e
    · rename_i c
      cases e
      obtain ⟨v, rfl, r⟩ := reps_1 rs
      obtain ⟨p, us, rfl, hs, ru⟩ := rep_tup.mp r
      exact ⟨p, us, _, B, rfl, .inr (seqT bh hs), bh, ru, c, fun ys l r1 hl => q l ys hl r1⟩
    · cases e
  · split at e
    · rename_i c
      cases e
      obtain ⟨v, rfl, r⟩ := reps_1 rs
      obtain ⟨p, us, rfl, hs, ru⟩ := rep_lst.mp r
      exact ⟨p, us, _, B, rfl, .inl (bh.seq hs), bh, ru, c, fun ys l r1 hl => q l ys hl r1⟩
    · cases e
  · cases e
end FL

set_option maxHeartbeats 4000000
/-! list + list; pop, reverse, extend of an own list -/
namespace FL
open PySem PySem.Spec PyProof.Rows L2
open AutoSeq1 in
theorem meets_cat (l b : Addr) (o u : Obj) (xs ys : Array Value) (n m : Nat) (ho : o.cls = .type "list") (hu : u.cls = .type "list") (hx : o.data = .seq xs n) (hy : u.data = .seq ys m) (hz : xs.size + ys.size ≤ sizeLine) :
    Meets (Builtin.«list.__add__» ⟨[.ref l, .ref b], []⟩) (fun _ R s => s.heap.get? l = some o ∧ s.heap.get? b = some u ∧ R (.ok (.ret (.ref s.heap.objs.size))) { s with heap := s.heap.push { cls := .type "list", data := .seq (xs ++ ys) } }) := by
  obtain ⟨oc, od, oa, os⟩ := o
  obtain ⟨uc, ud, ua, us⟩ := u
  cases ho
  cases hu
  cases hx
  cases hy
  refine .of_wp fun prog w A R s h => ?_
  obtain ⟨hp, g, d, tk, os⟩ := s
  obtain ⟨h1, h2, h3⟩ := h
  have f1 := AutoSeq1.idx_int
  have f2 := AutoSeq1.sub_list_list
  wp_walk using wpAny_loadPart' h1, wpAny_loadPart' h2
  exact ⟨_, rfl, h3⟩
open AutoSeq1 in
theorem meets_ext (l b : Addr) (u : Obj) (xs ys : Array Value) (n m : Nat) (hu : u.cls = .type "list" ∨ u.cls = .type "tuple") (hy : u.data = .seq ys m) (hs : ¬(!xs.isEmpty && Builtin.List.listTooLong (xs.size + ys.size)) = true) (h1 : xs.size ≤ sizeLine) (hz : xs.size + ys.size ≤ sizeLine + 1) :
    Meets (Builtin.«list.extend» ⟨[.ref l, .ref b], []⟩) (fun _ R s => s.heap.get? l = some { cls := .type "list", dict := none, data := .seq xs n, slots := #[] } ∧ s.heap.get? b = some u ∧ R (.ok (.ret Value.none)) { s with heap := s.heap.update l (Obj.mapSeq fun x => x ++ ys) }) := by
  obtain ⟨uc, ud, ua, us⟩ := u
  cases hy
  rcases hu with hu | hu <;> cases hu <;>
  · refine .of_wp fun prog w A R s h => ?_
    obtain ⟨hp, g, d, tk, os⟩ := s
    obtain ⟨hl, hb, h⟩ := h
    have f1 := AutoSeq1.idx_int
    have f2 := AutoSeq1.sub_tuple_tuple
    have f3 := AutoSeq1.sub_list_list
    have f4 := AutoSeq1.sub_tuple_list
    have f5 := AutoSeq1.sub_list_tuple
    have hz2 : (xs ++ ys).size ≤ sizeLine + 1 := by rw [Array.size_append]; exact hz
    wp_walk using (wpAny_updateSeq hl rfl (hz := h1) (_hz' := hz2)), wpAny_loadPart' hl, wpAny_loadPart' hb
    exact ⟨_, rfl, h⟩
def rCatL (K : PySem.W.Frag) : R2 := fun x y H Q => ∃ a b xs ys, x = .ref a ∧ y = .ref b ∧ SqL K H a xs ∧ SqL K H b ys ∧ xs.length + ys.length ≤ sizeLine ∧ ∀ p, H p = none → Q (.ref p) (upd H p (.lst (xs ++ ys)))
section
variable {X : Cx}
theorem op_catL : OpR X (binaryOp .Add) (rCatL X.K) := by
  intro pins s σ H x y v u Q I rx ry h
  obtain ⟨a, b, xs, ys, rfl, rfl, ha, hb, hz, q⟩ := h
  cases rx
  cases ry
  obtain ⟨is, r1, ⟨o, n, e1, c1, _, d1⟩, z1⟩ := I.list ha
  obtain ⟨js, r2, ⟨o2, m, e2, c2, _, d2⟩, z2⟩ := I.list hb
  have l1 := r1.length
  have l2 := r2.length
  have hsum : is.toArray.size + js.toArray.size ≤ sizeLine := by rw [List.size_toArray, List.size_toArray]; omega
  refine PySem.concat_meets ⟨_, e1, c1⟩ ⟨_, e2, c2⟩ noFill_list_add seq_list_add F.slot_list_add F.entry_list_add (F.args_list_add_2 _ _) (meets_cat a b o o2 _ _ n m c1 c2 d1 d2 hsum) ⟨e1, e2, ?_⟩
  have ea : is.toArray ++ js.toArray = (is ++ js).toArray := by simp
  rw [ea]
  exact ⟨.ref _, _, I.lnew (t' := s.toks) (r1.append r2) (by rw [List.length_append]; omega), rfl, q _ I.fresh⟩
def rExtA (K : PySem.W.Frag) : V → List V → Hp → VK → Prop := fun x vs H Q => ∃ l b xs ys, x = .ref l ∧ vs = [.ref b] ∧ H l = some (.lst xs) ∧ (SqL K H b ys ∨ SqT K H b ys) ∧ xs.length + ys.length ≤ sizeLine ∧ Q .non (upd H l (.lst (xs ++ ys)))
theorem mt_extA : MtM X "list.extend" (rExtA X.K) := by
  intro pins s σ H x vs v us Q I rx rv h
  obtain ⟨l, b, xs, ys, rfl, rfl, hl, hb, hz, q⟩ := h
  cases rx
  obtain ⟨w, rfl, rw1⟩ := rv.one
  cases rw1
  obtain ⟨z, is, n, r1, e1, h1⟩ := I.lstM hl
  obtain ⟨o2, m, js, r2, e2, c2, d2⟩ : ∃ (o2 : Obj) (m : Nat) (js : List Value), Vals ys js ∧ s.heap.get? b = some o2 ∧ (o2.cls = .type "list" ∨ o2.cls = .type "tuple") ∧ o2.data = .seq js.toArray m := by
    rcases hb with hb | hb
    · obtain ⟨js, r2, ⟨o2, m, e2, c2, _, d2⟩, _⟩ := I.list hb
      exact ⟨o2, m, js, r2, e2, .inl c2, d2⟩
    · obtain ⟨js, r2, ⟨o2, e2, c2, m, d2⟩, _⟩ := I.tuple hb
      exact ⟨o2, m, js, r2, e2, .inr c2, d2⟩
  have l2 := r2.length
  have hsum : is.toArray.size + js.toArray.size ≤ sizeLine := by rw [List.size_toArray, List.size_toArray]; omega
  have hlong : ¬ (!is.toArray.isEmpty && Builtin.List.listTooLong (is.toArray.size + js.toArray.size)) = true := by
    rw [notLongL hsum, Bool.and_false]
    exact Bool.false_ne_true
  refine PySem.call_meets F.slot_list_extend ⟨_, h1, rfl⟩ F.entry_list_extend (F.args_list_extend_2 _ _) (meets_ext l b o2 is.toArray js.toArray n m c2 d2 hlong (by omega) (by omega)) ⟨h1, e2, ?_⟩
  exact ⟨.non, _, I.lset (its' := is ++ js) hl h1 (by simp) (r1.append r2) (by rw [List.length_append]; omega), rfl, q⟩
end
def Pure2N (K : PySem.W.Frag) (r : R2) (g : D → D → Option (List D)) : Prop := ∀ {B H : Hp} {x y : D} {zs : List D} {v u : V} (Q : VK), Same B H → g x y = some zs → Rep K B x v → Rep K B y u → (∀ p us, H p = none → Reps K B zs us → Q (.ref p) (upd H p (.lst us))) → r v u H Q
def fopN (g : D → D → Option (List D)) (fa fb : PS1 → Option (R D)) : PS1 → Option (R (List D)) := fun s => bnd (fa s) fun x => bnd (fb s) fun y => lft (g x y)
def gCatL : D → D → Option (List D)
  | .lst xs, .lst ys => if xs.length + ys.length ≤ 100000 then some (xs ++ ys) else none
  | _, _ => none
theorem pure_catL {K : PySem.W.Frag} : Pure2N K (rCatL K) gCatL := by
  intro B H x y zs v u Q bh e rv ru q
  unfold gCatL at e
  split at e
  · split at e
    · rename_i c
      cases e
      obtain ⟨a, vs, rfl, h1, r1⟩ := rep_lst.mp rv
      obtain ⟨b, us, rfl, h2, r2⟩ := rep_lst.mp ru
      exact ⟨a, b, vs, us, rfl, rfl, bh.seq h1, bh.seq h2, by rw [r1.length, r2.length]; exact Nat.le_trans c (by decide), fun p hp => q p _ hp (r1.append r2)⟩
    · cases e
  · cases e
section
variable {X : Cx} {W : WX} {e a b : Expr} {pos : Pos} {fe fa fb : PS1 → Option (R D)}
theorem dn_op {op : Operator} {r : R2} {g : D → D → Option (List D)} (ho : OpR X (binaryOp op) r) (hp : Pure2N X.K r g) (ha : DE X W a fa) (hb : DE X W b fb) : DN X W (.BinOp a op b pos) (fopN g fa fb) :=
  PE.imp (pe_op ho ha hb) fun σ H Q ⟨B, h⟩ => ⟨B, (Run.bind h).imp fun x B1 H1 e1 h1 v rv => ⟨B1, (Run.bind h1).imp fun y B2 H2 e2 h2 u ru => by
    obtain ⟨zs, hz, q⟩ := Run.lifted h2
    exact hp Q h2.same hz (rv.mono e2.b) ru fun p us hn rs => q _ _ (Ext.own h2.same hn) p us ((e1.trans e2).h.free hn) (h2.same.free hn) upd_same rs⟩⟩
theorem dn_cat (ha : DE X W a fa) (hb : DE X W b fb) : DN X W (.BinOp a .Add b pos) (fopN gCatL fa fb) := dn_op op_catL pure_catL ha hb
/-- xs.pop(), xs.reverse(): what is told is dropped -/
def fPop (i : Nat) : PS1 → Option Fl := fun s => match s[i]? with
  | some (.own xs) => if xs.isEmpty = true then none else some (.nx (s.set i (.own xs.dropLast)))
  | _ => none
theorem Reps.dropLast {K : PySem.W.Frag} {B : Hp} {ds : List D} {vs : List V} (r : Reps K B ds vs) : Reps K B ds.dropLast vs.dropLast := by
  rw [List.dropLast_eq_take, List.dropLast_eq_take, r.length]
  exact r.take _
theorem Reps.reverse {K : PySem.W.Frag} {B : Hp} : ∀ {ds : List D} {vs : List V}, Reps K B ds vs → Reps K B ds.reverse vs.reverse
  | [], _, r => by rw [reps_nil.mp r]; exact reps_nil.mpr rfl
  | d :: ds, _, r => by
    obtain ⟨v, vs, rfl, r1, r2⟩ := reps_cons.mp r
    rw [List.reverse_cons, List.reverse_cons]
    exact r2.reverse.append (Reps.one r1)
theorem ds_pop (i : Nat) {x : Str} {p apos cpos pos : Pos} (hm : PE X (.Call (.Attribute (.Name x p) "pop" apos) [] [] cpos) (tBM0 X.K "list" rPop (tVar i)))
    (hs : swapsWith (.Call (.Attribute (.Name x p) "pop" apos) [] [] cpos) none pos.line X.env = pure false := by rfl) : DS X W (.Expr (.Call (.Attribute (.Name x p) "pop" apos) [] [] cpos) pos) (fPop i) :=
  PS.imp (ps_expr hm hs) fun D σ H ⟨B0, H0, B, ad, s, r, g, hf, hq⟩ => by
    unfold fPop at hf
    split at hf
    · rename_i xs e
      split at hf
      · cases hf
      · rename_i hne
        cases hf
        obtain ⟨hv, hb, hn, vs, hh, rs⟩ := g.at_own e
        have hl : 0 < vs.length := by
          rw [rs.length]
          cases xs with
          | nil => exact absurd rfl hne
          | cons _ _ => exact Nat.succ_pos _
        refine ⟨_, hv, .inl ⟨rfl, vs, SqL.of hh⟩, ad i, vs, _, rfl, rfl, hh, List.getElem?_eq_getElem (by omega), ?_⟩
        exact hq _ _ _ _ (Same.refl _) (g.mut e rfl (fun H1 h1 => ⟨hv, hb, _, h1, rs.dropLast⟩) rfl hb)
    · cases hf
def fRev (i : Nat) : PS1 → Option Fl := fun s => match s[i]? with
  | some (.own xs) => some (.nx (s.set i (.own xs.reverse)))
  | _ => none
theorem ds_rev (i : Nat) {x : Str} {p apos cpos pos : Pos} (hm : PE X (.Call (.Attribute (.Name x p) "reverse" apos) [] [] cpos) (tBM0 X.K "list" rReverse (tVar i)))
    (hs : swapsWith (.Call (.Attribute (.Name x p) "reverse" apos) [] [] cpos) none pos.line X.env = pure false := by rfl) : DS X W (.Expr (.Call (.Attribute (.Name x p) "reverse" apos) [] [] cpos) pos) (fRev i) :=
  PS.imp (ps_expr hm hs) fun D σ H ⟨B0, H0, B, ad, s, r, g, hf, hq⟩ => by
    unfold fRev at hf
    split at hf
    · rename_i xs e
      cases hf
      obtain ⟨hv, hb, hn, vs, hh, rs⟩ := g.at_own e
      refine ⟨_, hv, .inl ⟨rfl, vs, SqL.of hh⟩, ad i, vs, rfl, rfl, hh, ?_⟩
      exact hq _ _ _ _ (Same.refl _) (g.mut e rfl (fun H1 h1 => ⟨hv, hb, _, h1, rs.reverse⟩) rfl hb)
    · cases hf
/-- xs.extend(e), xs an own list -/
def fExt (i : Nat) (fe : PS1 → Option (R D)) : PS1 → Option Fl := fun s => match s[i]? with
  | some (.own xs) => fEx fe (fun d s => (seqOf d).bind fun ys => if xs.length + ys.length ≤ 100000 then some (.nx (s.set i (.own (xs ++ ys)))) else none) s
  | _ => none
theorem ds_ext (i : Nat) {x : Str} {p apos cpos pos : Pos} (hm : PE X (.Call (.Attribute (.Name x p) "extend" apos) [e] [] cpos) (tBM X.K "list" (rExtA X.K) (tVar i) (tCons (tD X.K W fe) tNil)))
    (hs : swapsWith (.Call (.Attribute (.Name x p) "extend" apos) [e] [] cpos) none pos.line X.env = pure false := by rfl) : DS X W (.Expr (.Call (.Attribute (.Name x p) "extend" apos) [e] [] cpos) pos) (fExt i fe) :=
  PS.imp (ps_expr hm hs) fun D σ H ⟨B0, H0, B, ad, s, r, g, hf, hq⟩ => by
    unfold fExt at hf
    split at hf
    · rename_i xs es
      obtain ⟨hv, hb, hn, vs, hh, rs⟩ := g.at_own es
      refine ⟨_, hv, .inl ⟨rfl, vs, SqL.of hh⟩, ?_⟩
      refine ⟨B, (ex_run g hf hq).imp fun d B' H' _ ⟨x, e2⟩ v rv => ?_⟩
      obtain ⟨ys, e3, e4⟩ := Option.bind_eq_some_iff.mp e2
      split at e4
      · rename_i hz
        cases e4
        have g' := g.mono x
        obtain ⟨b, us, rfl, hsq, ru⟩ := seqOf_rep e3 rv
        refine ⟨ad i, b, vs, us, rfl, rfl, x.h _ _ hh, hsq.imp x.bh.seq (seqT x.bh) |> fun q => ?_, ?_, ?_⟩
        · exact hsq.imp g'.sl.bh.seq (seqT g'.sl.bh)
        · rw [rs.length, ru.length]; exact Nat.le_trans hz (by decide)
        · exact hq _ _ _ _ x.b (g'.mut es rfl (fun H1 h1 => ⟨hv, x.alive hb hh, _, h1, (rs.mono x.b).append ru⟩) rfl (x.alive hb hh))
      · cases e4
    · cases hf
end
end FL
namespace FL
open PySem PySem.Spec PyProof.Rows L2
section
variable {X : Cx} {W : WX} {e a b : Expr} {pos : Pos} {fe fa fb : PS1 → Option (R D)}
/-- x[k], x an own list: its item as it is -/
def fIxO (i : Nat) (fk : PS1 → Option (R D)) : PS1 → Option (R D) := fun s => match s[i]? with
  | some (.own xs) => bnd (fk s) fun k => match k with
    | .int n => lft (atI xs n)
    | _ => none
  | _ => fop gIx (fVar i) fk s
theorem de_ixO (i : Nat) {x : Str} {p : Pos} (hv : PE X (.Name x p) (tVar i)) (ha : DE X W (.Name x p) (fVar i)) (hb : DE X W b fb) (hs : PlainIx b) : DE X W (.Subscript (.Name x p) b pos) (fIxO i fb) := by
  refine PE.imp (pe_or2 (pe_ix ix_seq hv hb hs) (pe_ix ix_seq ha hb hs)) fun σ H Q ⟨B, ad, s, r, hsl, hf, hq⟩ => ?_
  unfold fIxO at hf
  split at hf
  · rename_i xs es
    obtain ⟨h1, h2, vs, h3, rs⟩ := hsl.ok i _ es
    have h4 : Run X.K W σ (RV X.K Q) (fun s => bnd (fb s) fun k => match k with
      | .int n => lft (atI xs n)
      | _ => none) B H := ⟨ad, s, r, hsl, hf, hq⟩
    refine .inl ⟨_, h1, B, (Run.bind h4).imp fun k B1 H1 e1 g1 u ru => ?_⟩
    cases k with
    | int n =>
      obtain ⟨d, hd, q⟩ := Run.lifted g1
      obtain ⟨w, hw, rw1⟩ := atI_rep (rs.mono e1.b) hd
      exact .inl ⟨ad i, vs, n, w, rfl, rep_int.mp ru, SqL.of (e1.h _ _ h3), hw, q B1 H1 (Ext.refl g1.same) w rw1⟩
    | _ => obtain ⟨_, _, _, _, hf, _⟩ := g1; cases hf
  · exact .inr (tD_op pure_ix ⟨B, ad, s, r, hsl, hf, hq⟩)
/-- if x, x an own list -/
def fTrO (i : Nat) : PS1 → Option (R Bool) := fun s => match s[i]? with
  | some (.own xs) => some (.ok (!xs.isEmpty))
  | _ => fTr (fVar i) s
theorem dt_own (i : Nat) (h : DT X W e (fTr (fVar i))) : DT X W e (fTrO i) := by
  refine PT.imp h fun σ H Q ⟨B, ad, s, r, hs, hf, hq⟩ => ?_
  unfold fTrO at hf
  split at hf
  · rename_i xs es
    obtain ⟨B', sb, g'⟩ := (Good.of_slots hs).frz (i := i)
    cases hf
    refine ⟨B', ad, _, .ok (!xs.isEmpty), g'.sl, ?_, fun B2 H2 x => hq B H2 ⟨Same.refl _, x.h, hs.bh.trans x.h, fun _ q _ => q⟩⟩
    have hi : i < s.length := (List.getElem?_eq_some_iff.mp es).1
    unfold fTr fVar getv frz
    rw [es]
    simp only [List.getElem?_set_self hi]
    rfl
  · exact ⟨B, ad, s, r, hs, hf, hq⟩
end
end FL
namespace FL
open PySem PySem.Spec PyProof.Rows L2
section
variable (i : Nat) (s : PS1) (fk fe fa fb : PS1 → Option (R D)) (g : D → D → Option (List D))
theorem r_ixO : fIxO i fk s = match s[i]? with
  | some (.own xs) => bnd (fk s) fun k => (match k with
    | .int n => lft (atI xs n)
    | _ => none)
  | _ => fop gIx (fVar i) fk s := (rfl)
theorem r_trO : fTrO i s = match s[i]? with
  | some (.own xs) => some (.ok (!xs.isEmpty))
  | _ => fTr (fVar i) s := (rfl)
theorem r_pop : fPop i s = match s[i]? with
  | some (.own xs) => if xs.isEmpty = true then none else some (.nx (s.set i (.own xs.dropLast)))
  | _ => none := (rfl)
theorem r_rev : fRev i s = match s[i]? with
  | some (.own xs) => some (.nx (s.set i (.own xs.reverse)))
  | _ => none := (rfl)
theorem r_opN : fopN g fa fb s = bnd (fa s) fun x => bnd (fb s) fun y => lft (g x y) := (rfl)
theorem r_ext : fExt i fe s = match s[i]? with
  | some (.own xs) => (match fe s with
    | some (.ok d) => (seqOf d).bind fun ys => if xs.length + ys.length ≤ 100000 then some (.nx (s.set i (.own (xs ++ ys)))) else none
    | some (.er x) => some (.er x s)
    | none => none)
  | _ => none := by
  unfold fExt fEx
  cases s[i]? with
  | none => rfl
  | some x => cases x with
    | own xs => cases fe s with
      | none => rfl
      | some r => cases r <;> rfl
    | _ => rfl
theorem r_setIx : fSetIx i fk fe s = match s[i]? with
  | some (.own xs) => (match fe s with
    | some (.ok d) => (match fk s with
      | some (.ok (.int n)) => (setIxD xs n d).map fun ys => .nx (s.set i (.own ys))
      | some (.ok _) => none
      | some (.er x) => some (.er x s)
      | none => none)
    | some (.er x) => some (.er x s)
    | none => none)
  | _ => none := by
  unfold fSetIx fEx
  cases s[i]? with
  | none => rfl
  | some x => cases x with
    | own xs => cases fe s with
      | none => rfl
      | some r => cases r with
        | er x => rfl
        | ok d =>
          dsimp only
          cases fk s with
          | none => rfl
          | some q => cases q with
            | er x => rfl
            | ok k => cases k <;> rfl
    | _ => rfl
end
/-! a slice of a tuple, a list or a text -/
section
variable {X : Cx} {W : WX} {e : Expr} {pos : Pos} {fe : PS1 → Option (R D)}
def fSlA (fe : PS1 → Option (R D)) (fl fh : PS1 → Option (R (Option Int))) : PS1 → Option (R D) := fun s => match fSlT fe fl fh s with
  | some r => some r
  | none => fLst (fSlL fe fl fh) s
theorem de_slA {lo hi : Option Expr} {p2 : Pos} {fl fh : PS1 → Option (R (Option Int))} (he : DE X W e fe) (hl : DO X W lo fl) (hh : DO X W hi fh) : DE X W (.Subscript e (.Slice lo hi none p2) pos) (fSlA fe fl fh) :=
  PE.imp (pe_or2 (de_slT he hl hh) (DN.de (dn_slL he hl hh))) fun σ H Q ⟨B, ad, s, r, hs, hf, hq⟩ => by
    unfold fSlA at hf
    split at hf
    · cases hf
      exact .inl ⟨B, ad, s, _, hs, by assumption, hq⟩
    · exact .inr ⟨B, ad, s, r, hs, hf, hq⟩
theorem slA_T {fl fh : PS1 → Option (R (Option Int))} {s : PS1} {xs : List D} {lo hi : Option Int} (h1 : fe s = some (.ok (.tup xs))) (h2 : fl s = some (.ok lo)) (h3 : fh s = some (.ok hi)) : fSlA fe fl fh s = some (.ok (.tup (cutD xs lo hi))) := by
  unfold fSlA fSlT
  rw [h1, h2, h3]
  rfl
theorem slA_L {fl fh : PS1 → Option (R (Option Int))} {s : PS1} {xs : List D} {lo hi : Option Int} (h1 : fe s = some (.ok (.lst xs))) (h2 : fl s = some (.ok lo)) (h3 : fh s = some (.ok hi)) : fSlA fe fl fh s = some (.ok (.lst (cutD xs lo hi))) := by
  unfold fSlA fSlT fLst fSlL
  rw [h1, h2, h3]
  rfl
end
end FL

set_option maxHeartbeats 4000000
/-! rows of spans -/
namespace FL
open PySem PySem.Spec PyProof.Rows L2
abbrev Seg := Int × Int
def spD (s : Seg) : D := .tup [.int s.1, .int s.2]
def spsD (l : List Seg) : List D := l.map spD
theorem spsD_len (l : List Seg) : (spsD l).length = l.length := List.length_map ..
theorem spsD_app (l m : List Seg) : spsD (l ++ m) = spsD l ++ spsD m := List.map_append
def inS (t : Int) (s : Seg) : Bool := decide (s.1 ≤ t) && decide (t < s.2)
def hitS (l : List Seg) (t : Int) : Bool := l.any (inS t)
theorem inS_iff {t : Int} {s : Seg} : inS t s = true ↔ s.1 ≤ t ∧ t < s.2 := by
  unfold inS
  rw [Bool.and_eq_true, decide_eq_true_eq, decide_eq_true_eq]
theorem hit_iff {l : List Seg} {t : Int} : hitS l t = true ↔ ∃ s ∈ l, s.1 ≤ t ∧ t < s.2 := by
  unfold hitS
  rw [List.any_eq_true]
  exact ⟨fun ⟨s, h, e⟩ => ⟨s, h, inS_iff.mp e⟩, fun ⟨s, h, e⟩ => ⟨s, h, inS_iff.mpr e⟩⟩
theorem hit_nil (t : Int) : hitS [] t = false := rfl
theorem hit_cons (s : Seg) (l : List Seg) (t : Int) : hitS (s :: l) t = (inS t s || hitS l t) := rfl
theorem hit_app (l m : List Seg) (t : Int) : hitS (l ++ m) t = (hitS l t || hitS m t) := List.any_append
/-- tidy, nothing below x -/
def TidyF : Int → List Seg → Prop
  | _, [] => True
  | x, s :: r => x ≤ s.1 ∧ s.1 < s.2 ∧ TidyF (s.2 + 1) r
def Tidy (l : List Seg) : Prop := ∃ x, TidyF x l
def Valid (l : List Seg) : Prop := ∀ s ∈ l, s.1 < s.2
theorem TidyF.mono {x y : Int} (h : y ≤ x) : ∀ {l : List Seg}, TidyF x l → TidyF y l
  | [], _ => trivial
  | _ :: _, ⟨a, b, c⟩ => ⟨Int.le_trans h a, b, c⟩
theorem TidyF.low {t : Int} : ∀ {l : List Seg} {x : Int}, TidyF x l → hitS l t = true → x ≤ t
  | [], _, _, e => by cases e
  | s :: r, x, ⟨a, b, c⟩, e => by
    rw [hit_cons, Bool.or_eq_true, inS_iff] at e
    rcases e with e | e
    · omega
    · have := TidyF.low c e
      omega
theorem TidyF.valid : ∀ {l : List Seg} {x : Int}, TidyF x l → Valid l
  | [], _, _ => fun s h => absurd h List.not_mem_nil
  | s :: r, x, ⟨a, b, c⟩ => fun u h => by
    rcases List.mem_cons.mp h with e | e
    · rw [e]; exact b
    · exact TidyF.valid c u e
theorem Tidy.valid {l : List Seg} (h : Tidy l) : Valid l := by
  obtain ⟨x, h⟩ := h
  exact h.valid
theorem TidyF.starts : ∀ {l : List Seg} {x : Int}, TidyF x l → ∀ s ∈ l, x ≤ s.1
  | [], _, _, s, h => absurd h List.not_mem_nil
  | s :: r, x, ⟨a, b, c⟩, u, h => by
    rcases List.mem_cons.mp h with e | e
    · rw [e]; exact a
    · have := TidyF.starts c u e
      omega
/-- one set of instants, one tidy row -/
theorem tidy_uniq : ∀ {l m : List Seg} {x y : Int}, TidyF x l → TidyF y m → (∀ t, hitS l t = hitS m t) → l = m
  | [], [], _, _, _, _, _ => rfl
  | [], s :: m, _, _, _, ⟨_, b, _⟩, h => by
    have := h s.1
    rw [hit_cons, inS_iff.mpr ⟨Int.le_refl _, b⟩] at this
    cases this
  | s :: l, [], _, _, ⟨_, b, _⟩, _, h => by
    have := h s.1
    rw [hit_cons, inS_iff.mpr ⟨Int.le_refl _, b⟩] at this
    cases this
  | s :: l, u :: m, x, y, ⟨a, b, c⟩, ⟨a', b', c'⟩, h => by
    have start : ∀ {v w : Seg} {p q : List Seg}, v.1 < v.2 → w.1 < w.2 → TidyF (w.2 + 1) q → (∀ t, hitS (v :: p) t = hitS (w :: q) t) → w.1 ≤ v.1 := fun {v w p q} hv hw hq hh => by
      have e := hh v.1
      rw [hit_cons, inS_iff.mpr ⟨Int.le_refl _, hv⟩, Bool.true_or, hit_cons] at e
      have e := e.symm
      rw [Bool.or_eq_true, inS_iff] at e
      rcases e with e | e
      · exact e.1
      · have := TidyF.low hq e
        omega
    have e1 : s.1 = u.1 := Int.le_antisymm (start b' b c fun t => (h t).symm) (start b b' c' h)
    have stop : ∀ {v w : Seg} {p q : List Seg}, v.1 = w.1 → v.1 < v.2 → TidyF (v.2 + 1) p → (∀ t, hitS (v :: p) t = hitS (w :: q) t) → w.2 ≤ v.2 := fun {v w p q} e hv hp hh => by
      rcases Int.lt_or_le v.2 w.2 with g | g
      · exfalso
        have k := hh v.2
        rw [hit_cons w, inS_iff.mpr ⟨by omega, g⟩, Bool.true_or, hit_cons, Bool.or_eq_true, inS_iff] at k
        rcases k with k | k
        · omega
        · have := TidyF.low hp k
          omega
      · exact g
    have e2 : s.2 = u.2 := Int.le_antisymm (stop e1.symm b' c' fun t => (h t).symm) (stop e1 b c h)
    have e3 : s = u := Prod.ext e1 e2
    subst e3
    have e4 : l = m := tidy_uniq c c' fun t => by
      have k := h t
      rw [hit_cons, hit_cons] at k
      cases g : inS t s with
      | false => rw [g] at k; exact k
      | true =>
        have g1 := inS_iff.mp g
        have n1 : hitS l t = false := by
          cases q : hitS l t with
          | false => rfl
          | true => have := TidyF.low c q; omega
        have n2 : hitS m t = false := by
          cases q : hitS m t with
          | false => rfl
          | true => have := TidyF.low c' q; omega
        rw [n1, n2]
    rw [e4]
theorem Tidy.uniq {l m : List Seg} (hl : Tidy l) (hm : Tidy m) (h : ∀ t, hitS l t = hitS m t) : l = m := by
  obtain ⟨x, hl⟩ := hl
  obtain ⟨y, hm⟩ := hm
  exact tidy_uniq hl hm h
/-! ### merged -/
def mergeGo : Seg → List Seg → List Seg
  | cur, [] => [cur]
  | cur, s :: r => if cur.2 < s.1 then cur :: mergeGo s r else mergeGo (cur.1, if cur.2 < s.2 then s.2 else cur.2) r
def mergeS : List Seg → List Seg
  | [] => []
  | s :: r => mergeGo s r
theorem mergeGo_len : ∀ (r : List Seg) (cur : Seg), (mergeGo cur r).length ≤ r.length + 1
  | [], _ => Nat.le_refl _
  | s :: r, cur => by
    unfold mergeGo
    split
    · have := mergeGo_len r s
      simp only [List.length_cons]
      omega
    · have := mergeGo_len r (cur.1, if cur.2 < s.2 then s.2 else cur.2)
      simp only [List.length_cons]
      omega
theorem mergeGo_ok : ∀ (r : List Seg) (cur : Seg), cur.1 < cur.2 → Valid r → r.Pairwise (fun a b => a.1 ≤ b.1) → (∀ s ∈ r, cur.1 ≤ s.1) → TidyF cur.1 (mergeGo cur r) ∧ ∀ t, hitS (mergeGo cur r) t = (inS t cur || hitS r t)
  | [], cur, h, _, _, _ => ⟨⟨Int.le_refl _, h, trivial⟩, fun t => rfl⟩
  | s :: r, cur, h, hv, hs, hl => by
    have v1 := hv s (List.mem_cons_self ..)
    have vr : Valid r := fun u hu => hv u (List.mem_cons_of_mem _ hu)
    obtain ⟨s1, s2⟩ := List.pairwise_cons.mp hs
    have l1 := hl s (List.mem_cons_self ..)
    unfold mergeGo
    split
    · rename_i g
      obtain ⟨a, b⟩ := mergeGo_ok r s v1 vr s2 s1
      refine ⟨⟨Int.le_refl _, h, a.mono (by omega)⟩, fun t => ?_⟩
      rw [hit_cons, b t, hit_cons]
    · rename_i g
      obtain ⟨a, b⟩ := mergeGo_ok r (cur.1, if cur.2 < s.2 then s.2 else cur.2) (by show cur.1 < _; split <;> omega) vr s2 fun u hu => hl u (List.mem_cons_of_mem _ hu)
      refine ⟨a, fun t => ?_⟩
      rw [b t, hit_cons, ← Bool.or_assoc]
      congr 1
      rw [Bool.eq_iff_iff, Bool.or_eq_true, inS_iff, inS_iff, inS_iff]
      show (cur.1 ≤ t ∧ t < (if cur.2 < s.2 then s.2 else cur.2)) ↔ _
      split <;> omega
/-! sorted -/
def leS (a b : Seg) : Bool := decide (a.1 < b.1 ∨ (a.1 = b.1 ∧ a.2 ≤ b.2))
def sortS (l : List Seg) : List Seg := l.mergeSort leS
theorem leS_total (a b : Seg) : (leS a b || leS b a) = true := by
  unfold leS
  rw [Bool.or_eq_true, decide_eq_true_eq, decide_eq_true_eq]
  omega
theorem leS_trans (a b d : Seg) (h : leS a b = true) (g : leS b d = true) : leS a d = true := by
  unfold leS at h g ⊢
  rw [decide_eq_true_eq] at h g ⊢
  omega
theorem sortS_pairs (l : List Seg) : (sortS l).Pairwise (fun a b => a.1 ≤ b.1) := by
  refine (List.pairwise_mergeSort leS_trans leS_total l).imp fun h => ?_
  unfold leS at h
  rw [decide_eq_true_eq] at h
  omega
theorem sortS_perm (l : List Seg) : (sortS l).Perm l := List.mergeSort_perm l leS
theorem pyOf_sp (s : Seg) : pyOf (spD s) = .tuple [.int s.1, .int s.2] := by
  unfold pyOf spD
  simp [toPy, toPys]
theorem toPy_sp (s : Seg) : toPy (spD s) = some (.tuple [.int s.1, .int s.2]) := by
  unfold spD
  simp [toPy, toPys]
theorem leD_sp (a b : Seg) : leD (spD a) (spD b) = leS a b := by
  unfold leD
  rw [PySem.W.dataLe_eq]
  show (!PySem.W.dataLt (pyOf (spD b)) (pyOf (spD a))) = _
  rw [pyOf_sp, pyOf_sp, PySem.W.dataLt_ii]
  unfold leS
  rw [Bool.eq_iff_iff, Bool.not_eq_true', decide_eq_false_iff_not, decide_eq_true_eq]
  omega
theorem sortD_sps (l : List Seg) : sortD (spsD l) = spsD (sortS l) := by
  unfold sortD spsD sortS
  exact (List.map_mergeSort fun a _ b _ => (leD_sp a b).symm).symm
theorem canSort_sps (l : List Seg) : canSort (spsD l) = true := by
  unfold canSort
  have a1 : ((spsD l).all fun d => (toPy d).isSome && decide ((pyOf d).depth ≤ 60)) = true := List.all_eq_true.mpr fun d hd => by
    obtain ⟨s, _, rfl⟩ := List.mem_map.mp hd
    rw [toPy_sp, pyOf_sp]
    simp [PyData.depth, PyData.depthAll]
  have a2 : ((spsD l).all fun d => (spsD l).all fun e => PySem.W.alike (pyOf d) (pyOf e)) = true := List.all_eq_true.mpr fun d hd => List.all_eq_true.mpr fun e he => by
    obtain ⟨s, _, rfl⟩ := List.mem_map.mp hd
    obtain ⟨u, _, rfl⟩ := List.mem_map.mp he
    rw [pyOf_sp, pyOf_sp]
    simp [PySem.W.alike, PySem.W.alikeAll]
  have a3 : ((spsD l).all fun d => isPair0 (pyOf d)) = true := List.all_eq_true.mpr fun d hd => by
    obtain ⟨s, _, rfl⟩ := List.mem_map.mp hd
    rw [pyOf_sp]
    rfl
  rw [a1, a2, a3]
  rfl
def mergedS (l : List Seg) : List Seg := mergeS (sortS l)
theorem hit_perm {l m : List Seg} (h : l.Perm m) (t : Int) : hitS l t = hitS m t := by
  rw [Bool.eq_iff_iff, hit_iff, hit_iff]
  exact ⟨fun ⟨s, a, b⟩ => ⟨s, h.mem_iff.mp a, b⟩, fun ⟨s, a, b⟩ => ⟨s, h.mem_iff.mpr a, b⟩⟩
theorem mergedS_ok {l : List Seg} (hv : Valid l) : Tidy (mergedS l) ∧ ∀ t, hitS (mergedS l) t = hitS l t := by
  have hp := sortS_perm l
  have hs := sortS_pairs l
  have hv2 : Valid (sortS l) := fun s h => hv s (hp.mem_iff.mp h)
  unfold mergedS
  cases e : sortS l with
  | nil =>
    refine ⟨⟨0, trivial⟩, fun t => ?_⟩
    rw [← hit_perm hp t, e]
    rfl
  | cons s r =>
    rw [e] at hs hv2 hp
    obtain ⟨s1, s2⟩ := List.pairwise_cons.mp hs
    obtain ⟨a, b⟩ := mergeGo_ok r s (hv2 s (List.mem_cons_self ..)) (fun u hu => hv2 u (List.mem_cons_of_mem _ hu)) s2 s1
    refine ⟨⟨_, a⟩, fun t => ?_⟩
    rw [← hit_perm hp t, hit_cons]
    exact b t
theorem mergedS_id {l : List Seg} (h : Tidy l) : mergedS l = l := by
  obtain ⟨a, b⟩ := mergedS_ok h.valid
  exact a.uniq h b
theorem okD_sp (s : Seg) : okD (spD s) = true := by simp [spD, okD, okDs]
theorem dpD_sp (s : Seg) : dpD (spD s) ≤ 1 := by simp [spD, dpD, dpDs]
theorem spD_inj {a b : Seg} (h : spD a = spD b) : a = b := by
  unfold spD at h
  simp only [D.tup.injEq, List.cons.injEq, D.int.injEq, and_true] at h
  exact Prod.ext h.1 h.2
theorem spsD_inj {l m : List Seg} (h : spsD l = spsD m) : l = m := map_inj (fun _ _ => spD_inj) h
theorem okDs_sps (l : List Seg) : okDs (spsD l) = true := okDs_map _ _ fun s _ => okD_sp s
theorem dpDs_sps (l : List Seg) : dpDs (spsD l) ≤ 1 := dpDs_map _ _ 1 fun s _ => dpD_sp s
theorem gEq_Lsps (l m : List Seg) : gEq (.lst (spsD l)) (.lst (spsD m)) = some (.bl (decide (l = m))) := by
  have d1 := dpDs_sps l
  have d2 := dpDs_sps m
  have inst : Decidable ((D.lst (spsD l)) = .lst (spsD m)) := if h : l = m then isTrue (by rw [h]) else isFalse fun e => h (spsD_inj (D.lst.inj e))
  rw [gEq_ok (x := .lst (spsD l)) (y := .lst (spsD m)) (by rw [okD]; exact okDs_sps l) (by rw [okD]; exact okDs_sps m) (by rw [dpD]; omega) (by rw [dpD]; omega)]
  exact congrArg (fun b => some (D.bl b)) (decide_eq_decide.mpr ⟨fun e => spsD_inj (D.lst.inj e), fun e => by rw [e]⟩)
theorem gEq_Tsps (l m : List Seg) : gEq (.tup (spsD l)) (.tup (spsD m)) = some (.bl (decide (l = m))) := by
  have d1 := dpDs_sps l
  have d2 := dpDs_sps m
  have inst : Decidable ((D.tup (spsD l)) = .tup (spsD m)) := if h : l = m then isTrue (by rw [h]) else isFalse fun e => h (spsD_inj (D.tup.inj e))
  rw [gEq_ok (x := .tup (spsD l)) (y := .tup (spsD m)) (by rw [okD]; exact okDs_sps l) (by rw [okD]; exact okDs_sps m) (by rw [dpD]; omega) (by rw [dpD]; omega)]
  exact congrArg (fun b => some (D.bl b)) (decide_eq_decide.mpr ⟨fun e => spsD_inj (D.tup.inj e), fun e => by rw [e]⟩)
theorem gNe_of {x y : D} {b : Bool} (h : gEq x y = some (.bl b)) : gNe x y = some (.bl (!b)) := by
  unfold gEq at h
  obtain ⟨k, e, e2⟩ := Option.map_eq_some_iff.mp h
  cases e2
  unfold gNe
  rw [e]
  rfl
theorem gNe_Lsps (l m : List Seg) : gNe (.lst (spsD l)) (.lst (spsD m)) = some (.bl (!decide (l = m))) := gNe_of (gEq_Lsps l m)
theorem gNe_Tsps (l m : List Seg) : gNe (.tup (spsD l)) (.tup (spsD m)) = some (.bl (!decide (l = m))) := gNe_of (gEq_Tsps l m)
theorem gCatL_sps (l m : List Seg) (h : l.length + m.length ≤ 100000) : gCatL (.lst (spsD l)) (.lst (spsD m)) = some (spsD (l ++ m)) := by
  show (if (spsD l).length + (spsD m).length ≤ 100000 then some (spsD l ++ spsD m) else none) = _
  rw [spsD_len, spsD_len, if_pos h, spsD_app]
theorem gCatL_nums (l m : List Int) (h : l.length + m.length ≤ 100000) : gCatL (.lst (nums l)) (.lst (nums m)) = some (nums (l ++ m)) := by
  show (if (nums l).length + (nums m).length ≤ 100000 then some (nums l ++ nums m) else none) = _
  rw [nums_length, nums_length, if_pos h, nums_append]
theorem cutD_sps (l : List Seg) (lo hi : Option Int) : ∃ m, cutD (spsD l) lo hi = spsD m ∧ m.length ≤ l.length ∧ ∀ s ∈ m, s ∈ l := by
  refine ⟨(l.drop (HT.sIx (spsD l).length 0 lo)).take (HT.sIx (spsD l).length (spsD l).length hi - HT.sIx (spsD l).length 0 lo), ?_, ?_, fun s h => List.mem_of_mem_drop (List.mem_of_mem_take h)⟩
  · unfold cutD spsD
    rw [List.map_take, List.map_drop]
  · rw [List.length_take, List.length_drop]
    omega
theorem gMax_nums (x : Int) (l : List Int) : ∃ m, gMax [.lst (nums (x :: l))] = some (.int m) ∧ m ∈ x :: l ∧ ∀ y ∈ x :: l, y ≤ m := by
  obtain ⟨h1, h2, h3⟩ := foldl_max_le l x
  refine ⟨l.foldl max x, ?_, ?_, fun y hy => ?_⟩
  · show (intsOf (nums (x :: l))).bind (fun ns => (maxI ns).map D.int) = _
    rw [intsOf_ints]
    rfl
  · rcases h3 with e | e
    · rw [e]; exact List.mem_cons_self ..
    · exact List.mem_cons_of_mem _ e
  · rcases List.mem_cons.mp hy with e | e
    · rw [e]; exact h1
    · exact h2 y e
theorem TidyF.raise {x y : Int} {l : List Seg} (h : TidyF x l) (g : ∀ s ∈ l, y ≤ s.1) : TidyF y l := by
  cases l with
  | nil => trivial
  | cons s r => exact ⟨g s (List.mem_cons_self ..), h.2.1, h.2.2⟩
/-- bounds by the instants -/
theorem hit_bounds {l m : List Seg} {lo hi : Int} (hv : Valid m) (hh : ∀ t, hitS m t = hitS l t) (hl : ∀ s ∈ l, lo ≤ s.1 ∧ s.2 ≤ hi) : ∀ s ∈ m, lo ≤ s.1 ∧ s.2 ≤ hi := fun s hs => by
  have v := hv s hs
  have a := hit_iff.mpr ⟨s, hs, Int.le_refl _, v⟩
  rw [hh] at a
  obtain ⟨u, hu, u1, u2⟩ := hit_iff.mp a
  have b := hit_iff.mpr ⟨s, hs, show s.1 ≤ s.2 - 1 by omega, show s.2 - 1 < s.2 by omega⟩
  rw [hh] at b
  obtain ⟨w, hw, w1, w2⟩ := hit_iff.mp b
  have := hl u hu
  have := hl w hw
  omega
def shiftS (by_ : Int) (l : List Seg) : List Seg := l.map fun s => (s.1 + by_, s.2 + by_)
theorem shift_mem {k : Int} {l : List Seg} {s : Seg} (h : s ∈ shiftS k l) : ∃ u ∈ l, s = (u.1 + k, u.2 + k) := by
  obtain ⟨u, hu, e⟩ := List.mem_map.mp h
  exact ⟨u, hu, e.symm⟩
theorem shift_tidy (k : Int) : ∀ (l : List Seg) {x : Int}, TidyF x l → TidyF (x + k) (shiftS k l)
  | [], _, _ => trivial
  | s :: r, x, ⟨a, b, c⟩ => by
    have := shift_tidy k r c
    refine ⟨by show x + k ≤ s.1 + k; omega, by show s.1 + k < s.2 + k; omega, ?_⟩
    rw [show s.2 + 1 + k = s.2 + k + 1 by omega] at this
    exact this
theorem shift_hit (k t : Int) (l : List Seg) : hitS (shiftS k l) t = hitS l (t - k) := by
  rw [Bool.eq_iff_iff, hit_iff, hit_iff]
  constructor
  · rintro ⟨s, hs, h1, h2⟩
    obtain ⟨u, hu, rfl⟩ := shift_mem hs
    exact ⟨u, hu, by dsimp only at h1 h2; omega, by dsimp only at h1 h2; omega⟩
  · rintro ⟨s, hs, h1, h2⟩
    exact ⟨_, List.mem_map_of_mem hs, by dsimp only; omega, by dsimp only; omega⟩
theorem mergedS_len (l : List Seg) : (mergedS l).length ≤ l.length := by
  have e := (sortS_perm l).length_eq
  unfold mergedS
  cases q : sortS l with
  | nil => exact Nat.zero_le _
  | cons s r =>
    have := mergeGo_len r s
    rw [q] at e
    simp only [List.length_cons] at e
    show (mergeGo s r).length ≤ _
    omega
end FL

set_option maxHeartbeats 4000000
/-! rows of spans: cut, gaps, common -/
namespace FL
open PySem PySem.Spec PyProof.Rows L2
/-- what ends at t or before, what ends behind it -/
theorem tidy_split (t : Int) : ∀ {l : List Seg} {x : Int}, TidyF x l → ∃ A R, l = A ++ R ∧ (∀ s ∈ A, s.2 ≤ t) ∧ ∀ s ∈ R, t < s.2
  | [], _, _ => ⟨[], [], rfl, fun s h => absurd h List.not_mem_nil, fun s h => absurd h List.not_mem_nil⟩
  | s :: r, x, ⟨a, b, c⟩ => by
    by_cases h : s.2 ≤ t
    · obtain ⟨A, R, e, h1, h2⟩ := tidy_split t c
      exact ⟨s :: A, R, by rw [e]; rfl, fun u hu => (List.mem_cons.mp hu).elim (fun e => by rw [e]; exact h) (h1 u), h2⟩
    · refine ⟨[], s :: r, rfl, fun s h => absurd h List.not_mem_nil, fun u hu => ?_⟩
      rcases List.mem_cons.mp hu with e | e
      · rw [e]; omega
      · have := TidyF.starts c u e
        have := TidyF.valid c u e
        omega
theorem TidyF.right : ∀ {A R : List Seg} {x : Int}, TidyF x (A ++ R) → TidyF x R
  | [], _, _, h => h
  | s :: A, R, x, ⟨a, b, c⟩ => (TidyF.right (A := A) c).mono (by omega)
theorem TidyF.left : ∀ {A R : List Seg} {x : Int}, TidyF x (A ++ R) → TidyF x A
  | [], _, _, _ => trivial
  | s :: A, R, x, ⟨a, b, c⟩ => ⟨a, b, TidyF.left c⟩
def clip (a b : Int) (s : Seg) : Seg := (if a > s.1 then a else s.1, if b < s.2 then b else s.2)
def inCut (a b : Int) (s : Seg) : Bool := decide (a < s.2) && decide (s.1 < b)
def cutRows (a b : Int) (l : List Seg) : List Seg := l.filter (inCut a b)
def cutG (a b : Int) (l : List Seg) : List Seg := if b ≤ a then [] else (cutRows a b l).map (clip a b)
theorem cutRows_len (a b : Int) (l : List Seg) : (cutRows a b l).length ≤ l.length := List.length_filter_le _ _
theorem cutG_len (a b : Int) (l : List Seg) : (cutG a b l).length ≤ l.length := by
  unfold cutG
  split
  · exact Nat.zero_le _
  · rw [List.length_map]
    exact cutRows_len a b l
theorem cutRows_cons (a b : Int) (s : Seg) (l : List Seg) : cutRows a b (s :: l) = if a < s.2 ∧ s.1 < b then s :: cutRows a b l else cutRows a b l := by
  unfold cutRows
  by_cases h : a < s.2 ∧ s.1 < b
  · rw [if_pos h, List.filter_cons_of_pos (by unfold inCut; rw [decide_eq_true h.1, decide_eq_true h.2]; rfl)]
  · rw [if_neg h, List.filter_cons_of_neg fun e => h (by
      unfold inCut at e
      rw [Bool.and_eq_true, decide_eq_true_eq, decide_eq_true_eq] at e
      exact e)]
theorem cut_ok {a b : Int} (hab : a < b) : ∀ {l : List Seg} {x : Int}, TidyF x l → TidyF x ((cutRows a b l).map (clip a b)) ∧ (∀ s ∈ (cutRows a b l).map (clip a b), a ≤ s.1 ∧ s.2 ≤ b) ∧ ∀ t, hitS ((cutRows a b l).map (clip a b)) t = (decide (a ≤ t) && (decide (t < b) && hitS l t))
  | [], _, _ => ⟨trivial, fun s h => absurd h List.not_mem_nil, fun t => by show false = _; rw [hit_nil, Bool.and_false, Bool.and_false]⟩
  | s :: l, x, ⟨h1, h2, h3⟩ => by
    obtain ⟨i1, i2, i3⟩ := cut_ok hab h3
    have key : ∀ t, hitS (s :: l) t = true ↔ (s.1 ≤ t ∧ t < s.2) ∨ hitS l t = true := fun t => by rw [hit_cons, Bool.or_eq_true, inS_iff]
    rw [cutRows_cons]
    split
    · rename_i h
      have c1 : (clip a b s).1 = if a > s.1 then a else s.1 := rfl
      have c2 : (clip a b s).2 = if b < s.2 then b else s.2 := rfl
      refine ⟨⟨by rw [c1]; split <;> omega, by rw [c1, c2]; split <;> split <;> omega, i1.mono (by rw [c2]; split <;> omega)⟩, fun u hu => ?_, fun t => ?_⟩
      · rcases List.mem_cons.mp hu with e | e
        · rw [e, c1, c2]
          split <;> split <;> omega
        · exact i2 u e
      · rw [List.map_cons, hit_cons, i3 t, Bool.eq_iff_iff, Bool.or_eq_true, Bool.and_eq_true, Bool.and_eq_true, Bool.and_eq_true, Bool.and_eq_true, decide_eq_true_eq, decide_eq_true_eq, key t, inS_iff, c1, c2]
        constructor
        · rintro (⟨k1, k2⟩ | ⟨k1, k2, k3⟩)
          · revert k1 k2
            split <;> split <;> intro k1 k2 <;> exact ⟨by omega, by omega, .inl ⟨by omega, by omega⟩⟩
          · exact ⟨k1, k2, .inr k3⟩
        · rintro ⟨k1, k2, ⟨k3, k4⟩ | k3⟩
          · left
            split <;> split <;> constructor <;> omega
          · exact .inr ⟨k1, k2, k3⟩
    · rename_i h
      refine ⟨i1.mono (by omega), i2, fun t => ?_⟩
      rw [i3 t, Bool.eq_iff_iff, Bool.and_eq_true, Bool.and_eq_true, Bool.and_eq_true, Bool.and_eq_true, decide_eq_true_eq, decide_eq_true_eq, key t]
      constructor
      · rintro ⟨k1, k2, k3⟩
        exact ⟨k1, k2, .inr k3⟩
      · rintro ⟨k1, k2, k3 | k3⟩
        · omega
        · exact ⟨k1, k2, k3⟩
theorem cutG_ok {a b x : Int} {l : List Seg} (h : TidyF x l) : TidyF x (cutG a b l) ∧ TidyF a (cutG a b l) ∧ (∀ s ∈ cutG a b l, a ≤ s.1 ∧ s.2 ≤ b) ∧ ∀ t, hitS (cutG a b l) t = (decide (a ≤ t) && (decide (t < b) && hitS l t)) := by
  unfold cutG
  split
  · rename_i q
    refine ⟨trivial, trivial, fun s h => absurd h List.not_mem_nil, fun t => ?_⟩
    rw [hit_nil]
    by_cases h1 : a ≤ t
    · rw [decide_eq_false (show ¬ t < b by omega), Bool.false_and, Bool.and_false]
    · rw [decide_eq_false h1, Bool.false_and]
  · rename_i q
    obtain ⟨i1, i2, i3⟩ := cut_ok (show a < b by omega) h
    exact ⟨i1, i1.raise fun s hs => (i2 s hs).1, i2, i3⟩
/-- the slice that is looked at: what ends behind a, to the first one that ends behind b -/
theorem cut_slice {a b : Int} (hab : a < b) {l : List Seg} {x : Int} (h : TidyF x l) {A R A2 R2 : List Seg} (e1 : l = A ++ R) (e2 : l = A2 ++ R2) (hA : ∀ s ∈ A, s.2 ≤ a) (hR : ∀ s ∈ R, a < s.2) (hA2 : ∀ s ∈ A2, s.2 ≤ b) (hR2 : ∀ s ∈ R2, b < s.2) :
    ∃ B : List Seg, (l.drop A.length).take (A2.length + 1 - A.length) = B ++ R2.take 1 ∧ (∀ s ∈ B, a < s.2 ∧ s.2 ≤ b ∧ s.1 < b) ∧ cutRows a b l = B ++ (R2.take 1).filter (fun s => decide (s.1 < b)) := by
  have len : A.length ≤ A2.length := by
    rcases Nat.lt_or_ge A2.length A.length with q | q
    · exfalso
      have g1 : l[A2.length]? = R2[0]? := by rw [e2, List.getElem?_append_right (Nat.le_refl _), Nat.sub_self]
      have g2 : l[A2.length]? = A[A2.length]? := by rw [e1, List.getElem?_append_left q]
      rw [g1, List.getElem?_eq_getElem q] at g2
      have m1 := List.mem_of_getElem? g2
      have := hR2 _ m1
      have := hA _ (List.getElem_mem q)
      omega
    · exact q
  obtain ⟨B, eB⟩ : ∃ B, A2 = A ++ B := by
    have p1 : A <+: l := ⟨R, e1.symm⟩
    have p2 : A2 <+: l := ⟨R2, e2.symm⟩
    obtain ⟨B, hB⟩ := List.prefix_of_prefix_length_le p1 p2 len
    exact ⟨B, hB.symm⟩
  subst eB
  have eR : R = B ++ R2 := by
    rw [e1, List.append_assoc] at e2
    exact List.append_cancel_left e2
  have hB : ∀ s ∈ B, a < s.2 ∧ s.2 ≤ b ∧ s.1 < b := fun s hs => by
    have v : s.1 < s.2 := h.valid s (by rw [e1, eR]; simp [hs])
    have := hR s (by rw [eR]; simp [hs])
    have := hA2 s (by simp [hs])
    omega
  refine ⟨B, ?_, hB, ?_⟩
  · rw [e1, List.drop_left, eR, List.length_append, show A.length + B.length + 1 - A.length = B.length + 1 by omega, List.take_append, List.take_of_length_le (by omega), show B.length + 1 - B.length = 1 by omega]
  · have f1 : cutRows a b A = [] := List.filter_eq_nil_iff.mpr fun s hs e => by
      unfold inCut at e
      rw [Bool.and_eq_true, decide_eq_true_eq] at e
      have := hA s hs
      omega
    have f2 : cutRows a b B = B := List.filter_eq_self.mpr fun s hs => by
      have := hB s hs
      unfold inCut
      rw [decide_eq_true this.1, decide_eq_true this.2.2]
      rfl
    have f3 : cutRows a b R2 = (R2.take 1).filter (fun s => decide (s.1 < b)) := by
      have hr2 : TidyF x R2 := by rw [e2] at h; exact h.right
      cases R2 with
      | nil => rfl
      | cons w r =>
        have hw := hR2 w (List.mem_cons_self ..)
        have f4 : cutRows a b r = [] := List.filter_eq_nil_iff.mpr fun s hs e => by
          unfold inCut at e
          rw [Bool.and_eq_true, decide_eq_true_eq, decide_eq_true_eq] at e
          have := TidyF.starts hr2.2.2 s hs
          omega
        rw [cutRows_cons, f4]
        show _ = [w].filter _
        by_cases q : w.1 < b
        · rw [if_pos ⟨by omega, q⟩]
          simp [q]
        · rw [if_neg fun e => q e.2]
          simp [q]
    have : cutRows a b (A ++ (B ++ R2)) = cutRows a b A ++ (cutRows a b B ++ cutRows a b R2) := by
      unfold cutRows
      rw [List.filter_append, List.filter_append]
    rw [e1, eR, this, f1, f2, f3]
    rfl
/-- only the first one and the last one are clipped -/
theorem clip_mid {a b : Int} {s : Seg} (h1 : a ≤ s.1) (h2 : s.2 ≤ b) : clip a b s = s := by
  unfold clip
  rw [if_neg (by omega), if_neg (by omega)]
theorem clip_one (a b : Int) (s : Seg) : clip a b s = (if a > s.1 then a else s.1, if b < s.2 then b else s.2) := rfl
theorem clip_many {a b : Int} {s w : Seg} {mid : List Seg} {x : Int} (h : TidyF x (s :: (mid ++ [w]))) (h1 : a < s.2) (h2 : w.1 < b) : (s :: (mid ++ [w])).map (clip a b) = (if a > s.1 then a else s.1, s.2) :: (mid ++ [(w.1, if b < w.2 then b else w.2)]) := by
  obtain ⟨g1, g2, g3⟩ := h
  have gw : s.2 + 1 ≤ w.1 := TidyF.starts g3 w (by simp)
  have e1 : clip a b s = (if a > s.1 then a else s.1, s.2) := by
    unfold clip
    rw [if_neg (show ¬ b < s.2 by omega)]
  have e2 : clip a b w = (w.1, if b < w.2 then b else w.2) := by
    unfold clip
    rw [if_neg (show ¬ a > w.1 by omega)]
  have e3 : mid.map (clip a b) = mid := by
    have : ∀ u ∈ mid, clip a b u = u := fun u hu => by
      have k1 := TidyF.starts g3 u (by simp [hu])
      have k2 : ∀ {m : List Seg} {y : Int}, TidyF y (m ++ [w]) → ∀ u ∈ m, u.2 < w.1 := fun {m} => by
        induction m with
        | nil => intro y _ u hu; exact absurd hu List.not_mem_nil
        | cons v m ih =>
          intro y hy u hu
          obtain ⟨p1, p2, p3⟩ := hy
          rcases List.mem_cons.mp hu with e | e
          · have := TidyF.starts p3 w (by simp)
            rw [e]
            omega
          · exact ih p3 u e
      have := k2 g3 u hu
      exact clip_mid (by omega) (by omega)
    exact (List.map_congr_left this).trans (List.map_id _)
  rw [List.map_cons, List.map_append, e1, e3, List.map_cons, e2]
  rfl
/-! ### gaps -/
def gapGo (stop : Int) : Int → List Seg → List Seg
  | at_, [] => if at_ < stop then [(at_, stop)] else []
  | at_, s :: r => (if s.1 > at_ then [(at_, s.1)] else []) ++ gapGo stop s.2 r
theorem gapGo_len (stop : Int) : ∀ (r : List Seg) (at_ : Int), (gapGo stop at_ r).length ≤ r.length + 1
  | [], at_ => by unfold gapGo; split <;> simp
  | s :: r, at_ => by
    have := gapGo_len stop r s.2
    unfold gapGo
    rw [List.length_append]
    split <;> simp only [List.length_cons, List.length_nil] <;> omega
theorem gapGo_ok (stop : Int) : ∀ (r : List Seg) (at_ : Int), at_ ≤ stop → TidyF at_ r → (∀ s ∈ r, s.2 ≤ stop) → TidyF at_ (gapGo stop at_ r) ∧ ∀ t, hitS (gapGo stop at_ r) t = (decide (at_ ≤ t) && (decide (t < stop) && !hitS r t))
  | [], at_, h0, _, _ => by
    unfold gapGo
    split
    · rename_i h
      refine ⟨⟨Int.le_refl _, h, trivial⟩, fun t => ?_⟩
      rw [hit_nil, Bool.not_false, Bool.and_true, hit_cons, hit_nil, Bool.or_false]
      rfl
    · rename_i h
      refine ⟨trivial, fun t => ?_⟩
      rw [hit_nil, Bool.not_false, Bool.and_true]
      by_cases q : at_ ≤ t
      · rw [decide_eq_false (show ¬ t < stop by omega), Bool.and_false]
      · rw [decide_eq_false q, Bool.false_and]
  | s :: r, at_, h0, ⟨h1, h2, h3⟩, hb => by
    have hs := hb s (List.mem_cons_self ..)
    obtain ⟨i1, i2⟩ := gapGo_ok stop r s.2 hs (h3.mono (by omega)) fun u hu => hb u (List.mem_cons_of_mem _ hu)
    have low : ∀ t, hitS r t = true → s.2 + 1 ≤ t := fun t e => TidyF.low h3 e
    have fin : ∀ t, hitS (gapGo stop at_ (s :: r)) t = ((decide (s.1 > at_) && (decide (at_ ≤ t) && decide (t < s.1))) || hitS (gapGo stop s.2 r) t) := fun t => by
      have eg : gapGo stop at_ (s :: r) = (if s.1 > at_ then [(at_, s.1)] else []) ++ gapGo stop s.2 r := rfl
      rw [eg, hit_app]
      generalize gapGo stop s.2 r = z
      split
      · rename_i h
        rw [decide_eq_true h, Bool.true_and, hit_cons, hit_nil, Bool.or_false]
        rfl
      · rename_i h
        rw [decide_eq_false h, Bool.false_and, hit_nil]
    refine ⟨?_, fun t => ?_⟩
    · unfold gapGo
      split
      · rename_i h
        exact ⟨Int.le_refl _, h, i1.mono (by show s.1 + 1 ≤ s.2; omega)⟩
      · exact i1.mono (by omega)
    · rw [fin t, i2 t, hit_cons]
      have hl := low t
      cases q : hitS r t with
      | true =>
        have := hl q
        rw [Bool.eq_iff_iff]
        simp only [Bool.or_eq_true, Bool.and_eq_true, Bool.not_eq_true', Bool.or_true, decide_eq_true_eq, Bool.not_true, Bool.and_false, Bool.or_false, Bool.false_eq_true, iff_false]
        omega
      | false =>
        rw [Bool.or_false, Bool.eq_iff_iff]
        have e : (inS t s = false) ↔ ¬ (s.1 ≤ t ∧ t < s.2) := by rw [← inS_iff, Bool.not_eq_true]
        simp only [Bool.or_eq_true, Bool.and_eq_true, Bool.not_eq_true', decide_eq_true_eq, Bool.not_false, Bool.and_true, e]
        omega
def gapsS (a b : Int) (l : List Seg) : List Seg := gapGo b a (cutG a b l)
theorem gapsS_ok {a b x : Int} {l : List Seg} (hab : a ≤ b) (h : TidyF x l) : TidyF a (gapsS a b l) ∧ (∀ s ∈ gapsS a b l, a ≤ s.1 ∧ s.2 ≤ b) ∧ ∀ t, hitS (gapsS a b l) t = (decide (a ≤ t) && (decide (t < b) && !hitS l t)) := by
  obtain ⟨_, i1, i2, i3⟩ := cutG_ok (a := a) (b := b) h
  obtain ⟨j1, j2⟩ := gapGo_ok b (cutG a b l) a hab i1 fun s hs => (i2 s hs).2
  have j3 : ∀ t, hitS (gapsS a b l) t = (decide (a ≤ t) && (decide (t < b) && !hitS l t)) := fun t => by
    unfold gapsS
    rw [j2 t, i3 t]
    cases decide (a ≤ t) <;> cases decide (t < b) <;> cases hitS l t <;> rfl
  refine ⟨j1, fun s hs => ?_, j3⟩
  have v := j1.valid s hs
  have k1 := hit_iff.mpr ⟨s, hs, Int.le_refl _, v⟩
  have k2 := hit_iff.mpr ⟨s, hs, show s.1 ≤ s.2 - 1 by omega, show s.2 - 1 < s.2 by omega⟩
  rw [j3, Bool.and_eq_true, Bool.and_eq_true, decide_eq_true_eq, decide_eq_true_eq] at k1 k2
  omega
/-! ### common -/
def emitS (a b : Int) : List Seg := if a < b then [(a, b)] else []
def comGo : List Seg → List Seg → List Seg
  | s :: r, u :: q => if s.2 ≤ u.2 then emitS (if u.1 > s.1 then u.1 else s.1) s.2 ++ comGo r (u :: q) else emitS (if u.1 > s.1 then u.1 else s.1) u.2 ++ comGo (s :: r) q
  | [], _ => []
  | _ :: _, [] => []
termination_by l m => l.length + m.length
theorem com_nil (m : List Seg) : comGo [] m = [] := by unfold comGo; rfl
theorem com_nilR (l : List Seg) : comGo l [] = [] := by cases l <;> (unfold comGo; rfl)
theorem com_cons (s u : Seg) (r q : List Seg) : comGo (s :: r) (u :: q) = if s.2 ≤ u.2 then emitS (if u.1 > s.1 then u.1 else s.1) s.2 ++ comGo r (u :: q) else emitS (if u.1 > s.1 then u.1 else s.1) u.2 ++ comGo (s :: r) q := by
  rw [comGo]
theorem emit_hit (a b t : Int) : hitS (emitS a b) t = (decide (a ≤ t) && decide (t < b)) := by
  unfold emitS
  split
  · rw [hit_cons, hit_nil, Bool.or_false]
    rfl
  · rename_i h
    rw [hit_nil]
    by_cases q : a ≤ t
    · rw [decide_eq_false (show ¬ t < b by omega), Bool.and_false]
    · rw [decide_eq_false q, Bool.false_and]
theorem emit_tidy {a b x y : Int} {l : List Seg} (hx : x ≤ a) (hy : y ≤ b + 1) (h : TidyF (b + 1) l) (hl : TidyF x l) : TidyF x (emitS a b ++ l) := by
  unfold emitS
  split
  · rename_i q
    exact ⟨hx, q, h⟩
  · exact hl
theorem com_ok : ∀ (n : Nat) {l m : List Seg} {x y : Int}, l.length + m.length ≤ n → TidyF x l → TidyF y m → TidyF x (comGo l m) ∧ TidyF y (comGo l m) ∧ (comGo l m).length ≤ l.length + m.length ∧ ∀ t, hitS (comGo l m) t = (hitS l t && hitS m t)
  | _, [], m, _, _, _, _, _ => by rw [com_nil]; exact ⟨trivial, trivial, Nat.zero_le _, fun t => by rw [hit_nil, Bool.false_and]⟩
  | _, s :: r, [], _, _, _, _, _ => by rw [com_nilR]; exact ⟨trivial, trivial, Nat.zero_le _, fun t => by rw [hit_nil, Bool.and_false]⟩
  | 0, s :: r, u :: q, _, _, hn, _, _ => by simp at hn
  | n + 1, s :: r, u :: q, x, y, hn, ⟨h1, h2, h3⟩, ⟨g1, g2, g3⟩ => by
    simp only [List.length_cons] at hn
    rw [com_cons]
    have lowr : ∀ t, hitS r t = true → s.2 + 1 ≤ t := fun t e => TidyF.low h3 e
    have lowq : ∀ t, hitS q t = true → u.2 + 1 ≤ t := fun t e => TidyF.low g3 e
    generalize hmax : (if u.1 > s.1 then u.1 else s.1) = mx
    have hm : s.1 ≤ mx ∧ u.1 ≤ mx ∧ (mx = s.1 ∨ mx = u.1) := by rw [← hmax]; split <;> omega
    have elen : ∀ b : Int, (emitS mx b).length ≤ 1 := fun b => by unfold emitS; split <;> simp
    split
    · rename_i hc
      obtain ⟨i1, i2, il, i3⟩ := com_ok n (l := r) (m := u :: q) (x := s.2 + 1) (y := u.1) (by simp only [List.length_cons]; omega) h3 ⟨Int.le_refl _, g2, g3⟩
      have j1 := elen s.2
      refine ⟨emit_tidy (y := s.2) (by omega) (by omega) i1 (i1.mono (by omega)), emit_tidy (y := s.2) (by omega) (by omega) i1 (i2.mono (by omega)), by rw [List.length_append]; simp only [List.length_cons] at il ⊢; omega, fun t => ?_⟩
      rw [hit_app, emit_hit, i3 t, hit_cons s, hit_cons u, Bool.eq_iff_iff]
      simp only [Bool.or_eq_true, Bool.and_eq_true, decide_eq_true_eq, inS_iff]
      have a1 := lowr t
      have a2 := lowq t
      constructor
      · rintro (k | ⟨k1, k2⟩)
        · exact ⟨.inl ⟨by omega, by omega⟩, .inl ⟨by omega, by omega⟩⟩
        · exact ⟨.inr k1, k2⟩
      · rintro ⟨k1 | k1, k2⟩
        · left
          rcases k2 with k2 | k2
          · omega
          · have := a2 k2
            omega
        · exact .inr ⟨k1, k2⟩
    · rename_i hc
      obtain ⟨i1, i2, il, i3⟩ := com_ok n (l := s :: r) (m := q) (x := s.1) (y := u.2 + 1) (by simp only [List.length_cons]; omega) ⟨Int.le_refl _, h2, h3⟩ g3
      have j1 := elen u.2
      refine ⟨emit_tidy (y := u.2) (by omega) (by omega) i2 (i1.mono (by omega)), emit_tidy (y := u.2) (by omega) (by omega) i2 (i2.mono (by omega)), by rw [List.length_append]; simp only [List.length_cons] at il ⊢; omega, fun t => ?_⟩
      rw [hit_app, emit_hit, i3 t, hit_cons s, hit_cons u, Bool.eq_iff_iff]
      simp only [Bool.or_eq_true, Bool.and_eq_true, decide_eq_true_eq, inS_iff]
      have a1 := lowr t
      have a2 := lowq t
      constructor
      · rintro (k | ⟨k1, k2⟩)
        · exact ⟨.inl ⟨by omega, by omega⟩, .inl ⟨by omega, by omega⟩⟩
        · exact ⟨k1, .inr k2⟩
      · rintro ⟨k1, k2 | k2⟩
        · left
          rcases k1 with k1 | k1
          · omega
          · have := a1 k1
            omega
        · exact .inr ⟨k1, k2⟩
theorem comS_ok {l m : List Seg} {x y : Int} (hl : TidyF x l) (hm : TidyF y m) : TidyF x (comGo l m) ∧ TidyF y (comGo l m) ∧ (comGo l m).length ≤ l.length + m.length ∧ ∀ t, hitS (comGo l m) t = (hitS l t && hitS m t) := com_ok _ (Nat.le_refl _) hl hm
end FL

set_option maxHeartbeats 4000000
/-! try .. except C as e; isinstance(e, ..) -/
namespace FL
open PySem PySem.Spec PyProof.Rows L2
section
variable {K : PySem.W.Frag} {B0 H0 B H : Hp} {ad : Nat → Addr} {σ : L2.St} {s : PS1} {i : Nat}
theorem clr_get {α : Type} {l : List α} {i j : Nat} {x y : α} (h : (l.set i x)[j]? = some y) : (j = i ∧ y = x) ∨ (j ≠ i ∧ l[j]? = some y) := by
  by_cases q : i = j
  · subst q
    rw [List.getElem?_set] at h
    rw [if_pos rfl] at h
    split at h
    · cases h
      exact .inl ⟨rfl, rfl⟩
    · cases h
  · rw [List.getElem?_set_ne q] at h
    exact .inr ⟨fun z => q z.symm, h⟩
theorem Good.clr (g : Good K B0 H0 B H ad σ s) : Good K B0 H0 B H ad (σ.set i none) (s.set i .no) := by
  refine ⟨⟨g.sl.bh, by rw [List.length_set, List.length_set]; exact g.sl.len, fun j x e => ?_, fun j k x y e1 e2 o1 o2 ea => ?_⟩, g.ex, fun j x e o => ?_⟩
  · rcases clr_get e with ⟨rfl, rfl⟩ | ⟨n, e⟩
    · trivial
    · rw [List.getElem?_set_ne (fun z => n z.symm)]
      exact g.sl.ok j x e
  · rcases clr_get e1 with ⟨rfl, rfl⟩ | ⟨n1, e1⟩
    · cases o1
    · rcases clr_get e2 with ⟨rfl, rfl⟩ | ⟨n2, e2⟩
      · cases o2
      · exact g.sl.apart j k x y e1 e2 o1 o2 ea
  · rcases clr_get e with ⟨rfl, rfl⟩ | ⟨n, e⟩
    · cases o
    · exact g.nw j x e o
end
/-- how a suite ends, its own name gone -/
def outE (i : Nat) : Fl → Fl
  | .nx s => .nx (s.set i .no)
  | .bk s => .bk (s.set i .no)
  | .ct s => .ct (s.set i .no)
  | .rt d => .rt d
  | .er x s => .er x s
def isEr : Fl → Bool
  | .er _ _ => true
  | _ => false
def SuiteRun (i : Nat) (fs : Addr → PS1 → Option Fl) (s : PS1) (r : Fl) : Prop := ∀ a : Addr, ∃ q, fs a (s.set i (.d (.ref a))) = some q ∧ isEr q = false ∧ outE i q = r
noncomputable def fSuite (i : Nat) (fs : Addr → PS1 → Option Fl) : PS1 → Option Fl := fun s => open Classical in if h : ∃ r, SuiteRun i fs s r then some h.choose else none
theorem fSuite_eq {i : Nat} {fs : Addr → PS1 → Option Fl} {s : PS1} {r : Fl} (h : SuiteRun i fs s r) : fSuite i fs s = some r := by
  unfold fSuite
  have k : ∃ r, SuiteRun i fs s r := ⟨r, h⟩
  rw [dif_pos k]
  obtain ⟨q, e1, _, e2⟩ := k.choose_spec 0
  obtain ⟨q', f1, _, f2⟩ := h 0
  rw [e1] at f1
  cases f1
  rw [← e2, ← f2]
noncomputable def fTryA (i : Nat) (C : Addr) (fb : PS1 → Option Fl) (fs : Addr → PS1 → Option Fl) : PS1 → Option Fl := fun s => match fb s with
  | some (.er x s') => if x.C = C ∧ x.fs.isNone = true then fSuite i fs s' else none
  | r => r
section
variable {X : Cx} {W : WX}
theorem ds_tryA (i : Nat) {x n : Str} {C : Addr} {body suite : List Stmt} {b0 : Stmt} {np pos pos' : Pos} {fb : PS1 → Option Fl} {fs : Addr → PS1 → Option Fl} (hs : X.stack = X.env :: X.outer) (hf : X.env.frame = some X.env.locals) (hN : X.N.Nodup) (hi : X.N[i]? = some n) (hln : X.env.kindOf n = some .local) (hc : Names X x (.ref C)) (tk : Takes X W)
    (hm : PySem.W.exmOne X.K (.ref C) (.ref C) = some true)
    (hb : ∀ (V : WX) (pn : List (Addr × Obj)) (xe : Value → Shared → Prop), Takes (X.tr pn xe) V → PassesOwn (model X.prog X.w) X.A X.env xe → DSs (X.tr pn xe) V body fb)
    (hsu : ∀ (a : Addr) (oe : Obj) (pn : List (Addr × Obj)), Zc (.ref C) none oe → (∃ vs, oe.data = .fields vs) → DSs (X.suite a ((a, oe) :: pn)) W (b0 :: suite) (fs a)) :
    DS X W (.Try body [.ExceptHandler (some (.Name x np)) (some n) (b0 :: suite) pos'] [] [] pos) (fTryA i C fb fs) := by
  refine PS.imp (ps_try_as (tb := fun V => tF X.K V fb) (ts := fun a cls d D σ H => (cls = .ref C ∧ d = none) ∧ tF X.K W (fs a) D σ H) hs hf hN hi hln hc tk hb (fun a oe cls d pn hz hd => ?_)) fun D σ H h => ?_
  · by_cases q : cls = .ref C ∧ d = none
    · obtain ⟨rfl, rfl⟩ := q
      exact PSs.imp (hsu a oe pn hz hd) fun D σ H h => h.2
    · exact ⟨fun pins s σ H D I h => absurd h.1 q⟩
  · obtain ⟨B0, H0, B, ad, s, r, g, hf0, hq⟩ := h
    have hf3 : (match fb s with
      | some (.er x s') => if x.C = C ∧ x.fs.isNone = true then fSuite i fs s' else none
      | r => r) = some r := hf0
    clear hf0
    cases eb : fb s with
    | none => rw [eb] at hf3; cases hf3
    | some rb =>
      rw [eb] at hf3
      refine ⟨B0, H0, B, ad, s, rb, g, eb, ?_⟩
      cases rb with
      | nx s' => cases hf3; exact hq
      | bk s' => cases hf3; exact hq
      | ct s' => cases hf3; exact hq
      | rt d => cases hf3; exact hq
      | er y s' =>
        intro cls dd σ2 H2 B2 ad2 sb g2 rx
        replace hf3 : (if y.C = C ∧ y.fs.isNone = true then fSuite i fs s' else none) = some r := hf3
        split at hf3
        · rename_i hy
          obtain ⟨hy1, hy2⟩ := hy
          obtain ⟨yC, yf⟩ := y
          cases yf with
          | some _ => cases hy2
          | none =>
            change yC = C at hy1
            subst hy1
            obtain ⟨rfl, rd⟩ := rx
            change dd = none at rd
            subst rd
            refine ⟨true, hm, fun _ a ha => ⟨⟨rfl, rfl⟩, ?_⟩, fun q => nomatch q⟩
            unfold fSuite at hf3
            split at hf3
            · rename_i k
              cases hf3
              obtain ⟨q, e1, e2, e3⟩ := k.choose_spec a
              rw [← e3] at hq
              refine ⟨B0, H0, B2, ad2, s'.set i (.d (.ref a)), q, g2.setD (rep_ref.mpr rfl), e1, ?_⟩
              cases q with
              | nx s3 => exact fun σ3 H3 B3 ad3 sb3 g3 => hq _ _ _ _ (sb.trans sb3) g3.clr
              | bk s3 => exact fun σ3 H3 B3 ad3 sb3 g3 => hq _ _ _ _ (sb.trans sb3) g3.clr
              | ct s3 => exact fun σ3 H3 B3 ad3 sb3 g3 => hq _ _ _ _ (sb.trans sb3) g3.clr
              | rt d => exact fun v B3 H3 x rv => hq v B3 H3 x rv
              | er _ _ => cases e2
            · cases hf3
        · cases hf3
/-- isinstance(e, c), e the error that the suite holds: b is known -/
def fIsE (i : Nat) (a : Addr) (b : Bool) : PS1 → Option (R D) := fun s => match s[i]? with
  | some (.d (.ref q)) => if q = a then some (.ok (.bl b)) else none
  | _ => none
theorem de_isE (i : Nat) {D0 a : Addr} {oe : Obj} {pn : List (Addr × Obj)} {n y : Str} {p pe p2 pos : Pos} {c : V} {cv : Value} {b : Bool} (C : ExcC X.K D0) (hz : Zc (.ref D0) none oe) (hf : ∃ vs, oe.data = .fields vs) (hg : Gl (X.suite a ((a, oe) :: pn)) "isinstance") (hm : X.mg "isinstance" = none) (hv0 : bootBuiltins "isinstance" = some (.builtin "isinstance"))
    (hv : PE (X.suite a ((a, oe) :: pn)) (.Name n pe) (tVar i)) (hc : PE (X.suite a ((a, oe) :: pn)) (.Name y p2) (tC c)) (hcv : ∀ u, RelV c u → u = cv) (hk : PySem.W.kitOne X.K (.ref D0) cv = some b)
    (he : starEach [.Name n pe, .Name y p2] X.env = (false, eval (.Name n pe) X.env) :: starEach [.Name y p2] X.env := by rfl) (hs2 : starEach [.Name y p2] X.env = (false, eval (.Name y p2) X.env) :: starEach [] X.env := by rfl) (hpl : (backTo pos (starEach [.Name y p2] X.env)).any (·.1) = false := by rfl) :
    DE (X.suite a ((a, oe) :: pn)) W (.Call (.Name "isinstance" p) [.Name n pe, .Name y p2] [] pos) (fIsE i a b) := by
  refine PE.imp (pe_callB (call_isE C hz hf) hg hm hv0 (pa_cons hv (pa_cons hc pa_nil hs2) he) (by decide) (by decide) he hpl) fun σ H Q ⟨B, ad, s, r, hs, hf2, hq⟩ => ?_
  unfold fIsE at hf2
  split at hf2
  · rename_i q es
    split at hf2
    · rename_i eq
      cases hf2
      subst eq
      obtain ⟨v, e1, rv⟩ := hs.ok i _ es
      rw [rep_ref.mp rv] at e1
      exact ⟨_, e1, c, cv, b, rfl, hcv, hk, hq B H (Ext.refl hs.bh) _ (rep_bl.mpr rfl)⟩
    · cases hf2
  · cases hf2
theorem cls_ref {C : Addr} (u : Value) (h : RelV (.ref C) u) : u = .ref C := by cases h; rfl
theorem cls_ty {T : String} (u : Value) (h : RelV (.ty T) u) : u = .type T := by cases h; rfl
end
end FL
namespace FL
open PySem PySem.Spec PyProof.Rows L2
theorem kit_own {K : PySem.W.Frag} {X C : Addr} {b : Bool} (h1 : PySem.W.isClsIn K C = true) (h2 : PySem.W.typeIn K (.ref C) = some (.type "type")) (h3 : PySem.W.subIn K (.ref X) (.ref C) = some b) (h4 : PySem.W.subIn K (.ref X) (.ref X) = some true) : PySem.W.kitOne K (.ref X) (.ref C) = some b := by
  unfold PySem.W.kitOne
  split
  · rename_i e
    have e' : X = C := Value.ref.inj (beq_iff_eq.mp e)
    subst e'
    rw [h4] at h3
    exact h3
  · have e2 : ((PySem.W.clsIn K C).isSome && PySem.W.typeIn K (.ref C) == some (.type "type")) = true := by
      rw [show (PySem.W.clsIn K C).isSome = true from h1, h2]
      rfl
    show (if ((PySem.W.clsIn K C).isSome && PySem.W.typeIn K (.ref C) == some (.type "type")) = true then PySem.W.subIn K (.ref X) (.ref C) else none) = some b
    rw [if_pos e2]
    exact h3
theorem kit_blt {K : PySem.W.Frag} {X : Addr} {T : String} {b : Bool} (h1 : PySem.W.kitMeta T = true) (h3 : PySem.W.subIn K (.ref X) (.type T) = some b) : PySem.W.kitOne K (.ref X) (.type T) = some b := by
  unfold PySem.W.kitOne
  split
  · rename_i e
    exact absurd (beq_iff_eq.mp e) (fun z => nomatch z)
  · show (if PySem.W.kitMeta T = true then PySem.W.subIn K (.ref X) (.type T) else none) = some b
    rw [if_pos h1]
    exact h3
end FL

namespace FL
open PySem PySem.Spec PyProof.Rows L2
section
variable {X : Cx} {W : WX}
/-- y = [..] on a line of its own, the list is y's own -/
theorem ds_setLcN (i : Nat) {y : Str} {py spos : Pos} {elt tg iter : Expr} {ifs : List Expr} {scope : Scope} {own : List (Str × Nat)} {gt : TG} {gi : D → PS1 → Option PS1} {fi : PS1 → Option (R (List D))} {ft : PS1 → Option (R Bool)} {fe : PS1 → Option (R D)}
    (hc : X.calm = true) (hN : X.N.Nodup) (hy : X.N[i]? = some y) (hyl : X.env.scope.names.lookup y = some .local) (hsw : swapsWith (.ListComp elt [⟨tg, iter, ifs, 0⟩] scope pos) (some (.Name y py)) spos.line X.env = pure true) (hi : DI X W tg iter fi) (ok : BlkOk X.N X.env.scope scope own)
    (hg : ∀ (s : Shared) (H : Hp) (C : Addr) (cl : List (Str × Addr)) (fp : List Addr), PG (X.blk s H scope (compEnvC scope cl C X.env) fp) tg gt) (hgi : TgC X.K (own.map (·.2)) gt gi)
    (ht : ∀ (s : Shared) (H : Hp) (C : Addr) (cl : List (Str × Addr)) (fp : List Addr), DTs (X.blk s H scope (compEnvC scope cl C X.env) fp) ifs ft)
    (he : ∀ (s : Shared) (H : Hp) (C : Addr) (cl : List (Str × Addr)) (fp : List Addr), DE (X.blk s H scope (compEnvC scope cl C X.env) fp) W0 elt fe) (hs : ∀ x, foldedSetIterable iter X.env x = pure x := by intro _; rfl) :
    DS X W (.Assign [.Name y py] (.ListComp elt [⟨tg, iter, ifs, 0⟩] scope pos) spos) (fSetN i (fLc fi (own.map (·.2)) gi ft fe)) :=
  PS.imp (ps_setLc (tt := tDb X.K W0 ft) (te := tD X.K W0 fe) hc hN hy hyl hsw hi ok hg ht he hs) fun D σ H h => lc_imp hgi (setN_imp h)
end
end FL

/-! range with a step, its bounds as far as they may be -/
namespace FL
open PySem PySem.Spec PyProof.Rows L2
theorem far_turnC {P : Program} {w : World} {K : PySem.W.Frag} {tg : Expr} (I : Addr) (from_ c : Int) (m : Nat) : Turn P w K tg (Itc from_ c m) [I] I (fun i h => IsLongIter h I (from_ + (i : Nat) * c) ((m : Int) - (i : Nat)) c) where
  mem := List.mem_singleton.mpr rfl
  obj := fun i h at_ b hb => by
    cases List.mem_singleton.mp hb
    exact ⟨_, at_, fun v z => nomatch (show Data.fields _ = Data.cell v from z)⟩
  keep := fun i h h' at_ kept => kept I (List.mem_singleton.mpr rfl) _ at_
  item := by
    intro Y eP ew eK ec i pn s τ G E J fz at_ go
    subst eP ew eK
    obtain ⟨z0, z1, z2, z3, z4, z5⟩ := fz I (List.mem_singleton.mpr rfl)
    refine (Walks.longrange (prog := Y.prog) (w := Y.w) (J.ok.hd ec) I from_ c m).item i s _ _ go at_ fun v g tk vv at2 same => ?_
    obtain ⟨tt, rfl⟩ := vv
    have J2 : Inv Y pn τ G { s with heap := g, toks := tk } := J.turned (fun b o nb e => same b o (fun q => nb (List.mem_singleton.mp q)) e) z0 z1 z3 z4 z5
    refine ⟨_, rfl, go_of (s := { s with heap := g, toks := tk }) (n := "longrange_iterator") at2 rfl rfl (by decide) ⟨.int (from_ + i * c), G, J2, ⟨tt, rfl⟩, ⟨rfl, rfl⟩, at2, fun b hb => (fz b hb).1⟩⟩
  done := by
    intro Y eP ew eK ec i pn s τ G E J fz at_ stop
    subst eP ew eK
    obtain ⟨z0, z1, z2, z3, z4, z5⟩ := fz I (List.mem_singleton.mpr rfl)
    have over : m ≤ i := stop
    exact wpAny_pyNext_long_end (J.ok.hd ec) at_ (by omega) fun g eb => ⟨rfl, J.turned (t' := s.toks) (fun b o nb e => eb b o nb e) z0 z1 z3 z4 z5⟩
  self := fun _ _ _ _ _ at_ h => wpAny_pyIter_longiter at_ h
def stepN (i j c : Int) : Nat := if i < j then ((j - i - 1) / c + 1).toNat else 0
theorem stepN_size {i j c : Int} (hc : 0 < c) : Builtin.Range.rangeSize i j c = (stepN i j c : Int) := by
  unfold Builtin.Range.rangeSize stepN
  rw [if_pos hc]
  by_cases h : i < j
  · rw [if_pos h, if_pos h]
    have := Int.ediv_nonneg (show 0 ≤ j - i - 1 by omega) (show 0 ≤ c by omega)
    omega
  · rw [if_neg h, if_neg h]
    rfl
def iFarC (ta : TA) : TI := fun σ H R => ta σ H fun vs H1 => ∃ i j c : Int, vs = [.int i, .int j, .int c] ∧ 0 < c ∧ c < 1073741824 ∧ R (Itc i c (stepN i j c)) H1
section
variable {X : Cx} {W : WX} {a b c : Expr} {pos : Pos} {fr : PS1 → Option (R (List D))}
theorem pi_farC {tg : Expr} {ta : TA} {p : Pos} (hg : Gl X "range") (hm : X.mg "range" = none) (ha : PA X [a, b, c] ta)
    (hs : starEach [a, b, c] X.env = (false, eval a X.env) :: starEach [b, c] X.env) (hpl : (backTo pos (starEach [b, c] X.env)).any (·.1) = false) :
    PI X tg (.Call (.Name "range" p) [a, b, c] [] pos) (iFarC ta) := by
  refine ⟨fun pn s τ G R J h => ?_⟩
  refine Call_ (ld_blt J hg hm boot_range (PyProof.Rows.callWith_type1 (thn (ha.run pos pn s τ G _ J h) fun us s1 ⟨vs, G1, J1, rs, got⟩ => ?_) hs hpl))
  obtain ⟨i, j, k, rfl, k0, k1, q⟩ := got
  have kz : k ≠ 0 := by omega
  have kn : k.natAbs < 1073741824 := by omega
  cases rs with
  | cons r1 rs =>
    cases rs with
    | cons r2 rs =>
      cases rs with
      | cons r3 rs =>
        cases rs
        obtain ⟨t1, rfl⟩ := r1
        obtain ⟨t2, rfl⟩ := r2
        obtain ⟨t3, rfl⟩ := r3
        refine call_range_3 kz ?_ (.inl (PyProof.noPylong_small kn))
        have J2 : Inv X pn τ G1 { s1 with heap := s1.heap.push { cls := .type "range", data := .fields #[.int i t1, .int j t2, .int k t3] } } := J1.kept (t' := s1.toks) fun _ _ e => Heap.get?_push_of_some _ e
        have x1 : i + ((0 : Nat) : Int) * k = i := by rw [Int.natCast_zero, Int.zero_mul, Int.add_zero]
        have x2 : ((stepN i j k : Nat) : Int) - ((0 : Nat) : Int) = Builtin.Range.rangeSize i j k := by rw [stepN_size k0, Int.natCast_zero, Int.sub_zero]
        cases sz : Builtin.Range.small i j k with
        | true =>
          refine wpAny_pyIter_range (IsRange.new ..) sz ?_
          refine pi_one (tk := s1.toks) J2 _ (turn_rangeC _ i k (stepN i j k)) ?_ q
          show IsRangeIter _ _ (i + ((0 : Nat) : Int) * k) (((stepN i j k : Nat) : Int) - ((0 : Nat) : Int)) k
          rw [x1, x2]
          exact Heap.get?_push_size _ rfl
        | false =>
          refine wpAny_pyIter_longrange (IsRange.new ..) sz ?_
          refine pi_one (tk := s1.toks) J2 _ (far_turnC _ i k (stepN i j k)) ?_ q
          show IsLongIter _ _ (i + ((0 : Nat) : Int) * k) (((stepN i j k : Nat) : Int) - ((0 : Nat) : Int)) k
          rw [x1, x2]
          exact Heap.get?_push_size _ rfl
def rngC (i c : Int) (n : Nat) : List D := (List.range n).map fun k : Nat => .int (i + (k : Nat) * c)
theorem walk_rngC {K : PySem.W.Frag} {B : Hp} {i k : Int} {n : Nat} : WalkD K B (Itc i k n) (rngC i k n) where
  go := fun m d B1 H1 b1 bh e => by
    unfold rngC at e
    rw [List.getElem?_map] at e
    obtain ⟨x, e1, rfl⟩ := Option.map_eq_some_iff.mp e
    obtain ⟨hi, hk⟩ := List.getElem?_eq_some_iff.mp e1
    rw [List.getElem_range] at hk
    subst hk
    rw [List.length_range] at hi
    refine ⟨hi, fun x H' ⟨eH, ex⟩ => ?_⟩
    subst eH ex
    exact ⟨B1, Ext.refl bh, rep_int.mpr rfl⟩
  stop := fun B1 H1 b1 bh => by
    show n ≤ (rngC i k n).length
    unfold rngC
    rw [List.length_map, List.length_range]
    exact Nat.le_refl _
def gRngC : List D → Option (List D)
  | [.int i, .int j, .int k] => if 0 < k ∧ k < 1073741824 then some (rngC i k (stepN i j k)) else none
  | _ => none
theorem reps_3 {K : PySem.W.Frag} {B : Hp} {d e f : D} {vs : List V} (r : Reps K B [d, e, f] vs) : ∃ v u w, vs = [v, u, w] ∧ Rep K B d v ∧ Rep K B e u ∧ Rep K B f w := by
  obtain ⟨v, r', rfl, q, s⟩ := reps_cons.mp r
  obtain ⟨u, w, rfl, q2, q3⟩ := reps_2 s
  exact ⟨v, u, w, rfl, q, q2, q3⟩
theorem di_range3W {tg : Expr} {p : Pos} (hg : Gl X "range") (hm : X.mg "range" = none) (ha : DA X W [a, b, c] fr) (hs : starEach [a, b, c] X.env = (false, eval a X.env) :: starEach [b, c] X.env := by rfl) (hpl : (backTo pos (starEach [b, c] X.env)).any (·.1) = false := by rfl) : DI X W tg (.Call (.Name "range" p) [a, b, c] [] pos) (fcallN gRngC fr) := by
  refine PI.imp (pi_farC hg hm ha hs hpl) fun σ H R h => ?_
  obtain ⟨B, ad, s, r, hsl, hf, hq⟩ := h
  have hf : bnd (fr s) (fun xs => lft (gRngC xs)) = some r := hf
  refine ⟨B, ?_⟩
  cases ed : fr s with
  | none => rw [ed] at hf; cases hf
  | some rd =>
    rw [ed] at hf
    refine ⟨ad, s, rd, hsl, ed, ?_⟩
    cases rd with
    | er x => cases hf; exact hq
    | ok xs =>
      obtain ⟨ds, e1, rfl⟩ := lft_eq (show lft (gRngC xs) = some r from hf)
      refine fun B' H' x vs rs => ?_
      unfold gRngC at e1
      split at e1
      · split at e1
        · rename_i k0
          cases e1
          obtain ⟨v, u, z, rfl, rv, ru, rz⟩ := reps_3 rs
          exact ⟨_, _, _, by rw [rep_int.mp rv, rep_int.mp ru, rep_int.mp rz], k0.1, k0.2, hq B' H' x _ walk_rngC⟩
        · cases e1
      · cases e1
end
end FL

/-! sorted({e for x in xs if ..}), e ints -/
namespace FL
open PySem PySem.Spec PyProof.Rows L2 PpSet
section
variable {X : Cx}
def noneS : Int → Bool := fun _ => false
def plusS (S : Int → Bool) (k : Int) : Int → Bool := fun j => S j || decide (j = k)
theorem setO_empty {w : World} {h : Heap} {a : Addr} (ho : h.get? a = some { cls := .type "set", dict := none, data := .set #[] 0 (.fresh 0 0 (!w.params.followText "set-order")) }) : SetR w h a noneS 0 := by
  have q := setR_new_at (ns := []) ho
  have e : (fun j : Int => decide (j ∈ ([] : List Int).take 0)) = noneS := by
    funext j
    exact decide_eq_false (by simp)
  rw [e] at q
  exact q
/-- a set comprehension of ints: Dn the new set -/
def tScI (w : World) (wi : TI) (g : TG) (tt : TT) (te : TE) (vs : List Nat) : TE := fun τ G Q => wi τ G fun J G1 => ∀ Dn, G1 Dn = none → ∃ V : Nat → Nat → Hp → Prop, (∃ m, V 0 m (upd G1 Dn (SetO w Dn noneS 0))) ∧ ∀ i m G2, V i m G2 →
  (J.stop i G2 ∧ Q (.ref Dn) G2) ∨ (J.go i G2 ∧ ∃ Nx : Hp → Prop, (∀ G3, Nx G3 → ∃ m', m' < m ∧ V (i + 1) m' G3) ∧ ∀ x G3, J.yld i G2 x G3 → g x (wipe τ vs) G3 fun τ2 G4 => wipe τ2 vs = wipe τ vs ∧ tt τ2 G4 fun b G5 =>
    if b = true then te τ2 G5 fun y G6 => ∃ (k : Int) (S : Int → Bool) (n : Nat), y = .int k ∧ G6 Dn = some (SetO w Dn S n) ∧ n + 1 < scanBound ∧ Nx (upd G6 Dn (SetO w Dn (plusS S k) (if S k = true then n else n + 1))) else Nx G5)
theorem addI_ok {pn : List (Addr × Obj)} {τ : L2.St} {G : Hp} {s : Shared} {E : Value → Shared → Prop} {Dn : Addr} {S : Int → Bool} {n : Nat} {k : Int} {t : Tok} {Q : Value → Shared → Prop} (J : Inv X pn τ G s) (hD : G Dn = some (SetO X.w Dn S n)) (room : n + 1 < scanBound)
    (h : ∀ s', Inv X pn τ (upd G Dn (SetO X.w Dn (plusS S k) (if S k = true then n else n + 1))) s' → Q .none s') : wpAny (model X.prog X.w) X.A (call (.builtin "set.add") [.ref Dn, .int k t]) Q E s := by
  refine setR_add (setO_get J hD) room fun g sb new => ?_
  have he : ∃ u, g.get? Dn = some u := by
    obtain ⟨o, _, _, _, ho, _⟩ := id new
    exact ⟨o, ho⟩
  exact h _ (J.write (e := Dn) (t' := s.toks + 1) (by rw [hD]; trivial) (.inl rfl) (fun c u hc hu => (sb.2 c hc).trans hu) he (setO_new new))
theorem sci_core {pn : List (Addr × Obj)} {s : Shared} {τ : L2.St} {G : Hp} {Q : VK} {elt tg iter : Expr} {ifs : List Expr} {scope : Scope} {own : List (PySem.Str × Nat)} {pos pos' : Pos} {wi : TI} {g : TG} {tt : TT} {te : TE} {use : Option (Value → Sem Unit)} {Qf : Value → Shared → Prop}
    (hc : X.calm = true) (hN : X.N.Nodup) (J : Inv X pn τ G s) (hi : PI X tg iter wi) (ok : BlkOk X.N X.env.scope scope own)
    (hg : ∀ (s : Shared) (F : Hp) (C : Addr) (cl : List (PySem.Str × Addr)) (fp : List Addr), PG (X.blk s F scope (compEnvC scope cl C X.env) fp) tg g) (ht : ∀ (s : Shared) (F : Hp) (C : Addr) (cl : List (PySem.Str × Addr)) (fp : List Addr), PTs (X.blk s F scope (compEnvC scope cl C X.env) fp) ifs tt)
    (he : ∀ (s : Shared) (F : Hp) (C : Addr) (cl : List (PySem.Str × Addr)) (fp : List Addr), PE (X.blk s F scope (compEnvC scope cl C X.env) fp) elt te) (hs : ∀ x, foldedSetIterable iter X.env x = pure x)
    (h : tScI X.w wi g tt te (own.map (·.2)) τ G Q)
    (out : ∀ Dn C s' m F, Inv X pn τ F s' → Q (.ref Dn) F → s'.heap.Ns C m → FpOk X pn F C → compPost (model X.prog X.w) X.A X.xe use Qf (.ref Dn) C (.ok .next) s') :
    wpAny (model X.prog X.w) X.A (comprehension (.SetComp elt [⟨tg, iter, ifs, 0⟩] scope pos) scope X.env pos' (newSet (.type "set")) false (eval iter X.env) use) Qf X.xe s := by
  have free_ : ∀ y ∈ scope.names, y.2 = .free → ∃ c, X.env.cells.lookup y.1 = some c := fun y hy e =>
    (ok.free y hy e).elim (fun k => J.ok.has _ (.inl k)) (fun k => J.ok.has _ (.inr k))
  refine wpAny_comprehension_free (use := use) rfl hs (closure_ok free_) ok.kind (fun y hy e => by rw [ok.uniq y hy, e])
    (thn (hi.run pn s τ G _ J h) fun xv s1 hx => thn hx fun itv s2 h2 => ?_)
  obtain ⟨it, fp, tn, L, G2, e, J2, T, at2, f2, q⟩ := h2
  subst e
  refine newSet_ok (newEnv_comp ?_)
  generalize eD : s2.heap.objs.size = Dn
  have dn : G2 Dn = none := J2.hok.fresh (Nat.le_of_eq eD)
  obtain ⟨V, ⟨m0, v0⟩, turn⟩ := q Dn dn
  generalize e3 : ({ s2 with heap := s2.heap.push { cls := .type "set", dict := none, data := .set #[] 0 (.fresh 0 0 (!X.w.params.followText "set-order")) } } : Shared) = s3
  have J3 : Inv X pn τ (upd G2 Dn (SetO X.w Dn noneS 0)) s3 := by
    rw [← e3]
    refine J2.laid (t' := s2.toks) (fun _ _ e => Heap.get?_push_of_some _ e) (Nat.le_of_eq eD) ?_
    rw [← eD]
    exact setO_new (setO_empty (Heap.get?_push_size _ rfl))
  have h3 : s3.heap = s2.heap.push { cls := .type "set", dict := none, data := .set #[] 0 (.fresh 0 0 (!X.w.params.followText "set-order")) } := by rw [← e3]
  have below : ∀ b ∈ fp, b < s2.heap.objs.size := fun b hb => Heap.lt_size (T.obj _ _ at2 b hb).choose_spec.1
  have f3 : ∀ b ∈ fp, FpOk X pn (upd G2 Dn (SetO X.w Dn noneS 0)) b ∧ b < s3.heap.objs.size := fun b hb => by
    have lt := below b hb
    refine ⟨⟨?_, (f2 b hb).2⟩, by rw [h3, Heap.size_push]; exact Nat.lt_succ_of_lt lt⟩
    rw [upd_ne (by rw [← eD]; exact Nat.ne_of_lt lt)]
    exact (f2 b hb).1
  have at3 : tn 0 s3.heap := T.keep _ _ _ at2 fun _ _ o e => by rw [h3]; exact Heap.get?_push_of_some _ e
  have J4 := block_start J3 ok hN f3
  have pg := hg s3 (upd G2 Dn (SetO X.w Dn noneS 0)) s3.heap.objs.size (cellsFrom (s3.heap.objs.size + 1) scope.names (cloFrom X.env.cells scope.names [])) fp
  have pt := ht s3 (upd G2 Dn (SetO X.w Dn noneS 0)) s3.heap.objs.size (cellsFrom (s3.heap.objs.size + 1) scope.names (cloFrom X.env.cells scope.names [])) fp
  have pe := he s3 (upd G2 Dn (SetO X.w Dn noneS 0)) s3.heap.objs.size (cellsFrom (s3.heap.objs.size + 1) scope.names (cloFrom X.env.cells scope.names [])) fp
  show codeAny _ _ (.compStart (.SetComp elt [⟨tg, iter, ifs, 0⟩] scope pos) 0 (.ref it) (.ref Dn) (compEnvC scope (cellsFrom (s3.heap.objs.size + 1) scope.names (cloFrom X.env.cells scope.names [])) s3.heap.objs.size X.env)) (compPost (model X.prog X.w) X.A X.xe use Qf (.ref Dn) s3.heap.objs.size) { s3 with heap := pushCells (s3.heap.push { cls := .type "dict", data := .dict #[] }) scope.names }
  have nfp : ∀ b ∈ fp, (upd G2 Dn (SetO X.w Dn noneS 0)) b = none := fun b hb => (f3 b hb).1.1
  generalize eC : compEnvC scope (cellsFrom (s3.heap.objs.size + 1) scope.names (cloFrom X.env.cells scope.names [])) s3.heap.objs.size X.env = ce at J4 pg pt pe ⊢
  have locC : ce.locals = s3.heap.objs.size := by subst eC; rfl
  generalize eG : upd G2 Dn (SetO X.w Dn noneS 0) = G3 at J3 J4 pg pt pe v0 nfp f3
  generalize e4 : ({ s3 with heap := pushCells (s3.heap.push { cls := .type "dict", data := .dict #[] }) scope.names } : Shared) = s4 at J4 ⊢
  have at4 : tn 0 s4.heap := T.keep _ _ _ at3 fun _ _ o e => by rw [← e4]; exact pushCells_keeps _ _ _ _ (Heap.get?_push_of_some _ e)
  have still : ∀ {σ' : L2.St} {F : Hp} {s' : Shared}, Inv (X.blk s3 G3 scope ce fp) [] σ' F s' → (∀ b ∈ fp, F b = none) → ∀ b ∈ fp, FpOk (X.blk s3 G3 scope ce fp) [] F b := fun {σ' F s'} K hn b hb =>
    ⟨hn b hb, (K.ok.exf b hb).1, K.ok.exfs b hb, .inl hb, fun x c e => (K.ok.exf b hb).2 x c e, fun p hp => absurd (show p ∈ ([] : List (Addr × Obj)) ++ [] from hp) List.not_mem_nil⟩
  have loop : codeAny (model X.prog X.w) X.A (.compLoop (.SetComp elt [⟨tg, iter, ifs, 0⟩] scope pos) 0 (.ref it) (.ref Dn) ce) (compPost (model X.prog X.w) X.A X.xe use Qf (.ref Dn) s3.heap.objs.size) s4 := by
    refine compLoopS_any (fun n s' => ∃ i F, Inv (X.blk s3 G3 scope ce fp) [] (wipe τ (own.map (·.2))) F s' ∧ tn i s'.heap ∧ (∀ b ∈ fp, F b = none) ∧ V i n F) ?_ m0 ⟨0, G3, J4, at4, nfp, v0⟩
    rintro n s5 ⟨i, G5, J5, at5, n5, v5⟩
    rcases turn i n G5 v5 with ⟨stop, qq⟩ | ⟨go, Nx, less, step⟩
    · have td := T.done (X.blk s3 G3 scope ce fp) rfl rfl rfl hc i [] s5 _ G5 (fun _ _ => False) J5 (still J5 n5) at5 stop
      refine thnF td fun r s6 ⟨hr, J6⟩ => ?_
      subst hr
      have J7 : Inv X pn τ G5 s6 := J3.call' (ch := fp) J6.os J6.base J6.hok J6.bare fun b hb => ⟨(f3 b hb).1.2.2.2.1, (f3 b hb).1.2.1, (f3 b hb).1.2.2.2.2.1, (f3 b hb).1.2.2.2.2.2⟩
      have nC : G5 s3.heap.objs.size = none := by rw [← locC]; exact J6.free
      obtain ⟨m, hn, _⟩ := J6.loc
      have hn2 : s6.heap.Ns ce.locals m := hn
      rw [locC] at hn2
      exact out Dn s3.heap.objs.size s6 m G5 J7 qq hn2 (J3.fpOk (Nat.le_refl _) nC)
    · have ti := T.item (X.blk s3 G3 scope ce fp) rfl rfl rfl hc i [] s5 _ G5 (fun _ _ => False) J5 (still J5 n5) at5 go
      refine thnF ti fun r s6 ⟨u, hr, h6⟩ => ?_
      subst hr
      refine thnF h6 fun _ s7 ⟨x, G7, J7, r7, y7, at7, n7⟩ => ?_
      refine thnF (pg.run _ s7 _ G7 x u _ (J7.pinned (still J7 n7) (T.obj _ _ at7)) r7 (step x G7 y7)) fun _ s8 ⟨σ8, G8, J8, w8, q8⟩ => ?_
      refine thnF (pt.run _ s8 σ8 G8 _ J8 q8) fun b s9 ⟨G9, J9, q9⟩ => ?_
      have fin : ∀ {s' : Shared} {F : Hp}, Inv (X.blk s3 G3 scope ce fp) ([] ++ pinsAt fp s7.heap) σ8 F s' → Nx F → ∃ m, m < n ∧ ∃ i F, Inv (X.blk s3 G3 scope ce fp) [] (wipe τ (own.map (·.2))) F s' ∧ tn i s'.heap ∧ (∀ b ∈ fp, F b = none) ∧ V i m F := fun {s' F} K nx => by
        obtain ⟨m', hm, v'⟩ := less F nx
        have pin_ : ∀ b ∈ fp, ∀ o, s7.heap.get? b = some o → s'.heap.get? b = some o ∧ F b = none := fun b hb o e =>
          have z := K.pin (b, o) (List.mem_append_right _ (List.mem_append_right _ (mem_pinsAt hb e)))
          ⟨z.1, z.2.1⟩
        refine ⟨m', hm, i + 1, F, (K.unpinned (pins := [])).weak (by rw [← w8, wipe_length]) (fun j v e => by rw [← w8] at e; exact (wipe_some e).1), T.keep _ _ _ at7 fun b hb o e => (pin_ b hb o e).1, fun b hb => ?_, v'⟩
        obtain ⟨o, e, _⟩ := T.obj _ _ at7 b hb
        exact (pin_ b hb o e).2
      cases b with
      | false =>
        simp only [Bool.false_eq_true, if_false] at q9 ⊢
        exact fin J9 q9
      | true =>
        simp only [if_true] at q9 ⊢
        refine thnF (pe.run _ s9 σ8 G9 _ J9 q9) fun z sa ⟨yv, Ga, Ja, ra, k, S0, n0, ey, hDa, room, nx⟩ => ?_
        subst ey
        obtain ⟨tk, rfl⟩ := (show ∃ tk, z = Value.int k tk from ra)
        exact addI_ok (X := X.blk s3 G3 scope ce fp) Ja hDa room fun sb Jb => fin Jb nx
  exact codeAny_compStart_set loop (T.self X.A 0 _ _ _ at4 loop)
theorem pe_scI {elt tg iter : Expr} {ifs : List Expr} {scope : Scope} {own : List (PySem.Str × Nat)} {pos : Pos} {wi : TI} {g : TG} {tt : TT} {te : TE} (hc : X.calm = true) (hN : X.N.Nodup) (hi : PI X tg iter wi) (ok : BlkOk X.N X.env.scope scope own)
    (hg : ∀ (s : Shared) (F : Hp) (C : Addr) (cl : List (PySem.Str × Addr)) (fp : List Addr), PG (X.blk s F scope (compEnvC scope cl C X.env) fp) tg g) (ht : ∀ (s : Shared) (F : Hp) (C : Addr) (cl : List (PySem.Str × Addr)) (fp : List Addr), PTs (X.blk s F scope (compEnvC scope cl C X.env) fp) ifs tt)
    (he : ∀ (s : Shared) (F : Hp) (C : Addr) (cl : List (PySem.Str × Addr)) (fp : List Addr), PE (X.blk s F scope (compEnvC scope cl C X.env) fp) elt te) (hs : ∀ x, foldedSetIterable iter X.env x = pure x) :
    PE X (.SetComp elt [⟨tg, iter, ifs, 0⟩] scope pos) (tScI X.w wi g tt te (own.map (·.2))) := by
  refine ⟨fun pn s τ G Q J h => ?_⟩
  rw [eval_SetComp]
  refine sci_core hc hN J hi ok hg ht he hs h fun Dn C s' m F K q hn f => ⟨m, hn, fun h'' sb => ?_⟩
  obtain ⟨f0, f1, f2, f3, f4, f5⟩ := f
  exact ⟨.ref Dn, F, K.turned (t' := s'.toks) (fun b o hb e => (sb.2 b hb).trans e) f0 f1 f3 f4 f5, rfl, q⟩
end
end FL

namespace FL
open PySem PySem.Spec PyProof.Rows L2 PpSet
/-! ### the members of a row of ints, each once, ascending -/
def insU (x : Int) : List Int → List Int
  | [] => [x]
  | y :: r => if x < y then x :: y :: r else if x = y then y :: r else y :: insU x r
def usort : List Int → List Int
  | [] => []
  | x :: r => insU x (usort r)
theorem mem_insU {x z : Int} : ∀ {l : List Int}, z ∈ insU x l ↔ z = x ∨ z ∈ l
  | [] => by simp [insU]
  | y :: r => by
    unfold insU
    split
    · simp
    · split
      · rename_i h1 h2
        subst h2
        simp
      · rw [List.mem_cons, mem_insU, List.mem_cons]
        constructor
        · rintro (h | h | h)
          · exact .inr (.inl h)
          · exact .inl h
          · exact .inr (.inr h)
        · rintro (h | h | h)
          · exact .inr (.inl h)
          · exact .inl h
          · exact .inr (.inr h)
theorem insU_up {x : Int} : ∀ {l : List Int}, l.Pairwise (· < ·) → (insU x l).Pairwise (· < ·)
  | [], _ => by simp [insU]
  | y :: r, h => by
    obtain ⟨h1, h2⟩ := List.pairwise_cons.mp h
    unfold insU
    split
    · rename_i q
      refine List.pairwise_cons.mpr ⟨fun z hz => ?_, h⟩
      rcases List.mem_cons.mp hz with e | e
      · rw [e]; exact q
      · exact Int.lt_trans q (h1 z e)
    · split
      · exact h
      · rename_i q1 q2
        refine List.pairwise_cons.mpr ⟨fun z hz => ?_, insU_up h2⟩
        rcases mem_insU.mp hz with e | e
        · rw [e]; omega
        · exact h1 z e
theorem usort_up : ∀ l : List Int, (usort l).Pairwise (· < ·)
  | [] => List.Pairwise.nil
  | _ :: r => insU_up (usort_up r)
theorem mem_usort {z : Int} : ∀ {l : List Int}, z ∈ usort l ↔ z ∈ l
  | [] => Iff.rfl
  | x :: r => by rw [usort, mem_insU, mem_usort, List.mem_cons]
theorem up_ext : ∀ {l m : List Int}, l.Pairwise (· < ·) → m.Pairwise (· < ·) → (∀ z, z ∈ l ↔ z ∈ m) → l = m
  | [], [], _, _, _ => rfl
  | [], b :: m, _, _, h => absurd ((h b).mpr (List.mem_cons_self ..)) List.not_mem_nil
  | a :: l, [], _, _, h => absurd ((h a).mp (List.mem_cons_self ..)) List.not_mem_nil
  | a :: l, b :: m, hl, hm, h => by
    obtain ⟨a1, a2⟩ := List.pairwise_cons.mp hl
    obtain ⟨b1, b2⟩ := List.pairwise_cons.mp hm
    have e : a = b := by
      rcases List.mem_cons.mp ((h a).mp (List.mem_cons_self ..)) with e | e
      · exact e
      · rcases List.mem_cons.mp ((h b).mpr (List.mem_cons_self ..)) with f | f
        · exact f.symm
        · have := b1 a e
          have := a1 b f
          omega
    subst e
    rw [up_ext a2 b2 fun z => ⟨fun q => ?_, fun q => ?_⟩]
    · rcases List.mem_cons.mp ((h z).mp (List.mem_cons_of_mem _ q)) with f | f
      · have := a1 z q
        omega
      · exact f
    · rcases List.mem_cons.mp ((h z).mpr (List.mem_cons_of_mem _ q)) with f | f
      · have := b1 z q
        omega
      · exact f
def dnums (l : List Int) : List D := l.map D.int
theorem reps_dnums {K : PySem.W.Frag} {B : Hp} : ∀ l : List Int, Reps K B (dnums l) (l.map V.int)
  | [] => reps_nil.mpr rfl
  | _ :: r => Reps.cons (rep_int.mpr rfl) (reps_dnums r)
def scF (gi : D → PS1 → Option PS1) (ft : PS1 → Option (R Bool)) (fe : PS1 → Option (R D)) (sw : PS1) (ds : List D) : Option (List D) := (lcF gi ft fe sw ds).bind fun tot => (intsOf tot).map fun ns => dnums (usort ns)
/-- sorted({..}) -/
def fSsc (fi : PS1 → Option (R (List D))) (vs : List Nat) (gi : D → PS1 → Option PS1) (ft : PS1 → Option (R Bool)) (fe : PS1 → Option (R D)) : PS1 → Option (R (List D)) := fun s => bnd (fi s) fun ds =>
  lft (if ds.length ≤ 50 then scF gi ft fe (wipeS s vs) ds else none)
theorem intsOf_cons {y : D} {l : List D} {ns : List Int} (h : intsOf (y :: l) = some ns) : ∃ i r, y = .int i ∧ ns = i :: r ∧ intsOf l = some r := by
  cases y with
  | int i =>
    have h : (intsOf l).map (fun m => i :: m) = some ns := h
    obtain ⟨r, e, rfl⟩ := Option.map_eq_some_iff.mp h
    exact ⟨i, r, rfl, rfl, e⟩
  | _ => cases h
def oneArg (t : TE) : TA := fun σ H Q => t σ H fun x H1 => Q [x] H1
section
variable {X : Cx} {W : WX} {pos : Pos}
theorem ssc_imp {w : World} {K : PySem.W.Frag} {vs : List Nat} {gt : TG} {gi : D → PS1 → Option PS1} {fi : PS1 → Option (R (List D))} {ft : PS1 → Option (R Bool)} {fe : PS1 → Option (R D)} (hgi : TgC K vs gt gi) {σ : L2.St} {H : Hp} {Q : VK}
    (h : tDN K W (fSsc fi vs gi ft fe) σ H Q) : tScI w (tDi K W fi) gt (tDb K W0 ft) (tD K W0 fe) vs σ H fun x H1 => rSortedSet w [x] H1 Q := by
  obtain ⟨B, ad, s, r, sl, hf, hq⟩ := h
  have hf : bnd (fi s) (fun ds => lft (if ds.length ≤ 50 then scF gi ft fe (wipeS s vs) ds else none)) = some r := hf
  cases e : fi s with
  | none => rw [e] at hf; cases hf
  | some rd =>
    rw [e] at hf
    cases rd with
    | er x =>
      cases hf
      exact ⟨B, ad, s, .er x, sl, e, hq⟩
    | ok ds =>
      obtain ⟨fin, ht0, rfl⟩ := lft_eq (show lft (if ds.length ≤ 50 then scF gi ft fe (wipeS s vs) ds else none) = some r from hf)
      split at ht0
      case isFalse => cases ht0
      case isTrue hz =>
      obtain ⟨tot, ht1, ht2⟩ := Option.bind_eq_some_iff.mp ht0
      obtain ⟨all, ht3, rfl⟩ := Option.map_eq_some_iff.mp ht2
      refine ⟨B, ad, s, .ok ds, sl, e, fun B1 H1 x1 J wk Dn hD => ?_⟩
      have s1 : Slots K B1 H1 ad σ s := sl.mono x1
      have hne := s1.apart_new hD
      have hDo : H Dn = none := x1.h.free hD
      refine ⟨fun i m H' => ∃ (B' : Hp) (S : Int → Bool) (n : Nat), i + m = ds.length ∧ Same B1 B' ∧ Ext B H B' H' ∧ B' Dn = none ∧ H' Dn = some (SetO w Dn S n) ∧ Slots K B' H' ad σ s ∧ n ≤ i ∧ ∃ rest ns, lcF gi ft fe (wipeS s vs) (ds.drop i) = some rest ∧ intsOf rest = some ns ∧ ∀ z, z ∈ all ↔ S z = true ∨ z ∈ ns,
        ⟨ds.length, B1, noneS, 0, Nat.zero_add _, Same.refl _, x1.trans (Ext.own s1.bh hD), s1.bh.free hD, upd_same, s1.upd (s1.bh.free hD) hne, Nat.le_refl _, tot, all, ht1, ht3, fun z => ⟨.inr, fun q => q.resolve_left Bool.false_ne_true⟩⟩, ?_⟩
      rintro i m H2 ⟨B2, S, n, em, sb, ex, hb, hh, s2, hl, rest, ns, er, en, hS⟩
      cases m with
      | zero =>
        have ei : i = ds.length := by omega
        subst ei
        rw [List.drop_length] at er
        cases er
        cases en
        refine .inl ⟨wk.stop B2 H2 sb s2.bh, Dn, S, n, rfl, hh, by omega, fun os p hp hm hn hpn => ?_⟩
        have eo : os = usort all := up_ext hp (usort_up _) fun z => by
          rw [hm z, mem_usort, hS z]
          exact ⟨.inl, fun q => q.resolve_right List.not_mem_nil⟩
        subst eo
        exact hq B2 _ (ex.trans (Ext.own s2.bh hpn)) p _ (ex.h.free hpn) (s2.bh.free hpn) upd_same (reps_dnums _)
      | succ n' =>
        have hi : i < ds.length := by omega
        rw [List.drop_eq_getElem_cons hi] at er
        obtain ⟨w1, w2⟩ := wk.go i ds[i] B2 H2 sb s2.bh (List.getElem?_eq_getElem hi)
        refine .inr ⟨w1, fun H' => ∃ (B' : Hp) (S : Int → Bool) (n : Nat), (i + 1) + n' = ds.length ∧ Same B1 B' ∧ Ext B H B' H' ∧ B' Dn = none ∧ H' Dn = some (SetO w Dn S n) ∧ Slots K B' H' ad σ s ∧ n ≤ i + 1 ∧ ∃ rest ns, lcF gi ft fe (wipeS s vs) (ds.drop (i + 1)) = some rest ∧ intsOf rest = some ns ∧ ∀ z, z ∈ all ↔ S z = true ∨ z ∈ ns,
          fun H' q => ⟨n', Nat.lt_succ_self n', q⟩, fun x H3 hy => ?_⟩
        obtain ⟨B3, x3, rx⟩ := w2 x H3 hy
        have er : (gi ds[i] (wipeS s vs)).bind (fun s1 => match ft s1 with
          | some (.ok true) => (match fe s1 with
            | some (.ok y) => (lcF gi ft fe (wipeS s vs) (ds.drop (i + 1))).map fun ys => y :: ys
            | _ => none)
          | some (.ok false) => lcF gi ft fe (wipeS s vs) (ds.drop (i + 1))
          | _ => none) = some rest := er
        obtain ⟨sg, eg, er⟩ := Option.bind_eq_some_iff.mp er
        have s3 : Slots K B3 H3 ad σ s := s2.mono x3
        refine hgi.run _ (Good.of_slots (s3.wiped vs)) rx eg fun σ' g' w' => ⟨w'.trans (wipe_wipe vs), ?_⟩
        split at er
        · rename_i et1
          split at er
          · rename_i y ey
            obtain ⟨ys, eys, rfl⟩ := Option.map_eq_some_iff.mp er
            obtain ⟨k, ms, rfl, rfl, ems⟩ := intsOf_cons en
            refine ⟨B3, ad, sg, .ok true, g'.sl, et1, fun B4 H4 x4 => ?_⟩
            unfold RB
            dsimp only
            rw [if_pos rfl]
            refine ⟨B4, ad, sg, .ok (.int k), g'.sl.mono x4, ey, fun B5 H5 x5 v rv => ?_⟩
            have far := (x3.trans x4).trans x5
            have hb5 : B5 Dn = none := far.alive hb hh
            refine ⟨k, S, n, rep_int.mp rv, far.h _ _ hh, ?_, ?_⟩
            · unfold scanBound
              omega
            · refine ⟨B5, plusS S k, if S k = true then n else n + 1, by omega, sb.trans far.b, (ex.trans far).mut hDo hb5, hb5, upd_same, (s2.mono far).upd hb5 hne, by split <;> omega, ys, ms, eys, ems, fun z => ?_⟩
              rw [hS z, List.mem_cons]
              unfold plusS
              rw [Bool.or_eq_true, decide_eq_true_eq]
              constructor
              · rintro (q | q | q)
                · exact .inl (.inl q)
                · exact .inl (.inr q)
                · exact .inr q
              · rintro ((q | q) | q)
                · exact .inl q
                · exact .inr (.inl q)
                · exact .inr (.inr q)
          · cases er
        · rename_i et1
          refine ⟨B3, ad, sg, .ok false, g'.sl, et1, fun B4 H4 x4 => ?_⟩
          unfold RB
          dsimp only
          rw [if_neg Bool.false_ne_true]
          have far := x3.trans x4
          exact ⟨B4, S, n, by omega, sb.trans far.b, ex.trans far, far.alive hb hh, far.h _ _ hh, s2.mono far, by omega, rest, ns, er, en, hS⟩
        · cases er
theorem dn_ssc {elt tg iter : Expr} {ifs : List Expr} {scope : Scope} {own : List (Str × Nat)} {gt : TG} {gi : D → PS1 → Option PS1} {fi : PS1 → Option (R (List D))} {ft : PS1 → Option (R Bool)} {fe : PS1 → Option (R D)} {spos p : Pos}
    (hc : X.calm = true) (hN : X.N.Nodup) (hi : DI X W tg iter fi) (ok : BlkOk X.N X.env.scope scope own)
    (hg : ∀ (s : Shared) (F : Hp) (C : Addr) (cl : List (Str × Addr)) (fp : List Addr), PG (X.blk s F scope (compEnvC scope cl C X.env) fp) tg gt) (hgi : TgC X.K (own.map (·.2)) gt gi)
    (ht : ∀ (s : Shared) (F : Hp) (C : Addr) (cl : List (Str × Addr)) (fp : List Addr), DTs (X.blk s F scope (compEnvC scope cl C X.env) fp) ifs ft)
    (he : ∀ (s : Shared) (F : Hp) (C : Addr) (cl : List (Str × Addr)) (fp : List Addr), DE (X.blk s F scope (compEnvC scope cl C X.env) fp) W0 elt fe)
    (hgl : Gl X "sorted") (hm : X.mg "sorted" = none) (hv : bootBuiltins "sorted" = some (.builtin "sorted")) (hs : ∀ x, foldedSetIterable iter X.env x = pure x := by intro _; rfl)
    (hse : starEach [.SetComp elt [⟨tg, iter, ifs, 0⟩] scope spos] X.env = (false, eval (.SetComp elt [⟨tg, iter, ifs, 0⟩] scope spos) X.env) :: starEach [] X.env := by rfl) (hpl : (backTo pos (starEach [] X.env)).any (·.1) = false := by rfl) :
    DN X W (.Call (.Name "sorted" p) [.SetComp elt [⟨tg, iter, ifs, 0⟩] scope spos] [] pos) (fSsc fi (own.map (·.2)) gi ft fe) :=
  PE.imp (pe_callB (cr_sortedSet hc) hgl hm hv (pa_cons (pe_scI (tt := tDb X.K W0 ft) (te := tD X.K W0 fe) hc hN hi ok hg ht he hs) pa_nil) (by decide) (by decide) hse hpl) fun σ H Q h => ssc_imp (w := X.w) hgi h
end
end FL

/-! chains of three comparisons, starred elements, comprehensions with two fors -/
namespace FL
open PySem PySem.Spec PyProof.Rows L2
/-! ### a < b < c < d -/
def tCh3 (r r' r'' : R2) (ta tb tc td : TE) : TE := fun σ H Q => ta σ H fun x H1 => tb σ H1 fun y H2 => r x y H2 fun z H3 => ∃ k, z = .bl k ∧
  (if k = true then tc σ H3 fun w H4 => r' y w H4 fun z2 H5 => ∃ k2, z2 = .bl k2 ∧ (if k2 = true then td σ H5 fun u H6 => r'' w u H6 Q else Q (.bl false) H5) else Q (.bl false) H3)
section
variable {X : Cx} {W : WX} {a b c d e : Expr} {es : List Expr} {pos : Pos} {ta tb tc td : TE} {fa fb fc fd fe : PS1 → Option (R D)} {fr : PS1 → Option (R (List D))}
theorem pe_ch3 {o o' o'' : CmpOp} {r r' r'' : R2} (h1 : OpR X (compareOp o) r) (h2 : OpR X (compareOp o') r') (h3 : OpR X (compareOp o'') r'') (ha : PE X a ta) (hb : PE X b tb) (hc : PE X c tc) (hd : PE X d td)
    (hm : lastMarks [o, o', o''] [b, c, d] = false) : PE X (.Compare a [o, o', o''] [b, c, d] pos) (tCh3 r r' r'' ta tb tc td) := by
  refine ⟨fun pn s τ G Q J h => ?_⟩
  refine Compare_chain (thn (ha.run pn s τ G _ J h) fun v s1 ⟨x, G1, J1, e1, q1⟩ => chain_link (thn (hb.run pn s1 τ G1 _ J1 q1) fun u s2 ⟨y, G2, J2, e2, q2⟩ =>
    thn (h1 pn s2 τ G2 x y v u _ J2 e1 e2 q2) fun t s3 ⟨z, G3, J3, e3, k, ez, q3⟩ => ?_)) hm
  subst ez
  cases e3
  refine wpAny_truthy_bool ?_
  cases k with
  | false => exact ite_ff ⟨.bl false, G3, J3, rfl, q3⟩
  | true =>
    refine ite_tt (chain_link (thn (hc.run pn s3 τ G3 _ J3 q3) fun w s4 ⟨y2, G4, J4, e4, q4⟩ => thn (h2 pn s4 τ G4 y y2 u w _ J4 e2 e4 q4) fun t2 s5 ⟨z2, G5, J5, e5, k2, ez2, q5⟩ => ?_))
    subst ez2
    cases e5
    refine wpAny_truthy_bool ?_
    cases k2 with
    | false => exact ite_ff ⟨.bl false, G5, J5, rfl, q5⟩
    | true => exact ite_tt (chain_last (thn (hd.run pn s5 τ G5 _ J5 q5) fun w2 s6 ⟨y3, G6, J6, e6, q6⟩ => h3 pn s6 τ G6 y2 y3 w w2 Q J6 e4 e6 q6))
theorem pt_ch3 {o o' o'' : CmpOp} {r r' r'' : R2} (h1 : OpR X (compareOp o) r) (h2 : OpR X (compareOp o') r') (h3 : OpR X (compareOp o'') r'') (ha : PE X a ta) (hb : PE X b tb) (hc : PE X c tc) (hd : PE X d td)
    (hm : lastMarks [o, o', o''] [b, c, d] = false) : PT X (.Compare a [o, o', o''] [b, c, d] pos) (tTest (tCh3 r r' r'' ta tb tc td)) := by
  refine ⟨fun pn s τ G Q J h => ?_⟩
  refine isTrue_chain (thn (ha.run pn s τ G _ J h) fun v s1 ⟨x, G1, J1, e1, q1⟩ => test_link (thn (hb.run pn s1 τ G1 _ J1 q1) fun u s2 ⟨y, G2, J2, e2, q2⟩ =>
    thn (h1 pn s2 τ G2 x y v u _ J2 e1 e2 q2) fun t s3 ⟨z, G3, J3, e3, k, ez, q3⟩ => ?_)) hm
  subst ez
  cases e3
  refine wpAny_truthy_bool ?_
  cases k with
  | false =>
    obtain ⟨k', ek, q'⟩ := q3
    cases ek
    exact ite_ff ⟨G3, J3, q'⟩
  | true =>
    refine ite_tt (test_link (thn (hc.run pn s3 τ G3 _ J3 q3) fun w s4 ⟨y2, G4, J4, e4, q4⟩ => thn (h2 pn s4 τ G4 y y2 u w _ J4 e2 e4 q4) fun t2 s5 ⟨z2, G5, J5, e5, k2, ez2, q5⟩ => ?_))
    subst ez2
    cases e5
    refine wpAny_truthy_bool ?_
    cases k2 with
    | false =>
      obtain ⟨k', ek, q'⟩ := q5
      cases ek
      exact ite_ff ⟨G5, J5, q'⟩
    | true =>
      refine ite_tt (test_last (thn (hd.run pn s5 τ G5 _ J5 q5) fun w2 s6 ⟨y3, G6, J6, e6, q6⟩ => thn (h3 pn s6 τ G6 y2 y3 w w2 _ J6 e4 e6 q6) fun t3 s7 ⟨z3, G7, J7, e7, k3, ez3, q7⟩ => ?_))
      subst ez3
      cases e7
      exact wpAny_truthy_bool ⟨G7, J7, q7⟩
def fCh3 (g g' g'' : D → D → Option D) (fa fb fc fd : PS1 → Option (R D)) : PS1 → Option (R D) := fun s => bnd (fa s) fun x => bnd (fb s) fun y => bnd (lft (g x y)) fun k =>
  match k with
  | .bl true => bnd (fc s) fun z => bnd (lft (g' y z)) fun k2 => match k2 with
    | .bl true => bnd (fd s) fun u => lft (g'' z u)
    | .bl false => some (.ok (.bl false))
    | _ => none
  | .bl false => some (.ok (.bl false))
  | _ => none
theorem ch3_imp {K : PySem.W.Frag} {r r' r'' : R2} {g g' g'' : D → D → Option D} (p1 : Pure2 K r g) (p2 : Pure2 K r' g') (p3 : Pure2 K r'' g'') {σ : L2.St} {H : Hp} {Q : VK} (h : tD K W (fCh3 g g' g'' fa fb fc fd) σ H Q) : tCh3 r r' r'' (tD K W fa) (tD K W fb) (tD K W fc) (tD K W fd) σ H Q := by
  obtain ⟨B, h⟩ := h
  refine ⟨B, (Run.bind h).imp fun x B1 H1 e1 h1 v rv => ⟨B1, (Run.bind h1).imp fun y B2 H2 e2 h2 u ru => ?_⟩⟩
  obtain ⟨k, hk, q⟩ := Run.lifted (Run.bind h2)
  refine p1 _ h2.same hk (rv.mono e2.b) ru fun B3 H3 e3 w rw => ?_
  have h4 := q B3 H3 e3
  cases k with
  | bl k =>
    refine ⟨k, rep_bl.mp rw, ?_⟩
    cases k with
    | false =>
      rw [if_neg Bool.false_ne_true]
      exact Run.now h4 _ (rep_bl.mpr rfl)
    | true =>
      rw [if_pos rfl]
      refine ⟨B3, (Run.bind h4).imp fun z B4 H4 e4 h5 t rt => ?_⟩
      obtain ⟨k2, hk2, q2⟩ := Run.lifted (Run.bind h5)
      refine p2 _ h5.same hk2 ((ru.mono e3.b).mono e4.b) rt fun B5 H5 e5 w2 rw2 => ?_
      have h6 := q2 B5 H5 e5
      cases k2 with
      | bl k2 =>
        refine ⟨k2, rep_bl.mp rw2, ?_⟩
        cases k2 with
        | false =>
          rw [if_neg Bool.false_ne_true]
          exact Run.now h6 _ (rep_bl.mpr rfl)
        | true =>
          rw [if_pos rfl]
          refine ⟨B5, (Run.bind h6).imp fun z2 B6 H6 e6 h7 t2 rt2 => ?_⟩
          obtain ⟨z', hz, q'⟩ := Run.lifted h7
          exact p3 Q h7.same hz ((rt.mono e5.b).mono e6.b) rt2 q'
      | _ => obtain ⟨_, _, _, _, hf, _⟩ := h6; cases hf
  | _ => obtain ⟨_, _, _, _, hf, _⟩ := h4; cases hf
theorem de_ch3 {o o' o'' : CmpOp} {r r' r'' : R2} {g g' g'' : D → D → Option D} (h1 : OpR X (compareOp o) r) (h2 : OpR X (compareOp o') r') (h3 : OpR X (compareOp o'') r'') (p1 : Pure2 X.K r g) (p2 : Pure2 X.K r' g') (p3 : Pure2 X.K r'' g'') (ha : DE X W a fa) (hb : DE X W b fb) (hc : DE X W c fc) (hd : DE X W d fd)
    (hm : lastMarks [o, o', o''] [b, c, d] = false := by with_unfolding_all rfl) : DE X W (.Compare a [o, o', o''] [b, c, d] pos) (fCh3 g g' g'' fa fb fc fd) := PE.imp (pe_ch3 h1 h2 h3 ha hb hc hd hm) fun σ H Q h => ch3_imp p1 p2 p3 h
theorem dt_ch3 {o o' o'' : CmpOp} {r r' r'' : R2} {g g' g'' : D → D → Option D} (h1 : OpR X (compareOp o) r) (h2 : OpR X (compareOp o') r') (h3 : OpR X (compareOp o'') r'') (p1 : Pure2 X.K r g) (p2 : Pure2 X.K r' g') (p3 : Pure2 X.K r'' g'') (ha : DE X W a fa) (hb : DE X W b fb) (hc : DE X W c fc) (hd : DE X W d fd)
    (hm : lastMarks [o, o', o''] [b, c, d] = false := by with_unfolding_all rfl) : DT X W (.Compare a [o, o', o''] [b, c, d] pos) (fBl (fCh3 g g' g'' fa fb fc fd)) := by
  refine PT.imp (pt_ch3 h1 h2 h3 ha hb hc hd hm) fun σ H Q ⟨B, h⟩ => ?_
  refine ch3_imp p1 p2 p3 ⟨B, (Run.bind h).imp fun x B1 H1 e1 h1 v rv => ?_⟩
  obtain ⟨b, hb, q⟩ := Run.lifted h1
  have ex := blOf_inv hb
  subst ex
  exact ⟨b, rep_bl.mp rv, q B1 H1 (Ext.refl h1.same)⟩
theorem r_ch3 (g1 g2 g3 : D → D → Option D) (fa fb fc fd : PS1 → Option (R D)) (s : PS1) : fCh3 g1 g2 g3 fa fb fc fd s = bnd (fa s) fun x => bnd (fb s) fun y => bnd (lft (g1 x y)) fun k =>
  match k with
  | .bl true => bnd (fc s) fun z => bnd (lft (g2 y z)) fun k2 => match k2 with
    | .bl true => bnd (fd s) fun u => lft (g3 z u)
    | .bl false => some (.ok (.bl false))
    | _ => none
  | .bl false => some (.ok (.bl false))
  | _ => none := (rfl)
/-! ### *e among the elements -/
def starOf : D → Option (List D)
  | .tup xs => some xs
  | .lst xs => some xs
  | _ => none
def fStar (fe : PS1 → Option (R D)) (fr : PS1 → Option (R (List D))) : PS1 → Option (R (List D)) := fun s => bnd (fe s) fun x => bnd (lft (starOf x)) fun xs => bnd (fr s) fun ys => some (.ok (xs ++ ys))
theorem star_imp {K : PySem.W.Frag} {σ : L2.St} {H : Hp} {Q : List V → Hp → Prop} (h : tDs K W (fStar fe fr) σ H Q) : StX.tStar K (tD K W fe) (tDs K W fr) σ H Q := by
  obtain ⟨B, h⟩ := h
  refine ⟨B, (Run.bind h).imp fun x B1 H1 e1 h1 v rv => ?_⟩
  have h2 := Run.bind h1
  obtain ⟨xs, hx, q⟩ := Run.lifted h2
  have key : ∃ p vs, v = V.ref p ∧ (SqT K H1 p vs ∨ SqL K H1 p vs) ∧ Reps K B1 xs vs := by
    cases x with
    | tup ys =>
      cases hx
      obtain ⟨p, vs, rfl, hs, rs⟩ := rep_tup.mp rv
      exact ⟨p, vs, rfl, .inl (seqT h1.same hs), rs⟩
    | lst ys =>
      cases hx
      obtain ⟨p, vs, rfl, hs, rs⟩ := rep_lst.mp rv
      exact ⟨p, vs, rfl, .inr (h1.same.seq hs), rs⟩
    | _ => cases hx
  obtain ⟨p, vs, rfl, hs, rs⟩ := key
  refine ⟨p, vs, rfl, hs, B1, (Run.bind (q B1 H1 (Ext.refl h1.same))).imp fun ys B2 H2 e2 h3 us ru => ?_⟩
  exact Run.now h3 _ ((rs.mono e2.b).append ru)
theorem da_star {p : Pos} (ha : DE X W e fe) (hr : DA X W es fr) (hs : starEach (.Starred e p :: es) X.env = (true, eval e X.env) :: starEach es X.env := by rfl) : DA X W (.Starred e p :: es) (fStar fe fr) := PA.imp (StX.pa_star ha hr hs) fun _ _ _ h => star_imp h
theorem r_star (fe : PS1 → Option (R D)) (fr : PS1 → Option (R (List D))) (s : PS1) : fStar fe fr s = bnd (fe s) fun x => bnd (lft (starOf x)) fun xs => bnd (fr s) fun ys => some (.ok (xs ++ ys)) := (rfl)
end
end FL

/-! [e for x in xs if .. for y in ys if ..] -/
namespace FL
open PySem PySem.Spec PyProof.Rows L2
/-- the inner walk's slots are wiped anew for each outer item -/
def lc2F (gi : D → PS1 → Option PS1) (ft : PS1 → Option (R Bool)) (fi1 : PS1 → Option (R (List D))) (vs1 : List Nat) (gi1 : D → PS1 → Option PS1) (ft1 : PS1 → Option (R Bool)) (fe : PS1 → Option (R D)) (sw : PS1) : List D → Option (List D)
  | [] => some []
  | d :: ds => (gi d sw).bind fun s1 => match ft s1 with
    | some (.ok true) => (match fi1 s1 with
      | some (.ok es) => (lcF gi1 ft1 fe (wipeS s1 vs1) es).bind fun ys => (lc2F gi ft fi1 vs1 gi1 ft1 fe sw ds).map fun zs => ys ++ zs
      | _ => none)
    | some (.ok false) => lc2F gi ft fi1 vs1 gi1 ft1 fe sw ds
    | _ => none
def fLc2 (fi : PS1 → Option (R (List D))) (vs : List Nat) (gi : D → PS1 → Option PS1) (ft : PS1 → Option (R Bool)) (fi1 : PS1 → Option (R (List D))) (vs1 : List Nat) (gi1 : D → PS1 → Option PS1) (ft1 : PS1 → Option (R Bool)) (fe : PS1 → Option (R D)) : PS1 → Option (R (List D)) := fun s => bnd (fi s) fun ds =>
  lft ((lc2F gi ft fi1 vs1 gi1 ft1 fe (wipeS s vs) ds).bind fun tot => if tot.length ≤ 100000 then some tot else none)
section
variable {X : Cx} {W : WX} {pos : Pos}
/-- a target that stores only data -/
def PlainG (gi : D → PS1 → Option PS1) : Prop := ∀ d s s', gi d s = some s' → ∀ (i : Nat) (x : Sl), s'[i]? = some x → x.isOwn = true → s[i]? = some x
theorem plain_set {s : PS1} {i j : Nat} {x : Sl} {d : D} (h : (s.set j (.d d))[i]? = some x) (ho : x.isOwn = true) : s[i]? = some x := by
  by_cases q : j = i
  · subst q
    have hl : j < s.length := by
      have := (List.getElem?_eq_some_iff.mp h).1
      rw [List.length_set] at this
      exact this
    rw [List.getElem?_set_self hl] at h
    cases h
    cases ho
  · rw [List.getElem?_set_ne q] at h
    exact h
theorem plain_name (i : Nat) : PlainG (giName i) := fun d s s' e j x h ho => by
  cases e
  exact plain_set h ho
theorem plain_names : ∀ (is : List Nat) (ds : List D) (s s' : PS1), giNames is ds s = some s' → ∀ (i : Nat) (x : Sl), s'[i]? = some x → x.isOwn = true → s[i]? = some x
  | [], [], s, s', e, i, x, h, ho => by cases e; exact h
  | [], _ :: _, s, s', e, i, x, h, ho => by cases e
  | _ :: _, [], s, s', e, i, x, h, ho => by cases e
  | j :: is, d :: ds, s, s', e, i, x, h, ho => plain_set (plain_names is ds (s.set j (.d d)) s' e i x h ho) ho
theorem plain_tup (is : List Nat) : PlainG (giTup is) := fun d s s' e i x h ho => by
  cases d with
  | tup ds => exact plain_names is ds s s' e i x h ho
  | _ => cases e
theorem own_wipe {s : PS1} {i : Nat} {x : Sl} : ∀ {vs : List Nat}, (wipeS s vs)[i]? = some x → x.isOwn = true → s[i]? = some x
  | [], h, _ => h
  | v :: vs, h, ho => by
    have h : ((wipeS s vs).set v .no)[i]? = some x := h
    by_cases q : v = i
    · subst q
      have hl : v < (wipeS s vs).length := by
        have := (List.getElem?_eq_some_iff.mp h).1
        rw [List.length_set] at this
        exact this
      rw [List.getElem?_set_self hl] at h
      cases h
      cases ho
    · rw [List.getElem?_set_ne q] at h
      exact own_wipe h ho
theorem lc2_imp {K : PySem.W.Frag} {vs vs1 : List Nat} {gt gt1 : TG} {gi gi1 : D → PS1 → Option PS1} {fi fi1 : PS1 → Option (R (List D))} {ft ft1 : PS1 → Option (R Bool)} {fe : PS1 → Option (R D)} (hgi : TgC K vs gt gi) (hgi1 : TgC K vs1 gt1 gi1) (hpl : PlainG gi) {σ : L2.St} {H : Hp} {Q : VK}
    (h : tDN K W (fLc2 fi vs gi ft fi1 vs1 gi1 ft1 fe) σ H Q) : tLc2 (tDi K W fi) gt (tDb K W0 ft) (tDi K W0 fi1) gt1 (tDb K W0 ft1) (tD K W0 fe) vs vs1 σ H Q := by
  obtain ⟨B, ad, s, r, sl, hf, hq⟩ := h
  have hf : bnd (fi s) (fun ds => lft ((lc2F gi ft fi1 vs1 gi1 ft1 fe (wipeS s vs) ds).bind fun tot => if tot.length ≤ 100000 then some tot else none)) = some r := hf
  cases e : fi s with
  | none => rw [e] at hf; cases hf
  | some rd =>
    rw [e] at hf
    cases rd with
    | er x =>
      cases hf
      exact ⟨B, ad, s, .er x, sl, e, hq⟩
    | ok ds =>
      obtain ⟨tot, ht0, rfl⟩ := lft_eq (show lft ((lc2F gi ft fi1 vs1 gi1 ft1 fe (wipeS s vs) ds).bind fun tot => if tot.length ≤ 100000 then some tot else none) = some r from hf)
      obtain ⟨tot', ht1, ht2⟩ := Option.bind_eq_some_iff.mp ht0
      split at ht2
      case isFalse => cases ht2
      case isTrue hz =>
      cases ht2
      refine ⟨B, ad, s, .ok ds, sl, e, fun B1 H1 x1 J wk Dn hD => ?_⟩
      have s1 : Slots K B1 H1 ad σ s := sl.mono x1
      have hne := s1.apart_new hD
      have hDo : H Dn = none := x1.h.free hD
      let Inv1 : Nat → Nat → Hp → Prop := fun i m H' => ∃ B' acc us, i + m = ds.length ∧ Same B1 B' ∧ Ext B H B' H' ∧ B' Dn = none ∧ H' Dn = some (.lst us) ∧ Reps K B' acc us ∧ Slots K B' H' ad σ s ∧ ∃ rest, lc2F gi ft fi1 vs1 gi1 ft1 fe (wipeS s vs) (ds.drop i) = some rest ∧ acc ++ rest = tot
      refine ⟨Inv1, ⟨ds.length, B1, [], [], Nat.zero_add _, Same.refl _, x1.trans (Ext.own s1.bh hD), s1.bh.free hD, upd_same, reps_nil.mpr rfl, s1.upd (s1.bh.free hD) hne, tot, ht1, rfl⟩, ?_⟩
      rintro i m H2 ⟨B2, acc, us, em, sb, ex, hb, hh, ra, s2, rest, er, et⟩
      cases m with
      | zero =>
        have ei : i = ds.length := by omega
        subst ei
        rw [List.drop_length] at er
        cases er
        rw [List.append_nil] at et
        subst et
        exact .inl ⟨wk.stop B2 H2 sb s2.bh, hq B2 H2 ex Dn us hDo hb hh ra⟩
      | succ n =>
        have hi : i < ds.length := by omega
        rw [List.drop_eq_getElem_cons hi] at er
        obtain ⟨w1, w2⟩ := wk.go i ds[i] B2 H2 sb s2.bh (List.getElem?_eq_getElem hi)
        refine .inr ⟨w1, fun H' => Inv1 (i + 1) n H', fun H' q => ⟨n, Nat.lt_succ_self n, q⟩, fun x H3 hy => ?_⟩
        obtain ⟨B3, x3, rx⟩ := w2 x H3 hy
        have er : (gi ds[i] (wipeS s vs)).bind (fun s1 => match ft s1 with
          | some (.ok true) => (match fi1 s1 with
            | some (.ok es) => (lcF gi1 ft1 fe (wipeS s1 vs1) es).bind fun ys => (lc2F gi ft fi1 vs1 gi1 ft1 fe (wipeS s vs) (ds.drop (i + 1))).map fun zs => ys ++ zs
            | _ => none)
          | some (.ok false) => lc2F gi ft fi1 vs1 gi1 ft1 fe (wipeS s vs) (ds.drop (i + 1))
          | _ => none) = some rest := er
        obtain ⟨sg, eg, er⟩ := Option.bind_eq_some_iff.mp er
        have s3 : Slots K B3 H3 ad σ s := s2.mono x3
        refine hgi.run _ (Good.of_slots (s3.wiped vs)) rx eg fun σ' g' w' => ⟨w'.trans (wipe_wipe vs), ?_⟩
        split at er
        · rename_i et1
          refine ⟨B3, ad, sg, .ok true, g'.sl, et1, fun B4 H4 x4 => ?_⟩
          unfold RB
          dsimp only
          rw [if_pos rfl]
          split at er
          · rename_i es ees
            obtain ⟨ys, eys, er⟩ := Option.bind_eq_some_iff.mp er
            obtain ⟨zs, ezs, rfl⟩ := Option.map_eq_some_iff.mp er
            have g4 := g'.sl.mono x4
            have apart_ : ∀ i x, sg[i]? = some x → x.isOwn = true → ad i ≠ Dn := fun i x hx ho => hne i x (own_wipe (hpl _ _ _ eg i x hx ho) ho) ho
            refine ⟨B4, ad, sg, .ok es, g4, ees, fun B5 H5 x5 J1 wk1 => ?_⟩
            have x35 := (x3.trans x4).trans x5
            let Inv2 : Nat → Nat → Hp → Prop := fun j k H' => ∃ B' acc1 us1, j + k = es.length ∧ Same B5 B' ∧ Ext B H B' H' ∧ B' Dn = none ∧ H' Dn = some (.lst us1) ∧ Reps K B' acc1 us1 ∧ Slots K B' H' ad σ s ∧ Slots K B' H' ad σ' sg ∧ ∃ rest1, lcF gi1 ft1 fe (wipeS sg vs1) (es.drop j) = some rest1 ∧ acc1 ++ rest1 = acc ++ ys
            refine ⟨Inv2, ⟨es.length, B5, acc, us, Nat.zero_add _, Same.refl _, ex.trans x35, x35.alive hb hh, x35.h _ _ hh, ra.mono x35.b, s2.mono x35, g4.mono x5, ys, eys, rfl⟩, ?_⟩
            rintro j k H6 ⟨B6, acc1, us1, em1, sb1, ex1, hb1, hh1, ra1, s6, t6, rest1, er1, et2⟩
            cases k with
            | zero =>
              have ej : j = es.length := by omega
              subst ej
              rw [List.drop_length] at er1
              cases er1
              rw [List.append_nil] at et2
              subst et2
              exact .inl ⟨wk1.stop B6 H6 sb1 s6.bh, B6, acc ++ ys, us1, by omega, (sb.trans x35.b).trans sb1, ex1, hb1, hh1, ra1, s6, zs, ezs, by rw [List.append_assoc]; exact et⟩
            | succ k' =>
              have hj : j < es.length := by omega
              rw [List.drop_eq_getElem_cons hj] at er1
              obtain ⟨u1, u2⟩ := wk1.go j es[j] B6 H6 sb1 s6.bh (List.getElem?_eq_getElem hj)
              refine .inr ⟨u1, fun H' => Inv2 (j + 1) k' H', fun H' q => ⟨k', Nat.lt_succ_self k', q⟩, fun y H7 hy1 => ?_⟩
              obtain ⟨B7, x7, ry⟩ := u2 y H7 hy1
              have er1 : (gi1 es[j] (wipeS sg vs1)).bind (fun s1 => match ft1 s1 with
                | some (.ok true) => (match fe s1 with
                  | some (.ok y) => (lcF gi1 ft1 fe (wipeS sg vs1) (es.drop (j + 1))).map fun ys => y :: ys
                  | _ => none)
                | some (.ok false) => lcF gi1 ft1 fe (wipeS sg vs1) (es.drop (j + 1))
                | _ => none) = some rest1 := er1
              obtain ⟨sh, eh, er1⟩ := Option.bind_eq_some_iff.mp er1
              have t7 : Slots K B7 H7 ad σ' sg := t6.mono x7
              refine hgi1.run _ (Good.of_slots (t7.wiped vs1)) ry eh fun σ2 g2 w2' => ⟨w2'.trans (wipe_wipe vs1), ?_⟩
              split at er1
              · rename_i ef1
                split at er1
                · rename_i z ez
                  obtain ⟨zs1, ezs1, rfl⟩ := Option.map_eq_some_iff.mp er1
                  refine ⟨B7, ad, sh, .ok true, g2.sl, ef1, fun B8 H8 x8 => ?_⟩
                  unfold RB
                  dsimp only
                  rw [if_pos rfl]
                  refine ⟨B8, ad, sh, .ok z, g2.sl.mono x8, ez, fun B9 H9 x9 v rv => ?_⟩
                  have x79 := (x7.trans x8).trans x9
                  have hb9 : B9 Dn = none := x79.alive hb1 hh1
                  refine ⟨us1, x79.h _ _ hh1, ?_, B9, acc1 ++ [z], us1 ++ [v], by omega, sb1.trans x79.b, (ex1.trans x79).mut hDo hb9, hb9, upd_same, (ra1.mono x79.b).append (.one rv), (s6.mono x79).upd hb9 hne, (t6.mono x79).upd hb9 apart_, zs1, ezs1, by rw [List.append_assoc]; exact et2⟩
                  rw [ra1.length]
                  have hlen : acc1.length + (zs1.length + 1) = acc.length + ys.length := by
                    have := congrArg List.length et2
                    rw [List.length_append, List.length_append, List.length_cons] at this
                    exact this
                  have htot : acc.length + (ys.length + zs.length) = tot.length := by
                    have := congrArg List.length et
                    rw [List.length_append, List.length_append] at this
                    exact this
                  exact Nat.lt_of_lt_of_le (show acc1.length < 100000 by omega) (by decide)
                · cases er1
              · rename_i ef1
                refine ⟨B7, ad, sh, .ok false, g2.sl, ef1, fun B8 H8 x8 => ?_⟩
                unfold RB
                dsimp only
                rw [if_neg Bool.false_ne_true]
                have x78 := x7.trans x8
                exact ⟨B8, acc1, us1, by omega, sb1.trans x78.b, ex1.trans x78, x78.alive hb1 hh1, x78.h _ _ hh1, ra1.mono x78.b, s6.mono x78, t6.mono x78, rest1, er1, et2⟩
              · cases er1
          · cases er
        · rename_i et1
          refine ⟨B3, ad, sg, .ok false, g'.sl, et1, fun B4 H4 x4 => ?_⟩
          unfold RB
          dsimp only
          rw [if_neg Bool.false_ne_true]
          have x34 := x3.trans x4
          exact ⟨B4, acc, us, by omega, sb.trans x34.b, ex.trans x34, x34.alive hb hh, x34.h _ _ hh, ra.mono x34.b, s2.mono x34, rest, er, et⟩
        · cases er
theorem dn_lc2 {elt tg iter tg1 iter1 : Expr} {ifs ifs1 : List Expr} {scope : Scope} {own : List (Str × Nat)} {vs1 : List Nat} {gt gt1 : TG} {gi gi1 : D → PS1 → Option PS1} {fi fi1 : PS1 → Option (R (List D))} {ft ft1 : PS1 → Option (R Bool)} {fe : PS1 → Option (R D)}
    (hc : X.calm = true) (hN : X.N.Nodup) (hi : DI X W tg iter fi) (ok : BlkOk X.N X.env.scope scope own) (hv : ∀ i ∈ vs1, i ∈ own.map (·.2))
    (hg : ∀ (s : Shared) (F : Hp) (C : Addr) (cl : List (Str × Addr)) (fp : List Addr), PG (X.blk s F scope (compEnvC scope cl C X.env) fp) tg gt) (hgi : TgC X.K (own.map (·.2)) gt gi) (hpl : PlainG gi)
    (ht : ∀ (s : Shared) (F : Hp) (C : Addr) (cl : List (Str × Addr)) (fp : List Addr), DTs (X.blk s F scope (compEnvC scope cl C X.env) fp) ifs ft)
    (hi1 : ∀ (s : Shared) (F : Hp) (C : Addr) (cl : List (Str × Addr)) (fp : List Addr), DI (X.blk s F scope (compEnvC scope cl C X.env) fp) W0 tg1 iter1 fi1)
    (hg1 : ∀ (s : Shared) (F : Hp) (C : Addr) (cl : List (Str × Addr)) (fp : List Addr), PG (X.blk s F scope (compEnvC scope cl C X.env) fp) tg1 gt1) (hgi1 : TgC X.K vs1 gt1 gi1)
    (ht1 : ∀ (s : Shared) (F : Hp) (C : Addr) (cl : List (Str × Addr)) (fp : List Addr), DTs (X.blk s F scope (compEnvC scope cl C X.env) fp) ifs1 ft1)
    (he : ∀ (s : Shared) (F : Hp) (C : Addr) (cl : List (Str × Addr)) (fp : List Addr), DE (X.blk s F scope (compEnvC scope cl C X.env) fp) W0 elt fe) (hs : ∀ x, foldedSetIterable iter X.env x = pure x := by intro _; rfl) (hs1 : ∀ env x, foldedSetIterable iter1 env x = pure x := by intro _ _; rfl) :
    DN X W (.ListComp elt [⟨tg, iter, ifs, 0⟩, ⟨tg1, iter1, ifs1, 0⟩] scope pos) (fLc2 fi (own.map (·.2)) gi ft fi1 vs1 gi1 ft1 fe) :=
  PE.imp (pe_lc2 (tt := tDb X.K W0 ft) (tt1 := tDb X.K W0 ft1) (te := tD X.K W0 fe) hc hN hi ok hv hg ht hi1 hg1 ht1 he hs hs1) fun σ H Q h => lc2_imp hgi hgi1 hpl h
/-- y = [.. for .. for ..] on a line of its own -/
theorem ds_setLc2 (i : Nat) {y : Str} {py spos : Pos} {elt tg iter tg1 iter1 : Expr} {ifs ifs1 : List Expr} {scope : Scope} {own : List (Str × Nat)} {vs1 : List Nat} {gt gt1 : TG} {gi gi1 : D → PS1 → Option PS1} {fi fi1 : PS1 → Option (R (List D))} {ft ft1 : PS1 → Option (R Bool)} {fe : PS1 → Option (R D)}
    (hc : X.calm = true) (hN : X.N.Nodup) (hy : X.N[i]? = some y) (hyl : X.env.scope.names.lookup y = some .local) (hsw : swapsWith (.ListComp elt [⟨tg, iter, ifs, 0⟩, ⟨tg1, iter1, ifs1, 0⟩] scope pos) (some (.Name y py)) spos.line X.env = pure true) (hi : DI X W tg iter fi) (ok : BlkOk X.N X.env.scope scope own) (hv : ∀ i ∈ vs1, i ∈ own.map (·.2))
    (hg : ∀ (s : Shared) (F : Hp) (C : Addr) (cl : List (Str × Addr)) (fp : List Addr), PG (X.blk s F scope (compEnvC scope cl C X.env) fp) tg gt) (hgi : TgC X.K (own.map (·.2)) gt gi) (hpl : PlainG gi)
    (ht : ∀ (s : Shared) (F : Hp) (C : Addr) (cl : List (Str × Addr)) (fp : List Addr), DTs (X.blk s F scope (compEnvC scope cl C X.env) fp) ifs ft)
    (hi1 : ∀ (s : Shared) (F : Hp) (C : Addr) (cl : List (Str × Addr)) (fp : List Addr), DI (X.blk s F scope (compEnvC scope cl C X.env) fp) W0 tg1 iter1 fi1)
    (hg1 : ∀ (s : Shared) (F : Hp) (C : Addr) (cl : List (Str × Addr)) (fp : List Addr), PG (X.blk s F scope (compEnvC scope cl C X.env) fp) tg1 gt1) (hgi1 : TgC X.K vs1 gt1 gi1)
    (ht1 : ∀ (s : Shared) (F : Hp) (C : Addr) (cl : List (Str × Addr)) (fp : List Addr), DTs (X.blk s F scope (compEnvC scope cl C X.env) fp) ifs1 ft1)
    (he : ∀ (s : Shared) (F : Hp) (C : Addr) (cl : List (Str × Addr)) (fp : List Addr), DE (X.blk s F scope (compEnvC scope cl C X.env) fp) W0 elt fe) (hs : ∀ x, foldedSetIterable iter X.env x = pure x := by intro _; rfl) (hs1 : ∀ env x, foldedSetIterable iter1 env x = pure x := by intro _ _; rfl) :
    DS X W (.Assign [.Name y py] (.ListComp elt [⟨tg, iter, ifs, 0⟩, ⟨tg1, iter1, ifs1, 0⟩] scope pos) spos) (fSet i (fLst (fLc2 fi (own.map (·.2)) gi ft fi1 vs1 gi1 ft1 fe))) :=
  PS.imp (ps_setLc2 (tt := tDb X.K W0 ft) (tt1 := tDb X.K W0 ft1) (te := tD X.K W0 fe) hc hN hy hyl hsw hi ok hv hg ht hi1 hg1 ht1 he hs hs1) fun D σ H h => lc2_imp hgi hgi1 hpl (lst_imp (set_imp h))
theorem r_lc2 (fi fi1 : PS1 → Option (R (List D))) (vs vs1 : List Nat) (gi gi1 : D → PS1 → Option PS1) (ft ft1 : PS1 → Option (R Bool)) (fe : PS1 → Option (R D)) (s : PS1) : fLc2 fi vs gi ft fi1 vs1 gi1 ft1 fe s = bnd (fi s) fun ds =>
  lft ((lc2F gi ft fi1 vs1 gi1 ft1 fe (wipeS s vs) ds).bind fun tot => if tot.length ≤ 100000 then some tot else none) := (rfl)
end
end FL

/-! xs[::-1] of a tuple -/
namespace FL
open PySem PySem.Spec PyProof.Rows L2
section
variable {prog : Program} {w : World} {A : Around} {E : Value → Shared → Prop} {s : Shared}
theorem back_applied {sl : Addr} {vl vu vs : Value} {n : Nat} {Q : Int × Int × Nat → Shared → Prop} (hs : s.heap.IsSliceOf sl vl vu vs) (pl : IsPart vl none) (pu : IsPart vu none) (ps : IsPart vs (some (-1)))
    (h : Q ((n : Int) - 1, -1, n) s) : wpAny (model prog w) A (Builtin.Slice.sliceApplied (.ref sl) (pure (n : Int))) Q E s := by
  obtain ⟨o, ho, _, hd⟩ := id hs
  unfold Builtin.Slice.sliceApplied Builtin.Slice.sliceFields
  refine wpAny_bind (wpAny_bind (wpAny_field ho hd (x := vl) rfl (wpAny_bind (wpAny_field ho hd (x := vu) rfl (wpAny_bind (wpAny_field ho hd (x := vs) rfl (wpAny_pure ?_)))))))
  refine wpAny_bind (HT.slicePart_ ps ?_)
  show wpAny _ _ (if ((-1 : Int) == 0) = true then _ else _) _ _ s
  rw [if_neg (by decide)]
  refine wpAny_bind (HT.slicePart_ pl (wpAny_bind (HT.slicePart_ pu (wpAny_bind (wpAny_pure ?_)))))
  have e : Builtin.Slice.slicePlaces ((n : Int) - 1) (-1) (-1) = n := by
    unfold Builtin.Slice.slicePlaces
    rw [if_neg (by decide)]
    by_cases q : (n : Int) - 1 > -1
    · rw [if_pos q, show (n : Int) - 1 - -1 - 1 = (n : Int) - 1 by omega, show (- -1 : Int) = 1 by decide, Int.ediv_one]
      omega
    · rw [if_neg q]
      omega
  show wpAny _ _ (pure ((n : Int) - 1, (-1 : Int), Builtin.Slice.slicePlaces ((n : Int) - 1) (-1) (-1))) _ _ s
  rw [e]
  exact wpAny_pure h
theorem back_pick (xs : Array Value) : ((List.range xs.size).filterMap fun (k : Nat) => xs[((xs.size : Int) - 1 + (k : Int) * (-1)).toNat]?).toArray = xs.toList.reverse.toArray := by
  have e := PySem.W.krv_pick xs
  unfold slicePick at e
  rw [PySem.W.krv_bounds] at e
  have e : ((sliceRange ((xs.size : Int) - 1) (-1) (-1)).filterMap (xs[·]?)).toArray = xs.toList.reverse.toArray := e
  rw [PySem.W.krv_sliceRange, List.filterMap_map] at e
  rw [← e]
  congr 2
  funext k
  show xs[((xs.size : Int) - 1 + (k : Int) * (-1)).toNat]? = xs[xs.size - 1 - k]?
  congr 1
  omega
theorem getItem_back {t sl : Addr} {items : Array Value} {vl vu vs : Value} {Q : Value → Shared → Prop} (ht : IsTup s.heap t items) (hs : s.heap.IsSliceOf sl vl vu vs) (pl : IsPart vl none) (pu : IsPart vu none) (ps : IsPart vs (some (-1)))
    (h : Q (.ref s.heap.objs.size) { s with heap := s.heap.push { cls := .type "tuple", data := .seq items.toList.reverse.toArray } }) (hz : items.size ≤ sizeLine) : wpAny (model prog w) A (getItem (.ref t) (.ref sl)) Q E s := by
  have fits : sizeOk (.seq items.toList.reverse.toArray) := by
    show items.toList.reverse.toArray.size ≤ sizeLine
    rw [List.size_toArray, List.length_reverse, Array.length_toList]
    exact hz
  obtain ⟨o, ho, hcs, _⟩ := id hs
  have hT : s.TypeIs (.ref sl) "slice" := ⟨o, ho, hcs⟩
  unfold getItem
  try with_reducible refine wpAny_holding ?_
  first | refine wpAny_bind (wpAny_pure ?_) | skip
  refine wpAny_bind (wpAny_sequenceKey ht.typeIs (by decide) ?_)
  refine wpAny_bind (wpAny_callSpecial?_slot (name := Str.ofString "__getitem__") ht.typeIs PyProof.Rows.slot_tuple_getitem
    (wpAny_call_entry PyProof.Rows.slot_tuple_getitem ht.typeIs PyProof.Rows.entry_tuple_getitem ?_ (PyProof.Rows.args_tuple_getitem _ _)))
  show wpAny _ _ (Builtin.Tuple.tupleItemsOf (.ref t) >>= _) _ _ s
  refine wpAny_bind (PyProof.Rows.tupleItemsOf_ ht ?_)
  refine wpAny_bind (wpAny_typeOf hT ?_)
  rw [if_pos (by decide)]
  refine wpAny_bind (back_applied hs pl pu ps ?_)
  have hno : ¬ (((items.size : Int) - 1 == 0 && (-1 : Int) == 1 && items.size == items.size) = true) := by
    intro q
    rw [Bool.and_eq_true, Bool.and_eq_true] at q
    exact absurd q.1.2 (by decide)
  show wpAny _ _ (if ((items.size : Int) - 1 == 0 && (-1 : Int) == 1 && items.size == items.size) = true then _ else _) _ _ s
  rw [if_neg hno, back_pick]
  first
    | exact wpAny_bind (m := Builtin.Tuple.tupleExact _) (wpAny_newObj_type (wpAny_pure ⟨_, rfl, wpAny_pure h⟩) fits)
    | exact wpAny_bind (m := Builtin.Tuple.tupleExact _) (wpAny_newObj_type (wpAny_bind (wpAny_pure (wpAny_pure ⟨_, rfl, wpAny_pure h⟩))) fits)
    | exact wpAny_bind (wpAny_bind (m := Builtin.Tuple.tupleExact _) (wpAny_newObj_type (wpAny_pure (wpAny_pure ⟨_, rfl, wpAny_pure h⟩)) fits))
    | exact wpAny_bind (wpAny_bind (m := Builtin.Tuple.tupleExact _) (wpAny_newObj_type (wpAny_pure ⟨_, rfl, wpAny_pure h⟩) fits))
end
section
variable {X : Cx} {W : WX} {e : Expr} {te : TE} {fe : PS1 → Option (R D)} {pos p1 p2 p3 : Pos} {k : Nat}
def tRevT (K : PySem.W.Frag) (te : TE) : TE := fun σ H Q => te σ H fun x H1 => ∃ a xs, x = V.ref a ∧ SqT K H1 a xs ∧ ∀ p, H1 p = none → Q (.ref p) (upd H1 p (.tup xs.reverse))
theorem pe_revT (he : PE X e te) : PE X (.Subscript e (.Slice none none (some (.UnaryOp .USub (.Constant (.int 1) k p1) p2)) p3) pos) (tRevT X.K te) := by
  refine ⟨fun pn s τ G Q J h => ?_⟩
  refine Subscript_ (thn (he.run pn s τ G _ J h) fun v s1 ⟨x, G1, J1, r1, q1⟩ => ?_)
  obtain ⟨a, xs, ex, hx, q⟩ := q1
  subst ex
  cases r1
  have hst : PO X (some (.UnaryOp .USub (.Constant (.int 1) k p1) p2)) (tPart (tUn (rU fun i => .int (-i)) (tC (.int 1)))) := po_some (pe_un un_neg pe_int)
  refine wpAny_Slice (thn (po_none.run pn s1 τ G1 (fun o F => o = none ∧ F = G1) J1 ⟨rfl, rfl⟩) fun vl s2 ⟨l, G2, J2, pl, el, e2⟩ => ?_)
  subst el e2
  refine thn (po_none.run pn s2 τ G2 (fun o F => o = none ∧ F = G2) J2 ⟨rfl, rfl⟩) fun vu s3 ⟨u, G3, J3, pu, eu, e3⟩ => ?_
  subst eu e3
  refine thn (hst.run pn s3 τ G3 (fun o F => o = some (-1) ∧ F = G3) J3 ⟨1, rfl, -1, rfl, rfl, rfl⟩) fun vs s4 ⟨o, G4, J4, ps, eo, e4⟩ => ?_
  subst eo e4
  have J5 : Inv X pn τ G4 { s4 with heap := s4.heap.push { cls := .type "slice", data := .fields #[vl, vu, vs] } } := J4.kept (t' := s4.toks) fun _ _ q => Heap.get?_push_of_some _ q
  obtain ⟨its, r, ht, hz⟩ := J5.tuple hx
  show wpAny (model X.prog X.w) X.A (subscriptTail e (.Slice none none (some (.UnaryOp .USub (.Constant (.int 1) k p1) p2)) p3) (.ref a) (.ref s4.heap.objs.size)) (EP X pn τ Q) X.xe { s4 with heap := s4.heap.push { cls := .type "slice", data := .fields #[vl, vu, vs] } }
  refine tail_any (ops := [.ref a, .ref s4.heap.objs.size]) ht.typeIs PyProof.Rows.slot_tuple_getitem.lookup ?_ (by with_unfolding_all rfl)
  refine getItem_back ht (Heap.IsSliceOf.new _ vl vu vs) pl pu ps ?_ (by rw [List.size_toArray, ← r.length]; exact hz)
  refine ⟨.ref _, _, J5.laid (t' := s4.toks) (o := .tup xs.reverse) (fun _ _ q => Heap.get?_push_of_some _ q) (Nat.le_refl _) ?_, rfl, q _ (J5.hok.fresh (Nat.le_refl _))⟩
  exact ⟨by rw [List.length_reverse]; exact hz, its.reverse, r.reverse, IsTup.new _ _⟩
def fRevT (fe : PS1 → Option (R D)) : PS1 → Option (R D) := fun s => bnd (fe s) fun x => match x with
  | .tup xs => some (.ok (.tup xs.reverse))
  | _ => none
theorem Reps.rev {K : PySem.W.Frag} {B : Hp} : ∀ {ds : List D} {vs : List V}, Reps K B ds vs → Reps K B ds.reverse vs.reverse
  | [], _, h => by rw [reps_nil.mp h]; exact reps_nil.mpr rfl
  | d :: ds, _, h => by
    obtain ⟨v, r, rfl, q, t⟩ := reps_cons.mp h
    rw [List.reverse_cons, List.reverse_cons]
    exact (Reps.rev t).append (.one q)
theorem de_revT (ha : DE X W e fe) : DE X W (.Subscript e (.Slice none none (some (.UnaryOp .USub (.Constant (.int 1) k p1) p2)) p3) pos) (fRevT fe) := by
  refine PE.imp (pe_revT ha) fun σ H Q h => ?_
  obtain ⟨B, h⟩ := h
  refine ⟨B, (Run.bind h).imp fun x B1 H1 e1 h1 v rv => ?_⟩
  cases x with
  | tup xs =>
    obtain ⟨p, vs, rfl, hs, rs⟩ := rep_tup.mp rv
    refine ⟨p, vs, rfl, seqT h1.same hs, fun p' hp => ?_⟩
    have X1 := Ext.laid (o := .tup vs.reverse) h1.same hp
    exact Run.to h1 X1 _ (rep_tup.mpr ⟨p', _, rfl, SqT.of upd_same, rs.rev.mono X1.b⟩)
  | _ => obtain ⟨_, _, _, _, hf, _⟩ := h1; cases hf
theorem r_revT (fe : PS1 → Option (R D)) (s : PS1) : fRevT fe s = bnd (fe s) fun x => match x with
  | .tup xs => some (.ok (.tup xs.reverse))
  | _ => none := (rfl)
end
end FL

/-! not x of any value; the items of two walks -/
namespace FL
open PySem PySem.Spec PyProof.Rows L2
section
variable {X : Cx} {W : WX} {pos : Pos} {a : Expr} {fa : PS1 → Option (R D)}
def fNotT (fa : PS1 → Option (R D)) : PS1 → Option (R D) := fun s => bnd (fa s) fun x => bnd (lft (truD x)) fun b => some (.ok (.bl (!b)))
theorem de_notT (ha : DE X W a fa) : DE X W (.UnaryOp .Not a pos) (fNotT fa) := by
  refine PE.imp (pe_notT ha) fun σ H Q h => ?_
  obtain ⟨B, h⟩ := h
  refine ⟨B, (Run.bind h).imp fun x B1 H1 e1 h1 v rv => ?_⟩
  have h2 := Run.bind h1
  obtain ⟨b, hb, q⟩ := Run.lifted h2
  refine ⟨b, ?_, Run.now (P := RV X.K Q) (q B1 H1 (Ext.refl h1.same)) _ (rep_bl.mpr rfl)⟩
  have bh := h1.same
  cases x with
  | non => cases hb; rw [rep_non.mp rv]; rfl
  | bl k => cases hb; rw [rep_bl.mp rv]; rfl
  | int i => cases hb; rw [rep_int.mp rv]; rfl
  | str x =>
    rw [rep_str.mp rv]
    have hb : (if x.length ≤ 100000 then some ((x.length : Int) != 0) else none) = some b := hb
    split at hb
    · cases hb
      exact ⟨Nat.le_trans (by assumption) (by decide), rfl⟩
    · cases hb
  | tup xs =>
    cases hb
    obtain ⟨p, vs, rfl, q, rs⟩ := rep_tup.mp rv
    refine .inr (.inl ⟨vs, seqT bh q, ?_⟩)
    have := rs.length
    cases vs <;> cases xs <;> first | rfl | (simp at this)
  | lst xs =>
    cases hb
    obtain ⟨p, vs, rfl, q, rs⟩ := rep_lst.mp rv
    refine .inl ⟨vs, bh.seq q, ?_⟩
    have := rs.length
    cases vs <;> cases xs <;> first | rfl | (simp at this)
  | obj _ _ _ => cases hb
  | dct _ _ => cases hb
  | ref _ => cases hb
theorem r_notT (fa : PS1 → Option (R D)) (s : PS1) : fNotT fa s = bnd (fa s) fun x => bnd (lft (truD x)) fun b => some (.ok (.bl (!b))) := (rfl)
/-- two walks without a test -/
theorem lc2F_flat {α β : Type} {gi gi1 : D → PS1 → Option PS1} {fi1 : PS1 → Option (R (List D))} {vs1 : List Nat} {fe : PS1 → Option (R D)} {sw : PS1} (g : α → D) (S : α → PS1) (g1 : α → β → D) (S1 : α → β → PS1) (f : α → β → D) (m : α → List β) (l : List α)
    (h : ∀ a ∈ l, gi (g a) sw = some (S a) ∧ fi1 (S a) = some (.ok ((m a).map (g1 a))) ∧ ∀ b ∈ m a, gi1 (g1 a b) (wipeS (S a) vs1) = some (S1 a b) ∧ fe (S1 a b) = some (.ok (f a b))) :
    lc2F gi fYes fi1 vs1 gi1 fYes fe sw (l.map g) = some (l.flatMap fun a => (m a).map (f a)) := by
  induction l with
  | nil => rfl
  | cons a l ih =>
    obtain ⟨h1, h2, h3⟩ := h a (List.mem_cons_self ..)
    have i := ih fun b hb => h b (List.mem_cons_of_mem _ hb)
    rw [List.map_cons, List.flatMap_cons]
    unfold lc2F
    rw [h1]
    show (match fi1 (S a) with
      | some (.ok es) => (lcF gi1 fYes fe (wipeS (S a) vs1) es).bind fun ys => (lc2F gi fYes fi1 vs1 gi1 fYes fe sw (l.map g)).map fun zs => ys ++ zs
      | _ => none) = _
    rw [h2]
    show ((lcF gi1 fYes fe (wipeS (S a) vs1) ((m a).map (g1 a))).bind fun ys => (lc2F gi fYes fi1 vs1 gi1 fYes fe sw (l.map g)).map fun zs => ys ++ zs) = _
    rw [lcF_all (g1 a) (S1 a) (f a) (m a) h3, i]
    rfl
end
end FL

/-! zip of a tuple and a list -/
namespace FL
open PySem PySem.Spec PyProof.Rows L2
/-- the tuple at a, the list at b, side by side -/
def ItzM (K : PySem.W.Frag) (a b : Addr) : It where
  go i H := ∃ (xs ys : List V) (x y : V), (SqT K H a xs ∧ xs[i]? = some x) ∧ SqL K H b ys ∧ ys[i]? = some y
  yld i H v H' := ∃ (T : Addr) (x y : V), H T = none ∧ v = .ref T ∧ H' = upd H T (.tup [x, y]) ∧ (∀ xs, SqT K H a xs → xs[i]? = some x) ∧ ∀ ys, SqL K H b ys → ys[i]? = some y
  stop i H := ∃ xs ys : List V, SqT K H a xs ∧ SqL K H b ys ∧ i ≤ xs.length ∧ i ≤ ys.length ∧ (i = xs.length ∨ i = ys.length)
def stM (a b z TI TO i1 i2 : Addr) (i : Nat) (h : Heap) : Prop := IsZip h z TI TO .none ∧ IsTupOf2 h TI (.ref i1) (.ref i2) ∧ (∃ x y, IsTupOf2 h TO x y) ∧ h.IsTupleIter i1 a i ∧ h.IsListIter i2 b i
theorem stM_old {a b z TI TO i1 i2 : Addr} {i : Nat} {h : Heap} (st : stM a b z TI TO i1 i2 i h) : ∀ c ∈ [z, TI, TO, i1, i2], ∃ o, h.get? c = some o ∧ ∀ v, o.data ≠ Data.cell v := fun c hc => by
  obtain ⟨hz, hI, ⟨x, y, hO⟩, ⟨o1, e1, _, d1⟩, o2, e2, _, d2⟩ := st
  simp only [List.mem_cons, List.not_mem_nil, or_false] at hc
  rcases hc with rfl | rfl | rfl | rfl | rfl
  · exact ⟨_, hz, fun v q => by cases q⟩
  · exact ⟨_, hI, fun v q => by cases q⟩
  · exact ⟨_, hO, fun v q => by cases q⟩
  · exact ⟨o1, e1, fun v q => by rw [d1] at q; cases q⟩
  · exact ⟨o2, e2, fun v q => by rw [d2] at q; cases q⟩
theorem stM_keep {a b z TI TO i1 i2 : Addr} {i : Nat} {h h' : Heap} (st : stM a b z TI TO i1 i2 i h) (k : ∀ c ∈ [z, TI, TO, i1, i2], ∀ o, h.get? c = some o → h'.get? c = some o) : stM a b z TI TO i1 i2 i h' := by
  obtain ⟨hz, hI, ⟨x, y, hO⟩, h1, h2⟩ := st
  exact ⟨k _ (by simp) _ hz, k _ (by simp) _ hI, ⟨x, y, k _ (by simp) _ hO⟩, h1.at fun o q => k _ (by simp) o q, h2.at fun o q => k _ (by simp) o q⟩
theorem sepM {z TI TO i1 i2 a b : Addr} (D : ZipApart z TI TO i1 i2 a b) : ZipSep2 z TI TO i1 i2 [i1, a] [i2, b] where
  TIz := D.TIz
  TOz := D.TOz
  TITO := D.TITO
  TIi1 := D.TIi1
  TIi2 := D.TIi2
  mem1 := List.mem_cons_self ..
  mem2 := List.mem_cons_self ..
  zf1 := by simp only [List.mem_cons, List.not_mem_nil, or_false, not_or]; exact ⟨D.i1z.symm, D.l1z.symm⟩
  zf2 := by simp only [List.mem_cons, List.not_mem_nil, or_false, not_or]; exact ⟨D.i2z.symm, D.l2z.symm⟩
  Tf1 := by simp only [List.mem_cons, List.not_mem_nil, or_false, not_or]; exact ⟨D.TOi1, D.l1TO.symm⟩
  Tf2 := by simp only [List.mem_cons, List.not_mem_nil, or_false, not_or]; exact ⟨D.TOi2, D.l2TO.symm⟩
  sep1_2 := by simp only [List.mem_cons, List.not_mem_nil, or_false, not_or]; exact ⟨D.i12, D.l2i1.symm⟩
  sep2_1 := by simp only [List.mem_cons, List.not_mem_nil, or_false, not_or]; exact ⟨D.i12.symm, D.l1i2.symm⟩
theorem turnM {P : Program} {w : World} {K : PySem.W.Frag} {elts : List Expr} {kk : Nat} {tpos : Pos} {a b z TI TO i1 i2 : Addr} (D : ZipApart z TI TO i1 i2 a b) : Turn P w K (.Tuple elts kk tpos) (ItzM K a b) [z, TI, TO, i1, i2] z (stM a b z TI TO i1 i2) where
  mem := List.mem_cons_self ..
  obj := fun i h st => stM_old st
  keep := fun i h h' st k => stM_keep st k
  item := by
    intro Y eP ew eK ec i pn s τ G E J fz st ⟨xs, ys, x, y, ⟨qx, hx⟩, qy, hy⟩
    subst eP ew eK
    obtain ⟨us, rv, p, _⟩ := J.tuple qx
    obtain ⟨us2, rv2, p2, _⟩ := J.list qy
    obtain ⟨u, hu, ru⟩ := rv.get hx
    obtain ⟨u2, hu2, ru2⟩ := rv2.get hy
    have old := stM_old st
    obtain ⟨hz, hI, ⟨x0, y0, hO⟩, h1, h2⟩ := st
    have n1 : i < us.toArray.size := by have := (List.getElem?_eq_some_iff.mp hu).1; simpa using this
    have n2 : i < us2.toArray.size := by have := (List.getElem?_eq_some_iff.mp hu2).1; simpa using this
    refine wpAny_pyNext_zipD2_item (sepM D) (Draws.tuple (show Y.A.in1.handled = none from J.ok.hd ec) i1 a D.l1i1 us.toArray) (Draws.list (show Y.A.in1.handled = none from J.ok.hd ec) i2 b D.l2i2 us2.toArray) hz hI hO ⟨h1, p⟩ ⟨h2, p2.isList⟩ n1 n2 fun v1 v2 h' tk y1 y2 hz' hO' g1 g2 hT hs hk => ?_
    have ev1 : v1 = u := by
      have y1 : us.toArray[i]? = some v1 := y1
      have : us.toArray[i]? = some u := by simpa using hu
      rw [this] at y1
      exact (Option.some.inj y1).symm
    have ev2 : v2 = u2 := by
      have y2 : us2.toArray[i]? = some v2 := y2
      have : us2.toArray[i]? = some u2 := by simpa using hu2
      rw [this] at y2
      exact (Option.some.inj y2).symm
    subst ev1 ev2
    have zl : z < s.heap.objs.size := Heap.lt_size hz
    refine ⟨_, rfl, wpAny_letOwnedTupleGo_zip (s := { s with heap := h', toks := tk }) hz' fun h'' hz'' sb => ?_⟩
    have hT'' : h''.get? s.heap.objs.size = some { cls := .type "tuple", data := .seq #[v1, v2] } := (sb.2 _ (Nat.ne_of_gt zl)).trans hT
    have new : ObjOk Y.prog Y.w (upd G s.heap.objs.size (.tup [x, y])) h'' s.heap.objs.size (.tup [x, y]) := ⟨by show 2 ≤ sizeLine; decide, [v1, v2], .cons ru (.cons ru2 .nil), ⟨_, hT'', rfl, _, rfl⟩⟩
    have J2 : Inv Y pn τ (upd G s.heap.objs.size (.tup [x, y])) { s with heap := h'', toks := tk } := J.turnedNew (ch := [z, TI, TO, i1, i2]) (fun c o nc e => by
      simp only [List.mem_cons, List.not_mem_nil, or_false, not_or] at nc
      exact (sb.2 c nc.1).trans (hk c o nc.1 nc.2.2.1 nc.2.2.2.1 nc.2.2.2.2 e)) fz (Nat.le_refl _) new
    refine ⟨.ref s.heap.objs.size, _, J2, rfl, ⟨_, x, y, J.hok.fresh (Nat.le_refl _), rfl, rfl, fun l hl => by rw [J.tuple_inj hl qx]; exact hx, fun l hl => by rw [J.list_inj hl qy]; exact hy⟩, ⟨hz'', ?_, ⟨v1, v2, ?_⟩, ?_, ?_⟩, fun c hc => ?_⟩
    · exact (sb.2 _ D.TIz).trans (hk _ _ D.TIz D.TITO D.TIi1 D.TIi2 hI)
    · exact (sb.2 _ D.TOz).trans hO'
    · exact g1.1.at fun o q => (sb.2 _ D.i1z).trans q
    · exact g2.1.at fun o q => (sb.2 _ D.i2z).trans q
    · obtain ⟨o, eo, _⟩ := old c hc
      rw [upd_ne (Nat.ne_of_lt (Heap.lt_size eo))]
      exact (fz c hc).1
  done := by
    intro Y eP ew eK ec i pn s τ G E J fz st ⟨xs, ys, qx, qy, l1, l2, he⟩
    subst eP ew eK
    obtain ⟨us, rv, p, _⟩ := J.tuple qx
    obtain ⟨us2, rv2, p2, _⟩ := J.list qy
    have k1 := rv.length
    have k2 := rv2.length
    have z1 : us.toArray.size = us.length := by simp
    have z2 : us2.toArray.size = us2.length := by simp
    obtain ⟨hz, hI, ⟨x0, y0, hO⟩, h1, h2⟩ := st
    exact wpAny_pyNext_zipD2_end (sepM D) (Draws.tuple (show Y.A.in1.handled = none from J.ok.hd ec) i1 a D.l1i1 us.toArray) (Draws.list (show Y.A.in1.handled = none from J.ok.hd ec) i2 b D.l2i2 us2.toArray) hz hI hO ⟨h1, p⟩ ⟨h2, p2.isList⟩ (by omega) (by omega) (by omega) fun h' tk hk =>
      ⟨rfl, J.turnedL (ch := [z, TI, TO, i1, i2]) (fun c o nc e => by
        simp only [List.mem_cons, List.not_mem_nil, or_false, not_or] at nc
        exact hk c o nc.1 nc.2.2.1 nc.2.2.2.1 nc.2.2.2.2 e) fz⟩
  self := fun A i s Q E st h => wpAny_pyIter_zip st.1 h
def iZipM (K : PySem.W.Frag) (ta : TA) : TI := fun σ H R => ta σ H fun vs H1 => ∃ (a b : Addr) (xs ys : List V), vs = [.ref a, .ref b] ∧ SqT K H1 a xs ∧ SqL K H1 b ys ∧ R (ItzM K a b) H1
theorem pi_zipM {X : Cx} {e e2 : Expr} {ta : TA} {p pos tpos : Pos} {elts : List Expr} {kk : Nat} (hg : Gl X "zip") (hm : X.mg "zip" = none) (ha : PA X [e, e2] ta)
    (hs : starEach [e, e2] X.env = (false, eval e X.env) :: starEach [e2] X.env) (hpl : (backTo pos (starEach [e2] X.env)).any (·.1) = false) :
    PI X (.Tuple elts kk tpos) (.Call (.Name "zip" p) [e, e2] [] pos) (iZipM X.K ta) := by
  refine ⟨fun pn s τ G R J h => Call_ (ld_blt J hg hm PyProof.Rows.boot_zip (PyProof.Rows.callWith_type1 (thn (ha.run pos pn s τ G _ J h) fun us s1 ⟨vs, G1, J1, rs, got⟩ => ?_) hs hpl))⟩
  obtain ⟨a, b, xs, ys, rfl, qx, qy, q⟩ := got
  cases rs with
  | cons r1 rs =>
    cases rs with
    | cons r2 rs =>
      cases rs
      cases r1
      cases r2
      obtain ⟨us, rv, p1, _⟩ := J1.tuple qx
      obtain ⟨us2, rv2, p2, _⟩ := J1.list qy
      obtain ⟨o1, ho1, _⟩ := id p1
      refine zip_begins2 (begins_tuple a us.toArray) (begins_list b us2.toArray) p1 p2.isList fun h' hz hI hO g1 g2 hsz hk => wpAny_pyIter_zip hz ?_
      have J2 : Inv X pn τ G1 { s1 with heap := h' } := J1.kept (t' := s1.toks) hk
      refine ⟨s1.heap.objs.size + 4, [s1.heap.objs.size + 4, s1.heap.objs.size + 2, s1.heap.objs.size + 3, s1.heap.objs.size, s1.heap.objs.size + 1], _, _, G1, rfl, J2, turnM (PySem.W.ktu_apart s1.heap.objs.size a b (Heap.lt_size ho1) p2.lt), ⟨hz, hI, ⟨_, _, hO⟩, ⟨_, g1, rfl, rfl⟩, ⟨_, g2, rfl, rfl⟩⟩, fun c hc => ?_, q⟩
      have hle : s1.heap.objs.size ≤ c := by
        simp only [List.mem_cons, List.not_mem_nil, or_false] at hc
        rcases hc with rfl | rfl | rfl | rfl | rfl <;> omega
      exact J1.fpOk hle (J1.hok.fresh hle)
theorem zipD_le : ∀ (xs ys : List D), (zipD xs ys).length ≤ xs.length ∧ (zipD xs ys).length ≤ ys.length
  | [], _ => ⟨Nat.zero_le _, Nat.zero_le _⟩
  | _ :: _, [] => ⟨Nat.zero_le _, Nat.zero_le _⟩
  | x :: xs, y :: ys => by
    obtain ⟨h1, h2⟩ := zipD_le xs ys
    unfold zipD
    rw [List.length_cons, List.length_cons, List.length_cons]
    exact ⟨Nat.succ_le_succ h1, Nat.succ_le_succ h2⟩
def gZipM : List D → Option (List D)
  | [.tup xs, .lst ys] => some (zipD xs ys)
  | _ => none
theorem di_zipM {X : Cx} {W : WX} {e e2 : Expr} {fr : PS1 → Option (R (List D))} {p pos tpos : Pos} {elts : List Expr} {kk : Nat} (hg : Gl X "zip") (hm : X.mg "zip" = none) (ha : DA X W [e, e2] fr)
    (hs : starEach [e, e2] X.env = (false, eval e X.env) :: starEach [e2] X.env := by rfl) (hpl : (backTo pos (starEach [e2] X.env)).any (·.1) = false := by rfl) : DI X W (.Tuple elts kk tpos) (.Call (.Name "zip" p) [e, e2] [] pos) (fcallN gZipM fr) := by
  refine PI.imp (pi_zipM hg hm ha hs hpl) fun σ H R h => ?_
  obtain ⟨B, h⟩ := h
  refine ⟨B, (Run.bind h).imp fun ds B1 H1 e1 h1 vs rs => ?_⟩
  obtain ⟨z, hz, q⟩ := Run.lifted h1
  have bh := h1.same
  match ds, hz with
  | [.tup xs, .lst ys], hz =>
    have hz : some (zipD xs ys) = some z := hz
    cases hz
    obtain ⟨v, u, rfl, r1, r2⟩ := reps_2 rs
    obtain ⟨p1, us, rfl, s1, ru⟩ := rep_tup.mp r1
    obtain ⟨p2, us2, rfl, s2, ru2⟩ := rep_lst.mp r2
    have k1 := ru.length
    have k2 := ru2.length
    refine ⟨p1, p2, us, us2, rfl, seqT bh s1, bh.seq s2, q B1 H1 (Ext.refl bh) _ ⟨fun i d B2 H2 b2 bh2 e => ?_, fun B2 H2 b2 bh2 => ?_⟩⟩
    · obtain ⟨x, y, ex, ey, rfl⟩ := zipD_get e
      obtain ⟨w, hw, rw1⟩ := ru.get ex
      obtain ⟨w2, hw2, rw2⟩ := ru2.get ey
      have q1 := seqT (b2.trans bh2) s1
      have q2 := (b2.trans bh2).seq s2
      refine ⟨⟨us, us2, w, w2, ⟨q1, hw⟩, q2, hw2⟩, fun t H' ⟨T, a, b, hT, et, eH, ha, hb⟩ => ?_⟩
      subst et eH
      have ea := ha us q1
      have eb := hb us2 q2
      rw [hw] at ea
      rw [hw2] at eb
      cases ea
      cases eb
      have E := Ext.laid (o := .tup [w, w2]) bh2 hT
      exact ⟨_, E, rep_tup.mpr ⟨T, _, rfl, SqT.of upd_same, Reps.cons ((rw1.mono b2).mono E.b) (Reps.one ((rw2.mono b2).mono E.b))⟩⟩
    · obtain ⟨l1, l2⟩ := zipD_le xs ys
      have l3 := zipD_len xs ys
      exact ⟨us, us2, seqT (b2.trans bh2) s1, (b2.trans bh2).seq s2, by omega, by omega, by omega⟩
end FL

/-! defs that give a new list, which is then the caller's own -/
namespace FL
open PySem PySem.Spec PyProof.Rows L2
def OkL (K : PySem.W.Frag) (W : WX) (B0 H0 B : Hp) (D : Ends) : R (List FL.D) → Prop
  | .ok xs => ∀ p us B' H', Ext B0 H0 B' H' → H0 p = none → B' p = none → H' p = some (.lst us) → Reps K B' xs us → D.rt (.ref p) H'
  | .er x => ∀ cls dd σ' H' B' ad' s', Same B B' → Good K B0 H0 B' H' ad' σ' s' → RepX K B' x cls dd → W cls dd σ' H'
theorem OkL.mono {K : PySem.W.Frag} {W : WX} {B0 H0 B B' : Hp} {D : Ends} {r : R (List FL.D)} (e : Same B B') (h : OkL K W B0 H0 B D r) : OkL K W B0 H0 B' D r := by
  cases r with
  | ok xs => exact h
  | er x => exact fun cls dd σ' H' B1 ad' s' x1 => h cls dd σ' H' B1 ad' s' (e.trans x1)
def tFL (K : PySem.W.Frag) (W : WX) (f : PS1 → Option (R (List D))) : TS := fun D σ H => ∃ B0 H0 B ad s r, Good K B0 H0 B H ad σ s ∧ f s = some r ∧ OkL K W B0 H0 B D r
def fSeqL (f : PS1 → Option Fl) (g : PS1 → Option (R (List D))) : PS1 → Option (R (List D)) := fun s => match f s with
  | some (.nx s') => g s'
  | some (.er x _) => some (.er x)
  | _ => none
def fFrzL (i : Nat) (g : PS1 → Option (R (List D))) : PS1 → Option (R (List D)) := fun s => g (frz i s)
section
variable {X : Cx} {W : WX} {pos : Pos} {st : Stmt} {rest : List Stmt} {f : PS1 → Option Fl} {g fe : PS1 → Option (R (List D))} {e : Expr} {es : List Expr} {fr : PS1 → Option (R (List D))}
theorem dssL_cons (h1 : DS X W st f) (h2 : PSs X rest (tFL X.K W g)) : PSs X (st :: rest) (tFL X.K W (fSeqL f g)) := by
  refine PSs.imp (pss_cons h1 h2) fun D σ H h => ?_
  obtain ⟨B0, H0, B, ad, s, r, gd, hf, hq⟩ := h
  unfold fSeqL at hf
  cases e : f s with
  | none => rw [e] at hf; cases hf
  | some r1 =>
    rw [e] at hf
    refine ⟨B0, H0, B, ad, s, r1, gd, e, ?_⟩
    cases r1 with
    | nx s' => exact fun σ' H' B' ad' sb gd' => ⟨B0, H0, B', ad', s', r, gd', hf, hq.mono sb⟩
    | er x s' => cases hf; exact fun cls dd σ' H' B' ad' sb gd' rx => hq cls dd σ' H' B' ad' s' sb gd' rx
    | rt d => cases hf
    | bk s' => cases hf
    | ct s' => cases hf
theorem dssL_ret (he : DN X W e fe) : PSs X [.Return (some e) pos] (tFL X.K W fe) := by
  refine pss_one (PS.imp (ps_ret he) fun D σ H h => ?_)
  obtain ⟨B0, H0, B, ad, s, r, gd, hf, hq⟩ := h
  refine ⟨B, ad, s, r, gd.sl, hf, ?_⟩
  cases r with
  | ok xs => exact fun B' H' x p us hp hb hv rs => hq p us B' H' (gd.ex.trans x) (gd.ex.h.free hp) hb hv rs
  | er y => exact fun cls dd B' H' x rx => hq cls dd σ H' B' ad s x.b (gd.mono x) rx
theorem dssL_frz (i : Nat) (h : PSs X rest (tFL X.K W g)) : PSs X rest (tFL X.K W (fFrzL i g)) := PSs.imp h fun D σ H ⟨B0, H0, B, ad, s, r, gd, hf, hq⟩ => by
  obtain ⟨B', sb, gd'⟩ := gd.frz (i := i)
  exact ⟨B0, H0, B', ad, _, r, gd', hf, hq.mono sb⟩
end
/-- the def's promise -/
def spL (K : PySem.W.Frag) (n : Nat) (g : List D → Option (R (List D))) : Sp := fun vs H Q E => vs.length = n ∧ ∃ B ds r, Same B H ∧ Reps K B ds vs ∧ g ds = some r ∧ match r with
  | .ok xs => ∀ p us B' H', Ext B H B' H' → H p = none → B' p = none → H' p = some (.lst us) → Reps K B' xs us → Q (.ref p) H'
  | .er x => ∀ cls dd B' H', Ext B H B' H' → RepX K B' x cls dd → E cls dd H'
def fDefL (m : Nat) (fb : PS1 → Option (R (List D))) : List D → Option (R (List D)) := fun ds => fb (ds.map .d ++ List.replicate m .no)
theorem bodyL_imp {K : PySem.W.Frag} {N : List Str} {n m : Nat} {fb : PS1 → Option (R (List D))} {vs : List V} {H : Hp} {Q : VK} {E : XK} (hN : N.length = n + m) (h : spL K n (fDefL m fb) vs H Q E) : tFL K (WE0 E) fb { nx := fun _ H' => Q .non H', rt := Q } (L2.start N vs) H := by
  obtain ⟨hv, B, ds, r, bh, rs, hf, hq⟩ := h
  have hs : Slots K B H (fun _ => 0) (L2.start N vs) (ds.map .d ++ List.replicate m .no) := slots_start bh rs hv hN
  have no_own : ∀ (i : Nat) (x : Sl), (ds.map Sl.d ++ List.replicate m .no)[i]? = some x → x.isOwn = true → False := fun i x e o => by
    rcases List.mem_append.mp (List.mem_of_getElem? e) with q | q
    · obtain ⟨d, _, rfl⟩ := List.mem_map.mp q
      cases o
    · rw [(List.mem_replicate.mp q).2] at o
      cases o
  refine ⟨B, H, B, _, _, r, ⟨hs, Ext.refl bh, fun i x e o => (no_own i x e o).elim⟩, hf, ?_⟩
  cases r with
  | ok xs => exact fun p us B' H' x hp hb hv rs => hq p us B' H' x hp hb hv rs
  | er x => exact fun cls dd σ' H' B' ad' s' _ g' rx => hq cls dd B' H' g'.ex rx
section
variable {P : Program} {w : World} {K : PySem.W.Frag} {mg : Str → Option Value} {base : Heap}
abbrev FnL (P : Program) (w : World) (K : PySem.W.Frag) (mg : Str → Option Value) (base : Heap) (k : Nat) (f : Addr) (fd : FuncData) (ps : List Str) (n : Nat) (g : List D → Option (R (List D))) : Prop := FnOk P w K mg base (L2.CX P w) k f fd ps (spL K n g)
theorem fun_okL {x qual : Str} {st : Stmt} {f : Addr} {fd : FuncData} {N ps : List Str} {k n m : Nat} {fb : PS1 → Option (R (List D))} (F : Fun K x qual st f fd) (S : FnScope N ps (defScope st)) (hn : ps.length = n) (hm : N.length = n + m)
    (hbody : ∀ (cdv : Value) (A : Around) (outer : List Env) (s : Shared) (H : Hp) (E : XK), Room k (A.deeper (envOfC qual (defScope st) s.heap.objs.size f cdv)) →
      PSs (cxOf (L2.CX P w) P w K mg base N qual (defScope st) f cdv A outer s H E) (defBody st) (tFL K (WE0 E) fb)) : FnL P w K mg base (k + 1) f fd ps n (fDefL m fb) := by
  refine F.okX S (fun vs H Q E h => by rw [h.1, hn]) (fun cdv A outer s H vs Q E hr h => ⟨_, hbody cdv A outer s H E hr, bodyL_imp hm h⟩)
end
section
variable {X : Cx} {W : WX} {pos : Pos} {e : Expr} {es : List Expr} {fr : PS1 → Option (R (List D))}
def fOwnL (n : Nat) (g : List D → Option (R (List D))) (fr : PS1 → Option (R (List D))) : PS1 → Option (R (List D)) := fun s => bnd (fr s) fun ds => if ds.length = n then g ds else none
theorem ownL_imp {K : PySem.W.Frag} {n : Nat} {g : List D → Option (R (List D))} {σ : L2.St} {H : Hp} {Q : VK} (h : tDN K W (fOwnL n g fr) σ H Q) : tDs K W fr σ H (fun vs H1 => spL K n g vs H1 Q (WE W σ)) := by
  obtain ⟨B, h⟩ := h
  refine ⟨B, (Run.bind h).imp fun xs B1 H1 e1 h1 vs rs => ?_⟩
  obtain ⟨ad, s, r, hs, hf, hq⟩ := h1
  split at hf
  · rename_i hl
    refine ⟨by rw [rs.length]; exact hl, B1, xs, r, hs.bh, rs, hf, ?_⟩
    cases r with
    | ok d => exact fun p us B' H' x hp hb hv ru => hq B' H' x p us (e1.h.free hp) hb hv ru
    | er y => exact fun cls dd B' H' x rx => hq cls dd B' H' x rx
  · cases hf
theorem dn_callL {k n : Nat} {f : Addr} {fd : FuncData} {ps : List Str} {x : Str} {p : Pos} {g : List D → Option (R (List D))} (F : FnL X.prog X.w X.K X.mg X.base k f fd ps n g) (hr : Room k X.A) (hg : Gl X x) (hm : X.mg x = some (.ref f)) (hk : PySem.W.keepIn X.K (.ref f) = true) (hb : Binds X.K fd ps []) (tk : Takes X W)
    (ha : DA X W (e :: es) fr) (hdb : (x == ("__debug__" : Str)) = false := by decide) (he : starEach (e :: es) X.env = (false, eval e X.env) :: starEach es X.env := by rfl) (hpl : (backTo pos (starEach es X.env)).any (·.1) = false := by rfl) :
    DN X W (.Call (.Name x p) (e :: es) [] pos) (fOwnL n g fr) := PE.imp (pe_callS F hr hg hm hk hb (fun σ => passAt tk σ) ha hdb he hpl) fun _ _ _ h => ownL_imp h
theorem r_ownL (n : Nat) (g : List D → Option (R (List D))) (s : PS1) : fOwnL n g fr s = bnd (fr s) fun ds => if ds.length = n then g ds else none := (rfl)
theorem stL {f : PS1 → Option Fl} {g : PS1 → Option (R (List D))} {s s' : PS1} {r : Option (R (List D))} (h : f s = some (.nx s')) (k : g s' = r) : fSeqL f g s = r := by
  unfold fSeqL
  rw [h]
  exact k
end
/-- a constructor without defaults, called without keywords -/
theorem kbn_of {K : PySem.W.Frag} {fd : FuncData} {ps : List Str} {n : Nat} (b : Binds K fd ps []) (hn : ps.length = n) : KBn K fd ps n [] (fun us ws => us ++ ws) (fun vs zs => vs ++ zs) where
  to := fun s us ws hk h1 h2 => by
    have e : ws = [] := List.eq_nil_of_length_eq_zero h2
    subst e
    exact b s us hk (by rw [List.append_nil, h1, hn])
  rel := fun r1 r2 => r1.append r2
end FL

/-! wheels: rows of spans that come again and again -/
namespace FL
open PySem PySem.Spec PyProof.Rows L2
theorem tidy_len {b : Int} : ∀ {l : List Seg} {x : Int}, TidyF x l → (∀ s ∈ l, s.2 ≤ b) → l ≠ [] → (l.length : Int) ≤ b - x
  | [], _, _, _, h => absurd rfl h
  | s :: r, x, ⟨h1, h2, h3⟩, hb, _ => by
    have hs := hb s (List.mem_cons_self ..)
    rw [List.length_cons]
    by_cases hr : r = []
    · subst hr
      simp only [List.length_nil]
      omega
    · have := tidy_len h3 (fun u hu => hb u (List.mem_cons_of_mem _ hu)) hr
      omega
theorem tidy_app {y : Int} {B : List Seg} : ∀ {A : List Seg} {x : Int}, TidyF x A → (∀ s ∈ A, s.2 + 1 ≤ y) → x ≤ y → TidyF y B → TidyF x (A ++ B)
  | [], x, _, _, hxy, hB => hB.mono hxy
  | s :: r, x, ⟨h1, h2, h3⟩, hA, hxy, hB => ⟨h1, h2, tidy_app h3 (fun u hu => hA u (List.mem_cons_of_mem _ hu)) (hA s (List.mem_cons_self ..)) hB⟩
theorem shift_len (k : Int) (l : List Seg) : (shiftS k l).length = l.length := List.length_map ..
theorem shift_shift (a b : Int) (l : List Seg) : shiftS a (shiftS b l) = shiftS (b + a) l := by
  unfold shiftS
  rw [List.map_map]
  congr 1
  funext s
  show (s.1 + b + a, s.2 + b + a) = (s.1 + (b + a), s.2 + (b + a))
  rw [Int.add_assoc, Int.add_assoc]
theorem shift_ends {k : Int} {l : List Seg} {P : Seg → Prop} (h : ∀ u ∈ l, P (u.1 + k, u.2 + k)) : ∀ s ∈ shiftS k l, P s := fun s hs => by
  obtain ⟨u, hu, rfl⟩ := shift_mem hs
  exact h u hu
/-- a wheel's membership -/
def cyc (o p : Int) (c : List Seg) (t : Int) : Bool := hitS c ((t - o) % p)
structure Wh (p : Int) (c : List Seg) : Prop where
  p1 : 1 ≤ p
  td : TidyF 0 c
  le : ∀ s ∈ c, s.2 ≤ p
theorem Wh.len {p : Int} {c : List Seg} (w : Wh p c) : (c.length : Int) ≤ p := by
  by_cases h : c = []
  · rw [h]
    have := w.p1
    simp only [List.length_nil]
    omega
  · have := tidy_len w.td w.le h
    omega
theorem Wh.out {p : Int} {c : List Seg} (w : Wh p c) {x : Int} (h : hitS c x = true) : 0 ≤ x ∧ x < p := by
  obtain ⟨s, hs, h1, h2⟩ := hit_iff.mp h
  have := w.td.starts s hs
  have := w.le s hs
  omega
theorem emod_base {o p z t base : Int} (hb : base = o + z * p) (h0 : base ≤ t) (h1 : t < base + p) : (t - o) % p = t - base := by
  rw [show t - o = (t - base) + z * p by omega, Int.add_mul_emod_self_right]
  exact Int.emod_eq_of_lt (by omega) (by omega)
theorem cyc_turn (o p z t : Int) (c : List Seg) : cyc o p c (t + z * p) = cyc o p c t := by
  unfold cyc
  rw [show t + z * p - o = (t - o) + z * p by omega, Int.add_mul_emod_self_right]
theorem base_of (o p a : Int) (hp : 1 ≤ p) : ∃ z, a - (a - o) % p = o + z * p ∧ a - (a - o) % p ≤ a ∧ a < a - (a - o) % p + p := by
  have h1 := Int.emod_nonneg (a - o) (show p ≠ 0 by omega)
  have h2 := Int.emod_lt_of_pos (a - o) (show 0 < p by omega)
  have h3 := Int.mul_ediv_add_emod (a - o) p
  rw [Int.mul_comm] at h3
  exact ⟨(a - o) / p, by omega, by omega, by omega⟩
/-- n turns of a cycle from an instant on -/
def blk (p : Int) (c : List Seg) : Nat → Int → List Seg
  | 0, _ => []
  | n + 1, a => shiftS a c ++ blk p c n (a + p)
theorem blk_flat (p : Int) (c : List Seg) : ∀ (n : Nat) (a : Int), ((List.range n).flatMap fun j : Nat => shiftS (a + j * p) c) = blk p c n a
  | 0, a => rfl
  | n + 1, a => by
    rw [List.range_succ_eq_map, List.flatMap_cons, List.flatMap_map, blk, ← blk_flat p c n (a + p), Int.natCast_zero, Int.zero_mul, Int.add_zero]
    congr 1
    congr 1
    funext j
    rw [show ((j.succ : Nat) : Int) = (j : Int) + 1 by omega, Int.add_mul, Int.one_mul, show a + ((j : Int) * p + p) = a + p + j * p by omega]
theorem blk_len (p : Int) (c : List Seg) : ∀ (n : Nat) (a : Int), (blk p c n a).length = n * c.length
  | 0, _ => by rw [blk, Nat.zero_mul]; rfl
  | n + 1, a => by rw [blk, List.length_append, shift_len, blk_len p c n, Nat.succ_mul, Nat.add_comm]
theorem blk_valid {p : Int} {c : List Seg} (w : Wh p c) : ∀ (n : Nat) (a : Int), Valid (blk p c n a)
  | 0, _ => fun s hs => absurd hs List.not_mem_nil
  | n + 1, a => fun s hs => by
    rw [blk] at hs
    rcases List.mem_append.mp hs with q | q
    · obtain ⟨u, hu, rfl⟩ := shift_mem q
      have := w.td.valid u hu
      show u.1 + a < u.2 + a
      omega
    · exact blk_valid w n _ s q
theorem blk_in {p : Int} {c : List Seg} (w : Wh p c) : ∀ (n : Nat) (a : Int), ∀ s ∈ blk p c n a, a ≤ s.1 ∧ s.2 ≤ a + n * p
  | 0, a, s, hs => absurd hs List.not_mem_nil
  | n + 1, a, s, hs => by
    have hp := w.p1
    have e : ((n + 1 : Nat) : Int) * p = n * p + p := by rw [Int.natCast_add, Int.add_mul, show (((1 : Nat)) : Int) = 1 from rfl, Int.one_mul]
    have hn : 0 ≤ (n : Int) * p := Int.mul_nonneg (by omega) (by omega)
    rw [blk] at hs
    rw [e]
    rcases List.mem_append.mp hs with q | q
    · obtain ⟨u, hu, rfl⟩ := shift_mem q
      have := w.td.starts u hu
      have := w.le u hu
      dsimp only
      omega
    · have := blk_in w n (a + p) s q
      omega
theorem blk_hit {p : Int} {c : List Seg} (w : Wh p c) : ∀ (n : Nat) (a t : Int), hitS (blk p c n a) t = (decide (a ≤ t) && (decide (t < a + n * p) && hitS c ((t - a) % p)))
  | 0, a, t => by
    rw [blk, hit_nil]
    by_cases h : a ≤ t
    · rw [decide_eq_true h, decide_eq_false (show ¬ t < a + ((0 : Nat) : Int) * p by rw [Int.natCast_zero, Int.zero_mul]; omega)]
      rfl
    · rw [decide_eq_false h]
      rfl
  | n + 1, a, t => by
    have hp := w.p1
    have e : ((n + 1 : Nat) : Int) * p = n * p + p := by rw [Int.natCast_add, Int.add_mul, show (((1 : Nat)) : Int) = 1 from rfl, Int.one_mul]
    have hn : 0 ≤ (n : Int) * p := Int.mul_nonneg (by omega) (by omega)
    rw [blk, hit_app, shift_hit, blk_hit w n (a + p) t, e]
    have hm : (t - (a + p)) % p = (t - a) % p := by rw [show t - (a + p) = (t - a) + (-1) * p by omega, Int.add_mul_emod_self_right]
    rw [hm]
    by_cases h1 : a ≤ t
    · by_cases h2 : t < a + p
      · rw [decide_eq_true h1, decide_eq_false (show ¬ a + p ≤ t by omega), decide_eq_true (show t < a + (↑n * p + p) by omega), Int.emod_eq_of_lt (show 0 ≤ t - a by omega) (show t - a < p by omega)]
        cases hitS c (t - a) <;> rfl
      · have hno : hitS c (t - a) = false := by
          cases hh : hitS c (t - a) with
          | false => rfl
          | true => have := w.out hh; omega
        rw [hno, decide_eq_true h1, decide_eq_true (show a + p ≤ t by omega), Bool.false_or, Bool.true_and, Bool.true_and]
        congr 1
        exact decide_eq_decide.mpr (by omega)
    · have hno : hitS c (t - a) = false := by
        cases hh : hitS c (t - a) with
        | false => rfl
        | true => have := w.out hh; omega
      rw [hno, decide_eq_false h1, decide_eq_false (show ¬ a + p ≤ t by omega)]
      rfl
theorem blk_tidy {p e : Int} {c : List Seg} (h0 : TidyF e c) (h1 : ∀ s ∈ c, s.2 + 1 ≤ p + e) (hp : 1 ≤ p) : ∀ (n : Nat) (a : Int), TidyF (a + e) (blk p c n a)
  | 0, _ => trivial
  | n + 1, a => by
    rw [blk]
    have t := shift_tidy a c h0
    rw [Int.add_comm] at t
    refine tidy_app (y := a + p + e) t (shift_ends fun u hu => ?_) (by omega) ?_
    · have := h1 u hu
      show u.2 + a + 1 ≤ a + p + e
      omega
    · have := blk_tidy h0 h1 hp n (a + p)
      exact this
/-- what a wheel has within bounds, as the program puts it together -/
theorem turn_join {o p z base last a b : Int} {c : List Seg} {n : Nat} (w : Wh p c) (hb : base = o + z * p) (h1 : base ≤ a) (h2 : a < base + p) (hl : last = base + p + n * p) (h3 : last ≤ b) (h4 : b < last + p) :
    (∀ t, hitS (shiftS base (cutG (a - base) p c) ++ (blk p c n (base + p) ++ shiftS last (cutG 0 (b - last) c))) t = (decide (a ≤ t) && (decide (t < b) && cyc o p c t))) ∧
    Valid (shiftS base (cutG (a - base) p c) ++ (blk p c n (base + p) ++ shiftS last (cutG 0 (b - last) c))) ∧
    (∀ e : Int, 0 ≤ e → e ≤ 1 → TidyF e c → (∀ s ∈ c, s.2 + 1 ≤ p + e) → TidyF a (shiftS base (cutG (a - base) p c) ++ (blk p c n (base + p) ++ shiftS last (cutG 0 (b - last) c)))) := by
  have hp := w.p1
  have hn : 0 ≤ (n : Int) * p := Int.mul_nonneg (by omega) (by omega)
  obtain ⟨u1, u2, u3, u4⟩ := cutG_ok (a := a - base) (b := p) w.td
  obtain ⟨v1, v2, v3, v4⟩ := cutG_ok (a := 0) (b := b - last) w.td
  have hout : ∀ x, ¬ (0 ≤ x ∧ x < p) → hitS c x = false := fun x hx => by
    cases hh : hitS c x with
    | false => rfl
    | true => exact absurd (w.out hh) hx
  refine ⟨fun t => ?_, fun s hs => ?_, fun e e0 e1 he hs => ?_⟩
  · have hz : last = o + (z + 1 + n) * p := by rw [hl, hb, Int.add_mul, Int.add_mul, Int.one_mul]; omega
    have hm : ∀ B : Int, (∃ y : Int, B = o + y * p) → (t - B) % p = (t - o) % p := fun B ⟨y, hy⟩ => by rw [hy, show t - (o + y * p) = (t - o) + (-y) * p by rw [Int.neg_mul]; omega, Int.add_mul_emod_self_right]
    rw [hit_app, hit_app, shift_hit, shift_hit, u4, v4, blk_hit w]
    rw [hm (base + p) ⟨z + 1, by rw [hb, Int.add_mul, Int.one_mul]; omega⟩]
    unfold cyc
    by_cases c1 : t < base + p
    · by_cases c0 : base ≤ t
      · rw [emod_base hb c0 c1, decide_eq_false (show ¬ base + p ≤ t by omega), decide_eq_false (show ¬ 0 ≤ t - last by omega), decide_eq_true (show t < b by omega), decide_eq_true (show t - base < p by omega), show decide (a - base ≤ t - base) = decide (a ≤ t) from decide_eq_decide.mpr (by omega)]
        cases decide (a ≤ t) <;> cases hitS c (t - base) <;> rfl
      · rw [decide_eq_false (show ¬ base + p ≤ t by omega), decide_eq_false (show ¬ 0 ≤ t - last by omega), decide_eq_false (show ¬ a ≤ t by omega), decide_eq_false (show ¬ a - base ≤ t - base by omega)]
        rfl
    · rw [decide_eq_false (show ¬ t - base < p by omega), decide_eq_true (show base + p ≤ t by omega), decide_eq_true (show a ≤ t by omega), Bool.false_and, Bool.and_false, Bool.false_or, Bool.true_and, Bool.true_and]
      by_cases c2 : t < last
      · rw [decide_eq_true (show t < base + p + ↑n * p by omega), decide_eq_false (show ¬ 0 ≤ t - last by omega), decide_eq_true (show t < b by omega), Bool.false_and, Bool.or_false]
      · rw [decide_eq_false (show ¬ t < base + p + ↑n * p by omega), decide_eq_true (show 0 ≤ t - last by omega), Bool.false_and, Bool.false_or, Bool.true_and, show decide (t - last < b - last) = decide (t < b) from decide_eq_decide.mpr (by omega)]
        by_cases c3 : t < b
        · rw [emod_base hz (by omega) (by omega)]
        · rw [decide_eq_false c3]
          rfl
  · rcases List.mem_append.mp hs with q | q
    · obtain ⟨u, hu, rfl⟩ := shift_mem q
      have := u1.valid u hu
      show u.1 + base < u.2 + base
      omega
    · rcases List.mem_append.mp q with q | q
      · exact blk_valid w _ _ s q
      · obtain ⟨u, hu, rfl⟩ := shift_mem q
        have := v1.valid u hu
        show u.1 + last < u.2 + last
        omega
  · -- the cut pieces keep the margins
    have m1 : ∀ u ∈ cutG (a - base) p c, u.2 + 1 ≤ p + e := fun u hu => by
      have hv := u1.valid u hu
      have hh := hit_iff.mpr ⟨u, hu, show u.1 ≤ u.2 - 1 by omega, show u.2 - 1 < u.2 by omega⟩
      rw [u4, Bool.and_eq_true, Bool.and_eq_true] at hh
      obtain ⟨s, hs1, s1, s2⟩ := hit_iff.mp hh.2.2
      have := hs s hs1
      have := u3 u hu
      by_cases q : e = 1
      · omega
      · have : e = 0 := by omega
        -- an end that is cut lies on the bound
        by_cases q2 : u.2 ≤ s.2
        · omega
        · omega
    have m2 : TidyF e (cutG 0 (b - last) c) := by
      refine v1.raise fun u hu => ?_
      have hv := v1.valid u hu
      have hh := hit_iff.mpr ⟨u, hu, Int.le_refl _, hv⟩
      rw [v4, Bool.and_eq_true, Bool.and_eq_true] at hh
      obtain ⟨s, hs1, s1, s2⟩ := hit_iff.mp hh.2.2
      have := he.starts s hs1
      omega
    have t1 := shift_tidy base _ u2
    rw [Int.sub_add_cancel] at t1
    refine tidy_app (y := base + p + e) t1 (shift_ends fun u hu => ?_) (by omega) ?_
    · have := m1 u hu
      show u.2 + base + 1 ≤ base + p + e
      omega
    · have t3 := shift_tidy last _ m2
      rw [Int.add_comm] at t3
      refine tidy_app (y := last + e) (blk_tidy he hs hp n (base + p)) (fun s hs' => ?_) (by omega) t3
      -- the last end of the turns
      have hend : ∀ (m : Nat) (x : Int), ∀ s ∈ blk p c m x, s.2 + 1 ≤ x + m * p + e := fun m => by
        induction m with
        | zero => exact fun x s hs => absurd hs List.not_mem_nil
        | succ m ih =>
          intro x s hs1
          have em : ((m + 1 : Nat) : Int) * p = m * p + p := by rw [Int.natCast_add, Int.add_mul, show (((1 : Nat)) : Int) = 1 from rfl, Int.one_mul]
          have hm0 : 0 ≤ (m : Int) * p := Int.mul_nonneg (by omega) (by omega)
          rw [blk] at hs1
          rw [em]
          rcases List.mem_append.mp hs1 with q | q
          · obtain ⟨u, hu, rfl⟩ := shift_mem q
            have := hs u hu
            show u.2 + x + 1 ≤ _
            omega
          · have := ih (x + p) s q
            omega
      have := hend n (base + p) s hs'
      omega
end FL

/-! borders of a row, turns of a row that goes round, the last difference of two rows -/
namespace FL
open PySem PySem.Spec PyProof.Rows L2
section
variable {α : Type} {a : Nat → α}
def Bd (a : Nat → α) (m b : Nat) : Prop := b < m ∧ ∀ k, k < b → a k = a (m - b + k)
def MaxBd (a : Nat → α) (m b : Nat) : Prop := Bd a m b ∧ ∀ c, Bd a m c → c ≤ b
theorem bd_zero {m : Nat} (h : 0 < m) : Bd a m 0 := ⟨h, fun k hk => absurd hk (Nat.not_lt_zero k)⟩
theorem bd_ext {m b : Nat} (h : Bd a m b) (e : a b = a m) : Bd a (m + 1) (b + 1) := by
  obtain ⟨h1, h2⟩ := h
  refine ⟨by omega, fun k hk => ?_⟩
  by_cases q : k = b
  · subst q
    rw [e]
    congr 1
    omega
  · rw [h2 k (by omega)]
    congr 1
    omega
theorem bd_drop {m b : Nat} (h : Bd a (m + 1) (b + 1)) : a b = a m ∧ Bd a m b := by
  obtain ⟨h1, h2⟩ := h
  refine ⟨?_, by omega, fun k hk => ?_⟩
  · rw [h2 b (by omega)]
    congr 1
    omega
  · rw [h2 k (by omega)]
    congr 1
    omega
theorem bd_down {m b c : Nat} (h : Bd a m b) (g : Bd a m c) (l : c < b) : Bd a b c := by
  obtain ⟨h1, h2⟩ := h
  obtain ⟨g1, g2⟩ := g
  refine ⟨l, fun k hk => ?_⟩
  rw [g2 k hk, h2 (b - c + k) (by omega)]
  congr 1
  omega
theorem bd_up {m b c : Nat} (h : Bd a m b) (g : Bd a b c) : Bd a m c := by
  obtain ⟨h1, h2⟩ := h
  obtain ⟨g1, g2⟩ := g
  refine ⟨by omega, fun k hk => ?_⟩
  rw [g2 k hk, h2 (b - c + k) (by omega)]
  congr 1
  omega
/-- a border on the way to the next one -/
def Way (a : Nat → α) (i k : Nat) : Prop := Bd a i k ∧ ∀ c, Bd a (i + 1) (c + 1) → c ≤ k
theorem way_first {i k : Nat} (h : MaxBd a i k) : Way a i k := ⟨h.1, fun c hc => h.2 c (bd_drop hc).2⟩
theorem way_next {i k b : Nat} (h : Way a i k) (hk : 0 < k) (ne : a k ≠ a i) (hb : MaxBd a k b) : Way a i b := by
  refine ⟨bd_up h.1 hb.1, fun c hc => ?_⟩
  have h1 := h.2 c hc
  have h2 := bd_drop hc
  have h3 : c ≠ k := fun e => ne (e ▸ h2.1)
  exact hb.2 c (bd_down h.1 h2.2 (by omega))
theorem way_yes {i k : Nat} (h : Way a i k) (e : a k = a i) : MaxBd a (i + 1) (k + 1) := ⟨bd_ext h.1 e, fun c hc => by
  cases c with
  | zero => omega
  | succ c => have := h.2 c hc; omega⟩
theorem way_no {i : Nat} (h : Way a i 0) (ne : a 0 ≠ a i) : MaxBd a (i + 1) 0 := ⟨bd_zero (by omega), fun c hc => by
  cases c with
  | zero => omega
  | succ c =>
    have h1 := h.2 c hc
    have h2 := (bd_drop hc).1
    have : c = 0 := by omega
    subst this
    exact absurd h2 ne⟩
/-- a row that goes round is the same again, turned by so many places -/
def Rot (a : Nat → α) (n t : Nat) : Prop := ∀ i, a ((i + t) % n) = a (i % n)
theorem rot_of_bd {n b : Nat} (h : Bd a n b) (hd : n % (n - b) = 0) : Rot a n (n - b) := by
  obtain ⟨h1, h2⟩ := h
  have hT : 0 < n - b := by omega
  have hdv : (n - b) ∣ n := Nat.dvd_of_mod_eq_zero hd
  have one : ∀ i, i + (n - b) < n → a (i + (n - b)) = a i := fun i hi => by
    rw [h2 i (by omega)]
    congr 1
    omega
  have many : ∀ j i, i + (n - b) * j < n → a (i + (n - b) * j) = a i := fun j => by
    induction j with
    | zero => exact fun i _ => by rw [Nat.mul_zero, Nat.add_zero]
    | succ j ih =>
      intro i hi
      have e : (n - b) * (j + 1) = (n - b) * j + (n - b) := Nat.mul_succ _ _
      rw [e] at hi ⊢
      have := one (i + (n - b) * j) (by omega)
      rw [← Nat.add_assoc, this]
      exact ih i (by omega)
  have red : ∀ i, a (i % n) = a (i % (n - b)) := fun i => by
    have h3 := Nat.mod_add_div (i % n) (n - b)
    have h4 := Nat.mod_mod_of_dvd i hdv
    have h5 := many (i % n / (n - b)) (i % n % (n - b)) (by rw [h3]; exact Nat.mod_lt _ (by omega))
    rw [h3, h4] at h5
    exact h5
  intro i
  rw [red, red i, Nat.add_mod_right]
theorem rot_n (n : Nat) : Rot a n n := fun i => by rw [Nat.add_mod_right]
theorem rot_mul {n t : Nat} (h : Rot a n t) : ∀ (k i : Nat), a ((i + t * k) % n) = a (i % n)
  | 0, i => by rw [Nat.mul_zero, Nat.add_zero]
  | k + 1, i => by rw [Nat.mul_succ, ← Nat.add_assoc, h, rot_mul h k]
theorem rot_mod {n x y : Nat} (hx : Rot a n x) (hy : Rot a n y) : Rot a n (y % x) := fun i => by
  rw [← rot_mul hx (y / x) (i + y % x), Nat.add_assoc, Nat.mod_add_div]
  exact hy i
theorem rot_gcd {n : Nat} (x y : Nat) (hx : Rot a n x) (hy : Rot a n y) : Rot a n (Nat.gcd x y) := by
  induction x, y using Nat.gcd.induction with
  | H0 y => rw [Nat.gcd_zero_left]; exact hy
  | H1 x y h0 ih =>
    rw [Nat.gcd_rec]
    exact ih (rot_mod hx hy) hx
theorem bd_of_rot {n k : Nat} (h : Rot a n k) (h0 : 0 < k) (h1 : k < n) : Bd a n (n - k) := ⟨by omega, fun j hj => by
  have := h j
  rw [Nat.mod_eq_of_lt (show j + k < n by omega), Nat.mod_eq_of_lt (show j < n by omega)] at this
  rw [← this]
  congr 1
  omega⟩
theorem rot_red {n g : Nat} (h : Rot a n g) (h0 : 0 < g) (h1 : g ≤ n) (x : Nat) : a (x % n) = a (x % g) := by
  have := rot_mul h (x / g) (x % g)
  rw [Nat.mod_add_div] at this
  rw [this]
  by_cases q : x % g < n
  · rw [Nat.mod_eq_of_lt q]
  · have := Nat.mod_lt x h0
    omega
def turnOf (n b : Nat) : Nat := if n % (n - b) = 0 then n - b else n
theorem turn_rot {n b : Nat} (h : Bd a n b) : Rot a n (turnOf n b) ∧ 0 < turnOf n b ∧ turnOf n b ≤ n ∧ turnOf n b ∣ n := by
  have h1 := h.1
  unfold turnOf
  by_cases q : n % (n - b) = 0
  · rw [if_pos q]
    exact ⟨rot_of_bd h q, by omega, by omega, Nat.dvd_of_mod_eq_zero q⟩
  · rw [if_neg q]
    exact ⟨rot_n n, by omega, Nat.le_refl _, Nat.dvd_refl _⟩
theorem turn_min {n b m : Nat} (h : MaxBd a n b) (hr : Rot a n m) (hm : 0 < m) : turnOf n b ≤ m := by
  have hn : 0 < n := Nat.lt_of_le_of_lt (Nat.zero_le _) h.1.1
  have hg := rot_gcd m n hr (rot_n n)
  have g0 : 0 < Nat.gcd m n := Nat.gcd_pos_of_pos_left _ hm
  have gm : Nat.gcd m n ≤ m := Nat.le_of_dvd hm (Nat.gcd_dvd_left m n)
  have gn : Nat.gcd m n ∣ n := Nat.gcd_dvd_right m n
  have gle : Nat.gcd m n ≤ n := Nat.le_of_dvd hn gn
  have T := turn_rot h.1
  by_cases q : Nat.gcd m n = n
  · omega
  generalize Nat.gcd m n = g at *
  have g2 : 2 * g ≤ n := by
    obtain ⟨k, hk⟩ := gn
    rcases k with _ | _ | k
    · omega
    · omega
    · rw [hk, Nat.mul_comm]
      exact Nat.mul_le_mul_left g (by omega)
  have b1 := h.2 _ (bd_of_rot hg g0 (by omega))
  have hb := h.1.1
  have red := rot_red hg g0 gle
  -- the row goes on by n - b everywhere
  have hr0 : Rot a n (n - b) := fun i => by
    have hi := Nat.mod_lt i g0
    have e1 : a ((i + (n - b)) % n) = a ((i % g + (n - b)) % n) := by
      rw [red, red (i % g + (n - b)), Nat.mod_add_mod]
    rw [e1, Nat.mod_eq_of_lt (show i % g + (n - b) < n by omega), red i]
    have := h.1.2 (i % g) (by omega)
    rw [this]
    congr 1
    omega
  have hh := rot_gcd (n - b) n hr0 (rot_n n)
  have h0 : 0 < Nat.gcd (n - b) n := Nat.gcd_pos_of_pos_right _ hn
  have hle : Nat.gcd (n - b) n ≤ n - b := Nat.le_of_dvd (by omega) (Nat.gcd_dvd_left _ _)
  have hdv : Nat.gcd (n - b) n ∣ n := Nat.gcd_dvd_right _ _
  have b2 := h.2 _ (bd_of_rot hh h0 (by omega))
  have he : Nat.gcd (n - b) n = n - b := by omega
  rw [he] at hdv
  unfold turnOf
  rw [if_pos (Nat.mod_eq_zero_of_dvd hdv)]
  omega
end
/-! ### the last difference of two rows, told from behind -/
def TidyR : List Seg → Prop
  | [] => True
  | u :: r => u.1 < u.2 ∧ (∀ s ∈ r, s.2 + 1 ≤ u.1) ∧ TidyR r
theorem tidyR_app {s : Seg} (hs : s.1 < s.2) : ∀ {r : List Seg}, TidyR r → (∀ u ∈ r, s.2 + 1 ≤ u.1) → TidyR (r ++ [s])
  | [], _, _ => ⟨hs, fun u hu => absurd hu List.not_mem_nil, trivial⟩
  | v :: r, ⟨h1, h2, h3⟩, h => ⟨h1, fun u hu => by
    rcases List.mem_append.mp hu with q | q
    · exact h2 u q
    · rw [List.mem_singleton.mp q]
      exact h v (List.mem_cons_self ..), tidyR_app hs h3 fun u hu => h u (List.mem_cons_of_mem _ hu)⟩
theorem tidyR_of : ∀ {l : List Seg} {x : Int}, TidyF x l → TidyR l.reverse
  | [], _, _ => trivial
  | s :: l, x, ⟨h1, h2, h3⟩ => by
    rw [List.reverse_cons]
    exact tidyR_app h2 (tidyR_of h3) fun u hu => h3.starts u (List.mem_reverse.mp hu)
def luR : List Seg → List Seg → Int
  | [], [] => 0
  | [], v :: _ => v.2 - 1
  | u :: _, [] => u.2 - 1
  | u :: r, v :: q => if u.2 ≠ v.2 then (if v.2 > u.2 then v.2 else u.2) - 1 else if u.1 ≠ v.1 then (if v.1 > u.1 then v.1 else u.1) - 1 else luR r q
theorem tidyR_ends {u : Seg} {r : List Seg} (h : TidyR (u :: r)) {t : Int} (ht : u.1 - 1 ≤ t) : hitS r t = false := by
  cases q : hitS r t with
  | false => rfl
  | true =>
    obtain ⟨s, hs, h1, h2⟩ := hit_iff.mp q
    have := h.2.1 s hs
    omega
theorem tidyR_past {u : Seg} {r : List Seg} (h : TidyR (u :: r)) {t : Int} (ht : u.2 ≤ t) : hitS (u :: r) t = false := by
  rw [hit_cons, tidyR_ends h (by have := h.1; omega), Bool.or_false]
  cases q : inS t u with
  | false => rfl
  | true => have := inS_iff.mp q; omega
theorem lu_ok : ∀ (r q : List Seg), TidyR r → TidyR q → r ≠ q → hitS r (luR r q) ≠ hitS q (luR r q) ∧ ∀ t, luR r q < t → hitS r t = hitS q t
  | [], [], _, _, h => absurd rfl h
  | [], v :: q, _, hq, _ => by
    have h1 := hq.1
    refine ⟨?_, fun t ht => ?_⟩
    · show hitS [] (v.2 - 1) ≠ hitS (v :: q) (v.2 - 1)
      rw [hit_nil, hit_cons, inS_iff.mpr ⟨by omega, by omega⟩]
      simp
    · have ht : v.2 - 1 < t := ht
      rw [tidyR_past hq (by omega), hit_nil]
  | u :: r, [], hr, _, _ => by
    have h1 := hr.1
    refine ⟨?_, fun t ht => ?_⟩
    · show hitS (u :: r) (u.2 - 1) ≠ hitS [] (u.2 - 1)
      rw [hit_nil, hit_cons, inS_iff.mpr ⟨by omega, by omega⟩]
      simp
    · have ht : u.2 - 1 < t := ht
      rw [tidyR_past hr (by omega), hit_nil]
  | u :: r, v :: q, hr, hq, hne => by
    have hu := hr.1
    have hv := hq.1
    unfold luR
    by_cases e2 : u.2 = v.2
    · rw [if_neg (fun h => h e2)]
      by_cases e1 : u.1 = v.1
      · rw [if_neg (fun h => h e1)]
        have huv : u = v := Prod.ext e1 e2
        subst huv
        obtain ⟨i1, i2⟩ := lu_ok r q hr.2.2 hq.2.2 fun h => hne (by rw [h])
        refine ⟨?_, fun t ht => by rw [hit_cons, hit_cons, i2 t ht]⟩
        have hno : inS (luR r q) u = false := by
          cases hh : inS (luR r q) u with
          | false => rfl
          | true =>
            have hh := inS_iff.mp hh
            rw [tidyR_ends hr (by omega), tidyR_ends hq (by omega)] at i1
            exact absurd rfl i1
        rw [hit_cons, hit_cons, hno, Bool.false_or, Bool.false_or]
        exact i1
      · rw [if_pos e1]
        by_cases g : v.1 > u.1
        · rw [if_pos g]
          refine ⟨?_, fun t ht => ?_⟩
          · rw [hit_cons, hit_cons, inS_iff.mpr ⟨by omega, by omega⟩, tidyR_ends hq (by omega)]
            cases hh : inS (v.1 - 1) v with
            | false => simp
            | true => have := inS_iff.mp hh; omega
          · rw [hit_cons, hit_cons, tidyR_ends hr (by omega), tidyR_ends hq (by omega)]
            unfold inS
            rw [e2, decide_eq_true (show u.1 ≤ t by omega), decide_eq_true (show v.1 ≤ t by omega)]
        · rw [if_neg g]
          refine ⟨?_, fun t ht => ?_⟩
          · rw [hit_cons, hit_cons, (inS_iff (t := u.1 - 1) (s := v)).mpr ⟨by omega, by omega⟩, tidyR_ends hr (by omega)]
            cases hh : inS (u.1 - 1) u with
            | false => simp
            | true => have := inS_iff.mp hh; omega
          · rw [hit_cons, hit_cons, tidyR_ends hr (by omega), tidyR_ends hq (by omega)]
            unfold inS
            rw [e2, decide_eq_true (show u.1 ≤ t by omega), decide_eq_true (show v.1 ≤ t by omega)]
    · rw [if_pos e2]
      by_cases g : v.2 > u.2
      · rw [if_pos g]
        refine ⟨?_, fun t ht => by rw [tidyR_past hr (by omega), tidyR_past hq (by omega)]⟩
        rw [tidyR_past hr (by omega), hit_cons, inS_iff.mpr ⟨by omega, by omega⟩]
        simp
      · rw [if_neg g]
        refine ⟨?_, fun t ht => by rw [tidyR_past hr (by omega), tidyR_past hq (by omega)]⟩
        rw [tidyR_past hq (by omega), hit_cons (s := u), inS_iff.mpr ⟨by omega, by omega⟩]
        simp
theorem hit_rev (l : List Seg) (t : Int) : hitS l.reverse t = hitS l t := hit_perm (List.reverse_perm l) t
theorem lu_rows {l m : List Seg} {x y : Int} (hl : TidyF x l) (hm : TidyF y m) (h : l ≠ m) : hitS l (luR l.reverse m.reverse) ≠ hitS m (luR l.reverse m.reverse) ∧ ∀ t, luR l.reverse m.reverse < t → hitS l t = hitS m t := by
  have := lu_ok _ _ (tidyR_of hl) (tidyR_of hm) fun e => h (List.reverse_inj.mp e)
  rw [hit_rev, hit_rev] at this
  refine ⟨this.1, fun t ht => ?_⟩
  have := this.2 t ht
  rw [hit_rev, hit_rev] at this
  exact this
end FL

/-! the spans of a cycle as they go round, its periods -/
namespace FL
open PySem PySem.Spec PyProof.Rows L2
def Wn (p : Int) (l : List Seg) (t : Int) : Prop := ∃ s ∈ l, ∃ z : Int, s.1 + z * p ≤ t ∧ t < s.2 + z * p
theorem wn_cyc {p : Int} {c : List Seg} (w : Wh p c) (t : Int) : cyc 0 p c t = true ↔ Wn p c t := by
  have hp := w.p1
  unfold cyc
  rw [Int.sub_zero]
  constructor
  · intro h
    obtain ⟨s, hs, h1, h2⟩ := hit_iff.mp h
    have := Int.mul_ediv_add_emod t p
    rw [Int.mul_comm] at this
    exact ⟨s, hs, t / p, by omega, by omega⟩
  · rintro ⟨s, hs, z, h1, h2⟩
    have := w.td.starts s hs
    have := w.le s hs
    have e : t % p = t - z * p := by
      have := emod_base (o := 0) (p := p) (z := z) (t := t) (base := z * p) (by omega) (by omega) (by omega)
      rw [Int.sub_zero] at this
      exact this
    rw [e]
    exact hit_iff.mpr ⟨s, hs, by omega, by omega⟩
theorem wn_wrap {p : Int} {s w : Seg} {mid : List Seg} (h0 : s.1 = 0) (hw : w.2 = p) (hw2 : w.1 < w.2) (hs2 : s.1 < s.2) (t : Int) : Wn p (s :: (mid ++ [w])) t ↔ Wn p (mid ++ [(w.1, p + s.2)]) t := by
  constructor
  · rintro ⟨u, hu, z, h1, h2⟩
    rcases List.mem_cons.mp hu with q | q
    · subst q
      refine ⟨(w.1, p + u.2), List.mem_append.mpr (.inr (List.mem_singleton.mpr rfl)), z - 1, ?_, ?_⟩
      · rw [Int.sub_mul]; dsimp only; omega
      · rw [Int.sub_mul]; dsimp only; omega
    · rcases List.mem_append.mp q with q | q
      · exact ⟨u, List.mem_append.mpr (.inl q), z, h1, h2⟩
      · rw [List.mem_singleton.mp q] at h1 h2
        exact ⟨(w.1, p + s.2), List.mem_append.mpr (.inr (List.mem_singleton.mpr rfl)), z, h1, by dsimp only; omega⟩
  · rintro ⟨u, hu, z, h1, h2⟩
    rcases List.mem_append.mp hu with q | q
    · exact ⟨u, List.mem_cons_of_mem _ (List.mem_append.mpr (.inl q)), z, h1, h2⟩
    · rw [List.mem_singleton.mp q] at h1 h2
      dsimp only at h1 h2
      by_cases g : t < p + z * p
      · exact ⟨w, List.mem_cons_of_mem _ (List.mem_append.mpr (.inr (List.mem_singleton.mpr rfl))), z, h1, by omega⟩
      · exact ⟨s, List.mem_cons_self .., z + 1, by rw [Int.add_mul]; omega, by rw [Int.add_mul]; omega⟩
/-- spans that go round -/
structure Circ (p : Int) (s0 : Int) (R : List Seg) : Prop where
  p1 : 1 ≤ p
  ne : R ≠ []
  td : TidyF s0 R
  hd : (R.getD 0 (0, 0)).1 = s0
  en : ∀ s ∈ R, s.2 < s0 + p
section
variable {p s0 : Int} {R : List Seg}
def sq (p : Int) (R : List Seg) (i : Nat) : Int := (R.getD (i % R.length) (0, 0)).1 + p * ((i / R.length : Nat) : Int)
theorem Circ.n0 (w : Circ p s0 R) : 0 < R.length := List.length_pos_iff.mpr w.ne
theorem sq_turn (w : Circ p s0 R) (i k : Nat) : sq p R (i + R.length * k) = sq p R i + p * (k : Int) := by
  have := w.n0
  unfold sq
  rw [Nat.add_mul_mod_self_left, Nat.add_mul_div_left _ _ this, Int.natCast_add, Int.mul_add, Int.add_assoc]
theorem sq_n (w : Circ p s0 R) (i : Nat) : sq p R (i + R.length) = sq p R i + p := by
  have := sq_turn w i 1
  rw [Nat.mul_one] at this
  rw [this]
  show _ + p * 1 = _
  rw [Int.mul_one]
theorem sq_lt (w : Circ p s0 R) {i : Nat} (h : i < R.length) : sq p R i = (R.getD i (0, 0)).1 := by
  unfold sq
  rw [Nat.mod_eq_of_lt h, Nat.div_eq_of_lt h]
  show _ + p * 0 = _
  rw [Int.mul_zero, Int.add_zero]
theorem sq_0 (w : Circ p s0 R) : sq p R 0 = s0 := by rw [sq_lt w w.n0, w.hd]
theorem sq_end (w : Circ p s0 R) : sq p R R.length = s0 + p := by
  have := sq_n w 0
  rw [Nat.zero_add] at this
  rw [this, sq_0 w]
/-- the length of a span and the way to the next one -/
def stp (p : Int) (R : List Seg) (i : Nat) : Seg := ((R.getD i (0, 0)).2 - (R.getD i (0, 0)).1, sq p R (i + 1) - sq p R i)
theorem tidy_get : ∀ {l : List Seg} {x : Int}, TidyF x l → ∀ i, i + 1 < l.length → (l.getD i (0, 0)).2 + 1 ≤ (l.getD (i + 1) (0, 0)).1
  | [], _, _, i, h => by simp only [List.length_nil] at h; omega
  | s :: r, x, ⟨h1, h2, h3⟩, i, h => by
    simp only [List.length_cons] at h
    cases i with
    | succ i =>
      have := tidy_get h3 i (by omega)
      rw [List.getD_cons_succ, List.getD_cons_succ]
      exact this
    | zero =>
      cases r with
      | nil => simp only [List.length_nil] at h; omega
      | cons u r => exact h3.1
theorem get_mem {l : List Seg} {i : Nat} (h : i < l.length) : l.getD i (0, 0) ∈ l := by
  rw [List.getD_eq_getElem?_getD, List.getElem?_eq_getElem h]
  exact List.getElem_mem h
/-- a span ends ahead of the next one's start -/
theorem stp_ok (w : Circ p s0 R) {i : Nat} (h : i < R.length) : 0 < (stp p R i).1 ∧ (stp p R i).1 < (stp p R i).2 := by
  have hv := w.td.valid _ (get_mem h)
  unfold stp
  refine ⟨by dsimp only; omega, ?_⟩
  dsimp only
  rw [sq_lt w h]
  by_cases q : i + 1 < R.length
  · rw [sq_lt w q]
    have := tidy_get w.td i q
    omega
  · have e : i + 1 = R.length := by omega
    rw [e, sq_end w]
    have := w.en _ (get_mem h)
    omega
theorem sq_step (w : Circ p s0 R) (i : Nat) : sq p R (i + 1) = sq p R i + (stp p R (i % R.length)).2 := by
  have h1 := sq_turn w (i % R.length) (i / R.length)
  have h2 := sq_turn w (i % R.length + 1) (i / R.length)
  rw [Nat.mod_add_div] at h1
  rw [show i % R.length + 1 + R.length * (i / R.length) = i % R.length + R.length * (i / R.length) + 1 by omega, Nat.mod_add_div] at h2
  unfold stp
  dsimp only
  omega
theorem sq_mono (w : Circ p s0 R) (i : Nat) : sq p R i < sq p R (i + 1) := by
  have := stp_ok w (Nat.mod_lt i w.n0)
  rw [sq_step w]
  omega
theorem sq_lt_of (w : Circ p s0 R) (i : Nat) : ∀ j, 0 < j → sq p R i < sq p R (i + j)
  | 0, h => absurd h (Nat.lt_irrefl 0)
  | j + 1, _ => by
    have h1 := sq_mono w (i + j)
    by_cases q : j = 0
    · subst q; exact h1
    · have := sq_lt_of w i j (by omega)
      rw [← Nat.add_assoc]
      omega
/-- membership, told by places -/
theorem wn_sq (w : Circ p s0 R) (t : Int) : Wn p R t ↔ ∃ (i : Nat) (z : Int), sq p R i + z * p ≤ t ∧ t < sq p R i + (stp p R (i % R.length)).1 + z * p := by
  constructor
  · rintro ⟨s, hs, z, h1, h2⟩
    obtain ⟨i, hi, e⟩ := List.getElem_of_mem hs
    have eg : R.getD i (0, 0) = s := by rw [List.getD_eq_getElem?_getD, List.getElem?_eq_getElem hi, e]; rfl
    refine ⟨i, z, ?_, ?_⟩
    · rw [sq_lt w hi, eg]; exact h1
    · rw [sq_lt w hi, Nat.mod_eq_of_lt hi]
      unfold stp
      rw [eg]
      dsimp only
      omega
  · rintro ⟨i, z, h1, h2⟩
    have hi := Nat.mod_lt i w.n0
    refine ⟨R.getD (i % R.length) (0, 0), get_mem hi, z + ((i / R.length : Nat) : Int), ?_, ?_⟩
    · unfold sq at h1
      rw [Int.add_mul, Int.mul_comm (((i / R.length : Nat)) : Int) p]
      omega
    · unfold sq stp at h2
      dsimp only at h2
      rw [Int.add_mul, Int.mul_comm (((i / R.length : Nat)) : Int) p]
      omega
theorem sq_rot (w : Circ p s0 R) {T : Nat} (h : Rot (stp p R) R.length T) : ∀ i, sq p R (i + T) = sq p R i + (sq p R T - s0)
  | 0 => by rw [Nat.zero_add, sq_0 w]; omega
  | i + 1 => by
    have := sq_rot w h i
    rw [Nat.add_right_comm, sq_step w (i + T), sq_step w i, h i]
    omega
theorem sq_rots (w : Circ p s0 R) {T : Nat} (h : Rot (stp p R) R.length T) : ∀ k : Nat, sq p R (T * k) = s0 + k * (sq p R T - s0)
  | 0 => by rw [Nat.mul_zero, sq_0 w]; show s0 = s0 + 0 * _; rw [Int.zero_mul, Int.add_zero]
  | k + 1 => by rw [Nat.mul_succ, sq_rot w h, sq_rots w h k, Int.natCast_add, Int.add_mul]; show _ = _ + (_ + 1 * _); rw [Int.one_mul]; omega
/-- a turn makes a period -/
theorem rot_per (w : Circ p s0 R) {T : Nat} (h : Rot (stp p R) R.length T) (h0 : 0 < T) (hd : T ∣ R.length) : 1 ≤ sq p R T - s0 ∧ sq p R T - s0 ≤ p ∧ (∃ k : Nat, p = k * (sq p R T - s0)) ∧ ∀ t, Wn p R (t + (sq p R T - s0)) ↔ Wn p R t := by
  have q1 : 1 ≤ sq p R T - s0 := by
    have := sq_lt_of w 0 T h0
    rw [Nat.zero_add, sq_0 w] at this
    omega
  obtain ⟨k, hk⟩ := hd
  have hpk : p = k * (sq p R T - s0) := by
    have := sq_rots w h k
    rw [← hk, sq_end w] at this
    omega
  have fwd : ∀ t, Wn p R t → Wn p R (t + (sq p R T - s0)) := fun t ht => by
    obtain ⟨i, z, h1, h2⟩ := (wn_sq w t).mp ht
    refine (wn_sq w _).mpr ⟨i + T, z, ?_, ?_⟩
    · rw [sq_rot w h]; omega
    · rw [sq_rot w h, h i]; omega
  have many : ∀ (j : Nat) t, Wn p R t → Wn p R (t + j * (sq p R T - s0)) := fun j => by
    induction j with
    | zero => intro t ht; rw [show t + ((0 : Nat) : Int) * (sq p R T - s0) = t by rw [Int.natCast_zero, Int.zero_mul, Int.add_zero]]; exact ht
    | succ j ih =>
      intro t ht
      have := fwd _ (ih t ht)
      rw [show t + ((j + 1 : Nat) : Int) * (sq p R T - s0) = t + j * (sq p R T - s0) + (sq p R T - s0) by rw [Int.natCast_add, Int.add_mul]; show _ + (_ + 1 * _) = _; rw [Int.one_mul]; omega]
      exact this
  have k1 : 1 ≤ k := by
    rcases k with _ | k
    · rw [Nat.mul_zero] at hk
      exact absurd hk (by have := w.n0; omega)
    · omega
  have turn : ∀ t, Wn p R (t + p) → Wn p R t := fun t ⟨s, hs, z, h1, h2⟩ => ⟨s, hs, z - 1, by rw [Int.sub_mul]; omega, by rw [Int.sub_mul]; omega⟩
  refine ⟨q1, ?_, ⟨k, hpk⟩, fun t => ⟨fun ht => ?_, fwd t⟩⟩
  · have : (1 : Int) * (sq p R T - s0) ≤ k * (sq p R T - s0) := Int.mul_le_mul_of_nonneg_right (by omega) (by omega)
    omega
  · have h3 := many (k - 1) _ ht
    refine turn t ?_
    have e : t + p = t + (sq p R T - s0) + ((k - 1 : Nat) : Int) * (sq p R T - s0) := by
      have : ((k : Nat) : Int) * (sq p R T - s0) = ((k - 1 : Nat) : Int) * (sq p R T - s0) + (sq p R T - s0) := by
        rw [show ((k : Nat) : Int) = ((k - 1 : Nat) : Int) + 1 by omega, Int.add_mul, Int.one_mul]
      omega
    rw [e]
    exact h3
end
/-- a period of a wheel -/
structure Per (p : Int) (c : List Seg) (q : Int) : Prop where
  q1 : 1 ≤ q
  le : q ≤ p
  go : ∀ t, cyc 0 p c (t + q) = cyc 0 p c t
theorem Per.nat {p q : Int} {c : List Seg} (h : Per p c q) : ∀ (n : Nat) (t : Int), cyc 0 p c (t + n * q) = cyc 0 p c t
  | 0, t => by rw [Int.natCast_zero, Int.zero_mul, Int.add_zero]
  | n + 1, t => by rw [show t + ((n + 1 : Nat) : Int) * q = t + n * q + q by rw [Int.natCast_add, Int.add_mul]; show _ + (_ + 1 * _) = _; rw [Int.one_mul]; omega, h.go, h.nat n]
theorem Per.int {p q : Int} {c : List Seg} (h : Per p c q) (z t : Int) : cyc 0 p c (t + z * q) = cyc 0 p c t := by
  rcases Int.eq_nat_or_neg z with ⟨n, e | e⟩
  · rw [e]; exact h.nat n t
  · rw [e, ← h.nat n (t + -(n : Int) * q)]
    congr 1
    rw [Int.neg_mul]
    omega
/-- the wheel told with the shorter period -/
theorem Per.cut {p q : Int} {c : List Seg} (w : Wh p c) (h : Per p c q) : Wh q (cutG 0 q c) ∧ ∀ o t, cyc o q (cutG 0 q c) t = cyc o p c t := by
  have hq := h.q1
  have hqp := h.le
  obtain ⟨u1, u2, u3, u4⟩ := cutG_ok (a := 0) (b := q) w.td
  refine ⟨⟨h.q1, u1, fun s hs => (u3 s hs).2⟩, fun o t => ?_⟩
  unfold cyc
  have m0 := Int.emod_nonneg (t - o) (show q ≠ 0 by omega)
  have m1 := Int.emod_lt_of_pos (t - o) (show 0 < q by omega)
  rw [u4, decide_eq_true m0, decide_eq_true m1, Bool.true_and, Bool.true_and]
  have e := h.int ((t - o) / q) ((t - o) % q)
  rw [Int.mul_comm, Int.add_comm, Int.mul_ediv_add_emod] at e
  unfold cyc at e
  rw [Int.sub_zero, Int.sub_zero] at e
  rw [e, Int.emod_eq_of_lt m0 (by omega)]
def runsS (p : Int) : List Seg → List Seg
  | [] => []
  | s :: r => if s.1 > 0 ∨ (((s :: r).getLast (by simp)).2 < p) then s :: r else r.dropLast ++ [(((s :: r).getLast (by simp)).1, p + s.2)]
theorem runs_ok {p : Int} {c : List Seg} (w : Wh p c) (hne : c ≠ []) (hf : c ≠ [(0, p)]) : ∃ s0, Circ p s0 (runsS p c) ∧ ∀ t, cyc 0 p c t = true ↔ Wn p (runsS p c) t := by
  have hp := w.p1
  cases c with
  | nil => exact absurd rfl hne
  | cons s r =>
    have h1 := w.td.1
    have h2 := w.td.2.1
    have h3 := w.td.2.2
    by_cases q : s.1 > 0 ∨ (((s :: r).getLast (by simp)).2 < p)
    · have e2 : runsS p (s :: r) = s :: r := if_pos q
      rw [e2]
      refine ⟨s.1, ?_, ?_⟩
      · refine ⟨hp, hne, ⟨Int.le_refl _, h2, h3⟩, rfl, fun u hu => ?_⟩
        rcases q with q | q
        · have := w.le u hu
          omega
        · -- every end is at most the last one
          have key : ∀ (l : List Seg) (x : Int) (hl : l ≠ []), TidyF x l → ∀ u ∈ l, u.2 ≤ (l.getLast hl).2 := fun l => by
            induction l with
            | nil => exact fun x hl => absurd rfl hl
            | cons a l ih =>
              intro x hl ht u hu
              by_cases e : l = []
              · subst e
                rw [List.mem_singleton.mp hu]
                exact Int.le_refl _
              · rw [List.getLast_cons e]
                rcases List.mem_cons.mp hu with g | g
                · rw [g]
                  have := ht.2.2.starts _ (List.getLast_mem e)
                  have := ht.2.2.valid _ (List.getLast_mem e)
                  omega
                · exact ih _ e ht.2.2 u g
          have := key _ _ (by simp) w.td u hu
          omega
      · exact wn_cyc w
    · have q1 : s.1 = 0 := by omega
      have hr : r ≠ [] := fun e => by
        subst e
        have hl := w.le s (List.mem_cons_self ..)
        rw [List.getLast_singleton] at q
        apply hf
        have : s = (0, p) := Prod.ext q1 (by omega)
        rw [this]
      obtain ⟨mid, v, hv⟩ : ∃ mid v, r = mid ++ [v] := ⟨r.dropLast, r.getLast hr, (List.dropLast_concat_getLast hr).symm⟩
      subst hv
      have hlast : (s :: (mid ++ [v])).getLast (List.cons_ne_nil _ _) = v := List.getLast_concat (l := s :: mid) (a := v)
      have e2 : runsS p (s :: (mid ++ [v])) = mid ++ [(v.1, p + s.2)] := by
        show (if s.1 > 0 ∨ (((s :: (mid ++ [v])).getLast (by simp)).2 < p) then s :: (mid ++ [v]) else (mid ++ [v]).dropLast ++ [(((s :: (mid ++ [v])).getLast (by simp)).1, p + s.2)]) = _
        rw [if_neg q, hlast, List.dropLast_concat]
      rw [hlast] at q
      have hvle := w.le v (List.mem_cons_of_mem _ (List.mem_append.mpr (.inr (List.mem_singleton.mpr rfl))))
      have q2 : v.2 = p := by omega
      rw [e2]
      have hvv := h3.valid v (List.mem_append.mpr (.inr (List.mem_singleton.mpr rfl)))
      have hR : TidyF (s.2 + 1) (mid ++ [(v.1, p + s.2)]) := by
        have : ∀ (l : List Seg) (x : Int), TidyF x (l ++ [v]) → TidyF x (l ++ [(v.1, p + s.2)]) := fun l => by
          induction l with
          | nil => exact fun x h => ⟨h.1, show v.1 < p + s.2 by omega, trivial⟩
          | cons a l ih => exact fun x h => ⟨h.1, h.2.1, ih _ h.2.2⟩
        exact this mid _ h3
      refine ⟨((mid ++ [(v.1, p + s.2)]).getD 0 (0, 0)).1, ⟨hp, by simp, ?_, rfl, ?_⟩, fun t => (wn_cyc w t).trans (wn_wrap q1 q2 hvv h2 t)⟩
      · refine hR.raise fun u hu => ?_
        cases mid with
        | nil =>
          rw [List.mem_singleton.mp hu]
          exact Int.le_refl _
        | cons a mid =>
          show a.1 ≤ u.1
          have ha := hR.2.1
          rcases List.mem_cons.mp hu with g | g
          · rw [g]; exact Int.le_refl _
          · have := hR.2.2.starts u g
            omega
      · intro u hu
        have hs0 : s.2 + 1 ≤ ((mid ++ [(v.1, p + s.2)]).getD 0 (0, 0)).1 := hR.starts _ (get_mem (by rw [List.length_append]; show 0 < _ + 1; omega))
        rcases List.mem_append.mp hu with g | g
        · have := w.le u (List.mem_cons_of_mem _ (List.mem_append.mpr (.inl g)))
          omega
        · rw [List.mem_singleton.mp g]
          show p + s.2 < _
          omega
end FL

/-! how many instants -/
namespace FL
open PySem PySem.Spec PyProof.Rows L2
def one (b : Bool) : Int := if b then 1 else 0
def cnt (f : Int → Bool) (a : Int) : Nat → Int
  | 0 => 0
  | n + 1 => cnt f a n + one (f (a + (n : Int)))
theorem one_b (b : Bool) : 0 ≤ one b ∧ one b ≤ 1 := by cases b <;> (unfold one; simp)
theorem cnt_b (f : Int → Bool) (a : Int) : ∀ n : Nat, 0 ≤ cnt f a n ∧ cnt f a n ≤ n
  | 0 => ⟨Int.le_refl _, Int.le_refl _⟩
  | n + 1 => by
    have := cnt_b f a n
    have := one_b (f (a + (n : Int)))
    unfold cnt
    omega
theorem cnt_add (f : Int → Bool) (a : Int) (m : Nat) : ∀ n : Nat, cnt f a (m + n) = cnt f a m + cnt f (a + (m : Int)) n
  | 0 => by show cnt f a m = cnt f a m + 0; omega
  | n + 1 => by
    show cnt f a (m + n) + one (f (a + ((m + n : Nat) : Int))) = cnt f a m + (cnt f (a + (m : Int)) n + one (f (a + (m : Int) + (n : Int))))
    rw [cnt_add f a m n, show a + ((m + n : Nat) : Int) = a + (m : Int) + (n : Int) by omega]
    omega
theorem cnt_congr {f g : Int → Bool} {a : Int} : ∀ {n : Nat}, (∀ t, a ≤ t → t < a + n → f t = g t) → cnt f a n = cnt g a n
  | 0, _ => rfl
  | n + 1, h => by
    show cnt f a n + one (f (a + (n : Int))) = cnt g a n + one (g (a + (n : Int)))
    rw [cnt_congr (n := n) fun t h1 h2 => h t h1 (by omega), h (a + (n : Int)) (by omega) (by omega)]
theorem cnt_no {f : Int → Bool} {a : Int} : ∀ {n : Nat}, (∀ t, a ≤ t → t < a + n → f t = false) → cnt f a n = 0
  | 0, _ => rfl
  | n + 1, h => by
    show cnt f a n + one (f (a + (n : Int))) = 0
    rw [cnt_no (n := n) fun t h1 h2 => h t h1 (by omega), h (a + (n : Int)) (by omega) (by omega)]
    rfl
theorem cnt_all {f : Int → Bool} {a : Int} : ∀ {n : Nat}, (∀ t, a ≤ t → t < a + n → f t = true) → cnt f a n = n
  | 0, _ => rfl
  | n + 1, h => by
    show cnt f a n + one (f (a + (n : Int))) = ((n + 1 : Nat) : Int)
    rw [cnt_all (n := n) fun t h1 h2 => h t h1 (by omega), h (a + (n : Int)) (by omega) (by omega)]
    show (n : Int) + 1 = _
    omega
/-- from one bound to another -/
def cntI (f : Int → Bool) (a b : Int) : Int := cnt f a (b - a).toNat
theorem cntI_b (f : Int → Bool) {a b : Int} (h : a ≤ b) : 0 ≤ cntI f a b ∧ cntI f a b ≤ b - a := by
  have := cnt_b f a (b - a).toNat
  unfold cntI
  omega
theorem cntI_add (f : Int → Bool) {a b d : Int} (h1 : a ≤ b) (h2 : b ≤ d) : cntI f a d = cntI f a b + cntI f b d := by
  unfold cntI
  have := cnt_add f a (b - a).toNat (d - b).toNat
  rw [show a + (((b - a).toNat : Nat) : Int) = b by omega, show (b - a).toNat + (d - b).toNat = (d - a).toNat by omega] at this
  exact this
theorem cntI_congr {f g : Int → Bool} {a b : Int} (h : ∀ t, a ≤ t → t < b → f t = g t) : cntI f a b = cntI g a b := cnt_congr fun t h1 h2 => h t h1 (by omega)
theorem cntI_no {f : Int → Bool} {a b : Int} (h : ∀ t, a ≤ t → t < b → f t = false) : cntI f a b = 0 := cnt_no fun t h1 h2 => h t h1 (by omega)
theorem cntI_all {f : Int → Bool} {a b : Int} (hab : a ≤ b) (h : ∀ t, a ≤ t → t < b → f t = true) : cntI f a b = b - a := by
  unfold cntI
  rw [cnt_all fun t h1 h2 => h t h1 (by omega)]
  omega
theorem cntI_self (f : Int → Bool) (a : Int) : cntI f a a = 0 := by unfold cntI; rw [show (a - a).toNat = 0 by omega]; rfl
theorem cntI_out {f : Int → Bool} {a b : Int} (h : b ≤ a) : cntI f a b = 0 := by unfold cntI; rw [show (b - a).toNat = 0 by omega]; rfl
theorem cntI_one (f : Int → Bool) (a : Int) : cntI f a (a + 1) = one (f a) := by
  unfold cntI
  rw [show (a + 1 - a).toNat = 1 by omega]
  show 0 + one (f (a + ((0 : Nat) : Int))) = _
  rw [Int.natCast_zero, Int.add_zero, Int.zero_add]
/-- the number of instants of a tidy row -/
def totS : List Seg → Int
  | [] => 0
  | s :: r => (s.2 - s.1) + totS r
theorem tot_cnt : ∀ {r : List Seg} {a b : Int}, TidyF a r → (∀ s ∈ r, s.2 ≤ b) → a ≤ b → totS r = cntI (hitS r) a b
  | [], a, b, _, _, _ => by rw [cntI_no fun t _ _ => hit_nil t]; rfl
  | s :: r, a, b, ⟨h1, h2, h3⟩, hb, hab => by
    have hs := hb s (List.mem_cons_self ..)
    have out : ∀ t, t < s.1 → hitS (s :: r) t = false := fun t ht => by
      cases q : hitS (s :: r) t with
      | false => rfl
      | true =>
        have : TidyF s.1 (s :: r) := ⟨Int.le_refl _, h2, h3⟩
        have := this.low q
        omega
    have far : ∀ t, t < s.2 + 1 → hitS r t = false := fun t ht => by
      cases q : hitS r t with
      | false => rfl
      | true => have := h3.low q; omega
    rw [cntI_add (b := s.1) _ h1 (by omega), cntI_add (a := s.1) (b := s.2) _ (by omega) hs, cntI_no (a := a) (b := s.1) fun t _ h => out t h, cntI_all (a := s.1) (b := s.2) (by omega) fun t g1 g2 => by rw [hit_cons, inS_iff.mpr ⟨g1, g2⟩]; rfl]
    have e : cntI (hitS (s :: r)) s.2 b = totS r := by
      rw [tot_cnt (a := s.2) (b := b) (h3.mono (by omega)) (fun u hu => hb u (List.mem_cons_of_mem _ hu)) hs]
      refine cntI_congr fun t g1 g2 => ?_
      rw [hit_cons]
      cases q : inS t s with
      | false => rfl
      | true => have := inS_iff.mp q; omega
    rw [e]
    show s.2 - s.1 + totS r = 0 + (s.2 - s.1 + totS r)
    omega
/-- a turn has always the same number -/
theorem cnt_turn {f : Int → Bool} {p : Nat} (hf : ∀ t, f (t + p) = f t) (a : Int) : cnt f (a + 1) p = cnt f a p := by
  have h1 := cnt_add f a 1 p
  have h2 := cnt_add f a p 1
  rw [Nat.add_comm p 1] at h2
  have e1 : cnt f a 1 = one (f a) := by
    show 0 + one (f (a + ((0 : Nat) : Int))) = _
    rw [Int.natCast_zero, Int.add_zero, Int.zero_add]
  have e2 : cnt f (a + (p : Int)) 1 = one (f a) := by
    show 0 + one (f (a + (p : Int) + ((0 : Nat) : Int))) = _
    rw [Int.natCast_zero, Int.add_zero, Int.zero_add, hf]
  have e3 : a + ((1 : Nat) : Int) = a + 1 := rfl
  rw [e1, e3] at h1
  rw [e2] at h2
  omega
theorem cnt_any {f : Int → Bool} {p : Nat} (hf : ∀ t, f (t + p) = f t) (a : Int) : ∀ n : Nat, cnt f (a + (n : Int)) p = cnt f a p
  | 0 => by rw [Int.natCast_zero, Int.add_zero]
  | n + 1 => by
    rw [show a + ((n + 1 : Nat) : Int) = a + (n : Int) + 1 by omega, cnt_turn hf, cnt_any hf a n]
theorem cnt_from {f : Int → Bool} {p : Nat} (hf : ∀ t, f (t + p) = f t) (a b : Int) : cnt f a p = cnt f b p := by
  rcases Int.le_total a b with h | h
  · have := cnt_any hf a (b - a).toNat
    rw [show a + (((b - a).toNat : Nat) : Int) = b by omega] at this
    exact this.symm
  · have := cnt_any hf b (a - b).toNat
    rw [show b + (((a - b).toNat : Nat) : Int) = a by omega] at this
    exact this
theorem cnt_turns {f : Int → Bool} {p : Nat} (hf : ∀ t, f (t + p) = f t) (a : Int) : ∀ k : Nat, cnt f a (k * p) = k * cnt f a p
  | 0 => by rw [Nat.zero_mul, Int.natCast_zero, Int.zero_mul]; rfl
  | k + 1 => by
    rw [Nat.succ_mul, cnt_add, cnt_turns hf a k, cnt_from hf (a + ((k * p : Nat) : Int)) a, Int.natCast_add, Int.add_mul]
    show _ = _ + 1 * _
    rw [Int.one_mul]
/-- within any bounds: whole turns and the rest -/
theorem cyc_count {o p : Int} {l : List Seg} (w : Wh p l) {a b : Int} (h : a ≤ b) : cntI (cyc o p l) a b = (b - a) / p * totS l + cntI (cyc o p l) (b - (b - a) % p) b := by
  have hp := w.p1
  have m0 := Int.emod_nonneg (b - a) (show p ≠ 0 by omega)
  have m1 := Int.emod_lt_of_pos (b - a) (show 0 < p by omega)
  have m2 := Int.mul_ediv_add_emod (b - a) p
  have m3 := Int.ediv_nonneg (show 0 ≤ b - a by omega) (show 0 ≤ p by omega)
  have hz : 0 ≤ p * ((b - a) / p) := Int.mul_nonneg (by omega) m3
  generalize (b - a) % p = x at *
  generalize (b - a) / p = k at *
  rw [cntI_add (b := b - x) _ (by omega) (by omega)]
  congr 1
  obtain ⟨n, rfl⟩ : ∃ n : Nat, k = n := ⟨k.toNat, by omega⟩
  obtain ⟨P, hP⟩ : ∃ P : Nat, p = P := ⟨p.toNat, by omega⟩
  have hf : ∀ t, cyc o p l (t + (P : Int)) = cyc o p l t := fun t => by
    have := cyc_turn o p 1 t l
    rw [Int.one_mul] at this
    rw [← hP]
    exact this
  have e1 : (b - x - a).toNat = n * P := by
    have : b - x - a = ((n * P : Nat) : Int) := by
      rw [Int.natCast_mul, ← hP, Int.mul_comm]
      omega
    rw [this]
    exact Int.toNat_natCast _
  have e2 : totS l = cnt (cyc o p l) o P := by
    rw [tot_cnt w.td w.le (by omega)]
    have e3 : cntI (hitS l) 0 p = cnt (hitS l) 0 P := by unfold cntI; rw [hP, Int.sub_zero, Int.toNat_natCast]
    rw [e3]
    -- the same instants, moved to the origin
    have : ∀ m : Nat, m ≤ P → cnt (hitS l) 0 m = cnt (cyc o p l) o m := fun m => by
      induction m with
      | zero => exact fun _ => rfl
      | succ m ih =>
        intro hm
        show cnt (hitS l) 0 m + one (hitS l (0 + (m : Int))) = cnt (cyc o p l) o m + one (cyc o p l (o + (m : Int)))
        rw [ih (by omega)]
        unfold cyc
        rw [show o + (m : Int) - o = m by omega, Int.emod_eq_of_lt (by omega) (by omega), Int.zero_add]
    exact this P (Nat.le_refl _)
  unfold cntI
  rw [e1, cnt_turns hf, e2, cnt_from hf a o]
end FL

/-! a period of a wheel is a turn of its steps -/
namespace FL
open PySem PySem.Spec PyProof.Rows L2
section
variable {p s0 : Int} {R : List Seg}
/-- places grow -/
theorem sq_ge (w : Circ p s0 R) : ∀ i : Nat, s0 + (i : Int) ≤ sq p R i
  | 0 => by rw [sq_0 w, Int.natCast_zero, Int.add_zero]; exact Int.le_refl _
  | i + 1 => by
    have := sq_ge w i
    have := sq_mono w i
    omega
theorem sq_le_of (w : Circ p s0 R) {i j : Nat} (h : i ≤ j) : sq p R i ≤ sq p R j := by
  by_cases q : i = j
  · rw [q]; exact Int.le_refl _
  · have := sq_lt_of w i (j - i) (by omega)
    rw [show i + (j - i) = j by omega] at this
    omega
/-- the place whose step holds an instant -/
theorem sq_loc (w : Circ p s0 R) (t : Int) (h : s0 ≤ t) : ∃ i : Nat, sq p R i ≤ t ∧ t < sq p R (i + 1) := by
  have key : ∀ n : Nat, t < sq p R n → ∃ i : Nat, sq p R i ≤ t ∧ t < sq p R (i + 1) := fun n => by
    induction n with
    | zero => intro h2; rw [sq_0 w] at h2; omega
    | succ n ih =>
      intro h2
      by_cases q : t < sq p R n
      · exact ih q
      · exact ⟨n, by omega, h2⟩
  have := sq_ge w ((t - s0).toNat + 1)
  exact key ((t - s0).toNat + 1) (by omega)
theorem sq_same (w : Circ p s0 R) {i j : Nat} {t : Int} (h1 : sq p R i ≤ t) (h2 : t < sq p R (i + 1)) (h3 : sq p R j ≤ t) (h4 : t < sq p R (j + 1)) : i = j := by
  rcases Nat.lt_trichotomy i j with g | g | g
  · have := sq_le_of w (show i + 1 ≤ j by omega)
    omega
  · exact g
  · have := sq_le_of w (show j + 1 ≤ i by omega)
    omega
def len (p : Int) (R : List Seg) (i : Nat) : Int := (stp p R (i % R.length)).1
theorem len_ok (w : Circ p s0 R) (i : Nat) : 0 < len p R i ∧ sq p R i + len p R i < sq p R (i + 1) := by
  have := stp_ok w (Nat.mod_lt i w.n0)
  have := sq_step w i
  unfold len
  omega
/-- within the step of a place: the first ones belong, the others don't -/
theorem wn_loc (w : Circ p s0 R) {i : Nat} {t : Int} (h1 : sq p R i ≤ t) (h2 : t < sq p R (i + 1)) : Wn p R t ↔ t < sq p R i + len p R i := by
  constructor
  · intro h
    obtain ⟨j, z, g1, g2⟩ := (wn_sq w t).mp h
    have hj := len_ok w j
    change t < sq p R j + len p R j + z * p at g2
    rcases Int.le_total 0 z with hz | hz
    · obtain ⟨n, rfl⟩ : ∃ n : Nat, z = n := ⟨z.toNat, by omega⟩
      have e := sq_turn w j n
      have e1 := sq_turn w (j + 1) n
      have el : len p R (j + R.length * n) = len p R j := by unfold len; rw [Nat.add_mul_mod_self_left]
      rw [Int.mul_comm] at g1 g2
      have : i = j + R.length * n := sq_same w h1 h2 (by omega) (by rw [Nat.add_right_comm]; omega)
      rw [this, el]
      omega
    · obtain ⟨n, hn⟩ : ∃ n : Nat, z = -(n : Int) := ⟨(-z).toNat, by omega⟩
      subst hn
      rw [Int.neg_mul, Int.mul_comm] at g1 g2
      have e := sq_turn w i n
      have e1 := sq_turn w (i + 1) n
      have el : len p R (i + R.length * n) = len p R i := by unfold len; rw [Nat.add_mul_mod_self_left]
      have : i + R.length * n = j := sq_same w (t := t + p * n) (by omega) (by rw [Nat.add_right_comm]; omega) (by omega) (by omega)
      rw [← this, el] at g2
      omega
  · intro h
    exact (wn_sq w t).mpr ⟨i, 0, by rw [Int.zero_mul, Int.add_zero]; exact h1, by rw [Int.zero_mul, Int.add_zero]; exact h⟩
theorem wn_start (w : Circ p s0 R) (i : Nat) : Wn p R (sq p R i) := by
  have := len_ok w i
  have := sq_mono w i
  exact (wn_loc w (Int.le_refl _) (by omega)).mpr (by omega)
theorem wn_gap (w : Circ p s0 R) {i : Nat} {t : Int} (h1 : sq p R i + len p R i ≤ t) (h2 : t < sq p R (i + 1)) : ¬ Wn p R t := fun h => by
  have := len_ok w i
  have := (wn_loc w (by omega) h2).mp h
  omega
theorem per_turn (w : Circ p s0 R) (r : Int) (hr : 1 ≤ r) (h : ∀ t, Wn p R (t + r) ↔ Wn p R t) : ∃ m : Nat, 0 < m ∧ Rot (stp p R) R.length m ∧ sq p R m = s0 + r := by
  have n0 := w.n0
  have e0 := sq_0 w
  -- ahead of s0 none
  have ahead : ¬ Wn p R (s0 - 1) := fun hs => by
    have hl := len_ok w (R.length - 1)
    rw [show R.length - 1 + 1 = R.length by omega, sq_end w] at hl
    have hg : ¬ Wn p R (s0 + p - 1) := wn_gap w (i := R.length - 1) (by omega) (by rw [show R.length - 1 + 1 = R.length by omega, sq_end w]; omega)
    apply hg
    obtain ⟨s, hs1, z, q1, q2⟩ := hs
    exact ⟨s, hs1, z + 1, by rw [Int.add_mul]; omega, by rw [Int.add_mul]; omega⟩
  obtain ⟨m, m1, m2⟩ := sq_loc w (s0 + r) (by omega)
  have hm : sq p R m = s0 + r := by
    have h1 : Wn p R (s0 + r) := (h s0).mpr (e0 ▸ wn_start w 0)
    have h2 := (wn_loc w m1 m2).mp h1
    by_cases q : sq p R m = s0 + r
    · exact q
    · have h3 : Wn p R (s0 - 1 + r) := (wn_loc w (i := m) (by omega) (by omega)).mpr (by omega)
      exact absurd ((h _).mp h3) ahead
  have m0 : 0 < m := by
    rcases Nat.eq_zero_or_pos m with g | g
    · rw [g, e0] at hm; omega
    · exact g
  -- place by place
  have step : ∀ i : Nat, sq p R (m + i) = sq p R i + r → len p R (m + i) = len p R i ∧ sq p R (m + i + 1) = sq p R (i + 1) + r := fun i hi => by
    have a1 := len_ok w i
    have a2 := len_ok w (m + i)
    have hl : len p R (m + i) = len p R i := by
      rcases Int.lt_trichotomy (len p R (m + i)) (len p R i) with g | g | g
      · have h1 : Wn p R (sq p R i + len p R (m + i)) := (wn_loc w (i := i) (by omega) (by omega)).mpr (by omega)
        have h2 := (h _).mpr h1
        exact absurd h2 (wn_gap w (i := m + i) (by omega) (by omega))
      · exact g
      · have h1 : Wn p R (sq p R i + len p R i + r) := (wn_loc w (i := m + i) (by omega) (by omega)).mpr (by omega)
        have h2 := (h _).mp h1
        exact absurd h2 (wn_gap w (i := i) (Int.le_refl _) (by omega))
    refine ⟨hl, ?_⟩
    rcases Int.lt_trichotomy (sq p R (m + i + 1)) (sq p R (i + 1) + r) with g | g | g
    · have h1 := wn_start w (m + i + 1)
      have h2 : Wn p R (sq p R (m + i + 1) - r) := (h _).mp (by rw [Int.sub_add_cancel]; exact h1)
      exact absurd h2 (wn_gap w (i := i) (by omega) (by omega))
    · exact g
    · have h1 := (h _).mpr (wn_start w (i + 1))
      exact absurd h1 (wn_gap w (i := m + i) (by omega) (by omega))
  have all : ∀ i : Nat, sq p R (m + i) = sq p R i + r := fun i => by
    induction i with
    | zero => rw [Nat.add_zero, hm, e0]
    | succ i ih => exact (step i ih).2
  refine ⟨m, m0, fun i => ?_, hm⟩
  have h1 := (step i (all i)).1
  have h2 := sq_step w i
  have h3 := sq_step w (m + i)
  have h4 := all i
  have h5 := all (i + 1)
  rw [← Nat.add_assoc] at h5
  unfold len at h1
  rw [Nat.add_comm i m]
  exact Prod.ext h1 (by omega)
/-- the least turn makes the least period -/
theorem rot_least (w : Circ p s0 R) {T : Nat} (hmin : ∀ m, 0 < m → Rot (stp p R) R.length m → T ≤ m) (r : Int) (hr : 1 ≤ r) (h : ∀ t, Wn p R (t + r) ↔ Wn p R t) : sq p R T - s0 ≤ r := by
  obtain ⟨m, m0, hm, em⟩ := per_turn w r hr h
  have := sq_le_of w (hmin m m0 hm)
  omega
end
end FL

namespace Lk24
open PySem PySem.Spec PyProof.Rows L2 FL
def top (i : Nat) : Stmt := PySem.Challenge.pw_dayspread_k24_normal_form.main.body.getD i (.Pass ⟨0, 0, 0, 0⟩)
abbrev s__law_digits : Stmt := top 45
abbrev s__law_rich : Stmt := top 46
abbrev s_check_spans : Stmt := top 40
abbrev s_runs : Stmt := top 25
abbrev s_is_full : Stmt := top 15
abbrev s_shortest_turn : Stmt := top 24
abbrev s_moved_by : Stmt := top 12
abbrev s_merged : Stmt := top 6
abbrev s_first_behind : Stmt := top 7
abbrev s_last_unlike : Stmt := top 21
abbrev s__law_cell : Stmt := top 44
abbrev s__law_tidy : Stmt := top 50
abbrev s__law_in : Stmt := top 49
abbrev s__law_hit : Stmt := top 51
abbrev s__law_row : Stmt := top 47
abbrev s_least_period : Stmt := top 26
abbrev s_cut : Stmt := top 9
abbrev s__law_description : Stmt := top 48
abbrev s_turned : Stmt := top 17
abbrev s_last_difference : Stmt := top 22
abbrev s_cycle_from : Stmt := top 18
abbrev s_normal : Stmt := top 27
abbrev s_Spans___init__ : Stmt := inClass (top 42) 0
abbrev s_law : Stmt := top 52
structure Cl where
  Spans : Addr
  InvalidSpans : Addr
def dg_Spans_4_ : List D → List D → List D := fun ds ks => ds ++ ks
def gV_Spans_4_ : List V → List V → List V := fun vs zs => vs ++ zs
theorem kr_Spans_4_ {K : PySem.W.Frag} {B : Hp} {v : V} {ds ks' : List D} {vs zs : List V} (h1 : ds.length = 4) (h2 : ks'.length = 0) (r1 : Reps K B ds vs) (r2 : Reps K B ks' zs) : ∃ us, gV_Spans_4_ (v :: vs) zs = v :: us ∧ Reps K B (dg_Spans_4_ ds ks') us ∧ us.length = 4 :=
  ⟨vs ++ zs, rfl, r1.append r2, by rw [List.length_append, r1.length, r2.length, h1, h2]⟩
/-- _law_digits -/
noncomputable def F__law_digits (c : Cl) : PS1 → Option Fl :=
    (fSeq (fSetN 2 (fSz fNil))
    (fSeq (fFor (fSeqOf (fVar 1)) (giName 3) (fSeq (fApp 2 (fop gMod (fcall gInt (fCons (fVar 0) fNil)) (fVar 3)))
    (fSet 0 (fop gDiv (fVar 0) (fVar 3)))))
    (fFrz 2 (fRet (fVar 2)))))
noncomputable def G__law_digits (c : Cl) : List D → Option (R D) := fDef 2 (F__law_digits c)
theorem sc__law_digits : FnScope ["cell", "sizes", "row", "size"] ["cell", "sizes"] (defScope s__law_digits) := ⟨rfl, rfl, rfl, by decide +kernel, rfl, by decide +kernel, by decide +kernel⟩
/-- _law_rich -/
noncomputable def F__law_rich (c : Cl) : PS1 → Option Fl :=
    (fSeq (fIfS (fBl (fop gGe (fVar 0) (fop gPow (fC (.int 10)) (fC (.int 18))))) (fRet (fVar 0)) fNext)
    (fSeq (fSet 1 (fop gMod (fcall gInt (fCons (fop gAdd (fop gMul (fVar 0) (fC (.int 48271))) (fC (.int 11))) fNil)) (fC (.int 2147483647))))
    (fSeq (fSet 2 (fop gMod (fcall gInt (fCons (fop gAdd (fop gAdd (fop gMul (fVar 1) (fC (.int 69621))) (fop gDiv (fVar 0) (fC (.int 7)))) (fC (.int 5))) fNil)) (fC (.int 2147483629))))
    (fRet (fop gAdd (fop gMul (fVar 1) (fC (.int 2147483629))) (fVar 2))))))
noncomputable def G__law_rich (c : Cl) : List D → Option (R D) := fDef 2 (F__law_rich c)
theorem sc__law_rich : FnScope ["cell", "low", "high"] ["cell"] (defScope s__law_rich) := ⟨rfl, rfl, rfl, by decide +kernel, rfl, by decide +kernel, by decide +kernel⟩
/-- check_spans -/
noncomputable def F_check_spans (c : Cl) : PS1 → Option Fl :=
    (fFor (fSeqOf (fVar 0)) (giName 2) (fIfS (fOrB (fBl (fop gNe (fcall gLen (fCons (fVar 2) fNil)) (fC (.int 2)))) (fNot (fBl (fCh3 gLe gLt gLe (fC (.int 0)) (fop gIx (fVar 2) (fC (.int 0))) (fop gIx (fVar 2) (fC (.int 1))) (fVar 1))))) (fRaise c.InvalidSpans (fJs ((fC (.str "a pair is no span, or does not lie within 0 and ")) :: ((fFmt (fVar 1)) :: [])) Str.empty)) fNext))
noncomputable def G_check_spans (c : Cl) : List D → Option (R D) := fDef 1 (F_check_spans c)
theorem sc_check_spans : FnScope ["spans", "bound", "span"] ["spans", "bound"] (defScope s_check_spans) := ⟨rfl, rfl, rfl, by decide +kernel, rfl, by decide +kernel, by decide +kernel⟩
/-- runs -/
noncomputable def F_runs (c : Cl) : PS1 → Option Fl :=
    (fSeq (fIfS (fOrB (fBl (fop gGt (fop gIx (fop gIx (fVar 1) (fC (.int 0))) (fC (.int 0))) (fC (.int 0)))) (fBl (fop gLt (fop gIx (fop gIx (fVar 1) (fun1 gNeg (fC (.int 1)))) (fC (.int 1))) (fVar 0)))) (fRet (fVar 1)) fNext)
    (fRet (fTup (fStar (fSlT (fVar 1) (fPart (fC (.int 1))) (fPart (fun1 gNeg (fC (.int 1))))) (fCons (fTup (fCons (fop gIx (fop gIx (fVar 1) (fun1 gNeg (fC (.int 1)))) (fC (.int 0))) (fCons (fop gAdd (fVar 0) (fop gIx (fop gIx (fVar 1) (fC (.int 0))) (fC (.int 1)))) fNil))) fNil)))))
noncomputable def G_runs (c : Cl) : List D → Option (R D) := fDef 0 (F_runs c)
theorem sc_runs : FnScope ["period", "cycle"] ["period", "cycle"] (defScope s_runs) := ⟨rfl, rfl, rfl, by decide +kernel, rfl, by decide +kernel, by decide +kernel⟩
/-- is_full -/
noncomputable def F_is_full (c : Cl) : PS1 → Option Fl :=
    (fRet (fop gEq (fop gIx (fVar 0) (fC (.int 2))) (fTup (fCons (fTup (fCons (fC (.int 0)) (fCons (fop gIx (fVar 0) (fC (.int 1))) fNil))) fNil))))
noncomputable def G_is_full (c : Cl) : List D → Option (R D) := fDef 0 (F_is_full c)
theorem sc_is_full : FnScope ["wheel"] ["wheel"] (defScope s_is_full) := ⟨rfl, rfl, rfl, by decide +kernel, rfl, by decide +kernel, by decide +kernel⟩
/-- shortest_turn -/
noncomputable def F_shortest_turn (c : Cl) : PS1 → Option Fl :=
    (fSeq (fSetN 1 (fSz (fCons (fC (.int 0)) fNil)))
    (fSeq (fFor (fcallN gRng (fCons (fC (.int 1)) (fCons (fcall gLen (fCons (fVar 0) fNil)) fNil))) (giName 2) (fSeq (fSet 3 (fPeek 1 (fop gIx (fVar 1) (fun1 gNeg (fC (.int 1))))))
    (fSeq (fWhile (fun _ => 200000) (fAndB (fBl (fop gGt (fVar 3) (fC (.int 0)))) (fBl (fop gNe (fop gIx (fVar 0) (fVar 3)) (fop gIx (fVar 0) (fVar 2))))) (fSet 3 (fPeek 1 (fop gIx (fVar 1) (fop gSub (fVar 3) (fC (.int 1)))))))
    (fApp 1 (fIf (fBl (fop gEq (fop gIx (fVar 0) (fVar 3)) (fop gIx (fVar 0) (fVar 2)))) (fop gAdd (fVar 3) (fC (.int 1))) (fC (.int 0)))))))
    (fSeq (fSet 4 (fop gSub (fcall gLen (fCons (fVar 0) fNil)) (fPeek 1 (fop gIx (fVar 1) (fun1 gNeg (fC (.int 1)))))))
    (fRet (fIf (fBl (fop gEq (fop gMod (fcall gLen (fCons (fVar 0) fNil)) (fVar 4)) (fC (.int 0)))) (fVar 4) (fcall gLen (fCons (fVar 0) fNil)))))))
noncomputable def G_shortest_turn (c : Cl) : List D → Option (R D) := fDef 4 (F_shortest_turn c)
theorem sc_shortest_turn : FnScope ["rows", "borders", "place", "known", "turn"] ["rows"] (defScope s_shortest_turn) := ⟨rfl, rfl, rfl, by decide +kernel, rfl, by decide +kernel, by decide +kernel⟩
/-- moved_by -/
noncomputable def F_moved_by (c : Cl) : PS1 → Option Fl :=
    (fSeq (fIfS (fBl (fop gEq (fVar 1) (fC (.int 0)))) (fRet (fcall gTuple (fCons (fVar 0) fNil))) fNext)
    (fRet (fcall gTuple (fCons (fLst (fLc (fSeqOf (fVar 0)) [2, 3] (giTup [2, 3]) fYes (fTup (fCons (fop gAdd (fVar 2) (fVar 1)) (fCons (fop gAdd (fVar 3) (fVar 1)) fNil))))) fNil))))
noncomputable def G_moved_by (c : Cl) : List D → Option (R D) := fDef 2 (F_moved_by c)
theorem sc_moved_by : FnScope ["spans", "by", "start", "end"] ["spans", "by"] (defScope s_moved_by) := ⟨rfl, rfl, rfl, by decide +kernel, rfl, by decide +kernel, by decide +kernel⟩
/-- merged -/
noncomputable def F_merged (c : Cl) : PS1 → Option Fl :=
    (fSeq (fSetN 1 (fSz fNil))
    (fSeq (fFor (fSeqOf (fLst (fcallN gSorted (fCons (fVar 0) fNil)))) (giTup [2, 3]) (fIfS (fOrB (fNot (fTrO 1)) (fBl (fop gGt (fVar 2) (fop gIx (fIxO 1 (fun1 gNeg (fC (.int 1)))) (fC (.int 1)))))) (fApp 1 (fTup (fCons (fVar 2) (fCons (fVar 3) fNil)))) (fIfS (fBl (fop gGt (fVar 3) (fop gIx (fIxO 1 (fun1 gNeg (fC (.int 1)))) (fC (.int 1))))) (fSetIx 1 (fun1 gNeg (fC (.int 1))) (fTup (fCons (fop gIx (fIxO 1 (fun1 gNeg (fC (.int 1)))) (fC (.int 0))) (fCons (fVar 3) fNil)))) fNext)))
    (fFrz 1 (fRet (fcall gTuple (fCons (fVar 1) fNil))))))
noncomputable def G_merged (c : Cl) : List D → Option (R D) := fDef 3 (F_merged c)
theorem sc_merged : FnScope ["spans", "found", "start", "end"] ["spans"] (defScope s_merged) := ⟨rfl, rfl, rfl, by decide +kernel, rfl, by decide +kernel, by decide +kernel⟩
/-- first_behind -/
noncomputable def F_first_behind (c : Cl) : PS1 → Option Fl :=
    (fSeq (fSet 2 (fC (.int 0)))
    (fSeq (fSet 3 (fcall gLen (fCons (fVar 0) fNil)))
    (fSeq (fWhile (fun _ => 200000) (fBl (fop gLt (fVar 2) (fVar 3))) (fSeq (fSet 4 (fop gDiv (fop gAdd (fVar 2) (fVar 3)) (fC (.int 2))))
    (fIfS (fBl (fop gGt (fop gIx (fop gIx (fVar 0) (fVar 4)) (fC (.int 1))) (fVar 1))) (fSet 3 (fVar 4)) (fSet 2 (fop gAdd (fVar 4) (fC (.int 1)))))))
    (fRet (fVar 2)))))
noncomputable def G_first_behind (c : Cl) : List D → Option (R D) := fDef 3 (F_first_behind c)
theorem sc_first_behind : FnScope ["spans", "instant", "low", "high", "middle"] ["spans", "instant"] (defScope s_first_behind) := ⟨rfl, rfl, rfl, by decide +kernel, rfl, by decide +kernel, by decide +kernel⟩
/-- last_unlike -/
noncomputable def F_last_unlike (c : Cl) : PS1 → Option Fl :=
    (fSeq (fFor (fcallN gZip (fCons (fRevT (fVar 0)) (fCons (fRevT (fVar 1)) fNil))) (giTup [2, 3]) (fSeq (fIfS (fBl (fop gNe (fop gIx (fVar 2) (fC (.int 1))) (fop gIx (fVar 3) (fC (.int 1))))) (fRet (fop gSub (fcall gMax (fCons (fop gIx (fVar 2) (fC (.int 1))) (fCons (fop gIx (fVar 3) (fC (.int 1))) fNil))) (fC (.int 1)))) fNext)
    (fIfS (fBl (fop gNe (fop gIx (fVar 2) (fC (.int 0))) (fop gIx (fVar 3) (fC (.int 0))))) (fRet (fop gSub (fcall gMax (fCons (fop gIx (fVar 2) (fC (.int 0))) (fCons (fop gIx (fVar 3) (fC (.int 0))) fNil))) (fC (.int 1)))) fNext)))
    (fSeq (fSet 4 (fcall gMin (fCons (fcall gLen (fCons (fVar 0) fNil)) (fCons (fcall gLen (fCons (fVar 1) fNil)) fNil))))
    (fSeq (fSet 5 (fIf (fBl (fop gGt (fcall gLen (fCons (fVar 0) fNil)) (fVar 4))) (fVar 0) (fVar 1)))
    (fRet (fop gSub (fop gIx (fop gIx (fVar 5) (fop gSub (fop gSub (fcall gLen (fCons (fVar 5) fNil)) (fVar 4)) (fC (.int 1)))) (fC (.int 1))) (fC (.int 1)))))))
noncomputable def G_last_unlike (c : Cl) : List D → Option (R D) := fDef 4 (F_last_unlike c)
theorem sc_last_unlike : FnScope ["first", "second", "one", "two", "both", "longer"] ["first", "second"] (defScope s_last_unlike) := ⟨rfl, rfl, rfl, by decide +kernel, rfl, by decide +kernel, by decide +kernel⟩
/-- _law_cell -/
noncomputable def F__law_cell (c : Cl) : PS1 → Option Fl :=
    (fSeq (fIfS (fBl (fop gLt (fVar 1) (fcall gLen (fCons (fVar 0) fNil)))) (fRet (fop gIx (fVar 0) (fVar 1))) fNext)
    (fRet (fC (.int 0))))
noncomputable def G__law_cell (c : Cl) : List D → Option (R D) := fDef 0 (F__law_cell c)
theorem sc__law_cell : FnScope ["script", "k"] ["script", "k"] (defScope s__law_cell) := ⟨rfl, rfl, rfl, by decide +kernel, rfl, by decide +kernel, by decide +kernel⟩
/-- _law_tidy -/
noncomputable def F__law_tidy (c : Cl) : PS1 → Option Fl :=
    (fSeq (fIfS (fNot (fTr (fun1 (gIsi "tuple") (fVar 0)))) (fRet (fC (.bl false))) fNext)
    (fSeq (fSet 3 (fop gSub (fVar 1) (fC (.int 1))))
    (fSeq (fFor (fSeqOf (fVar 0)) (giName 4) (fSeq (fIfS (fOrB (fNot (fTr (fun1 (gIsi "tuple") (fVar 4)))) (fBl (fop gNe (fcall gLen (fCons (fVar 4) fNil)) (fC (.int 2))))) (fRet (fC (.bl false))) fNext)
    (fSeq (fIfS (fOrB (fNot (fTr (fun1 (gIsi "int") (fop gIx (fVar 4) (fC (.int 0)))))) (fNot (fTr (fun1 (gIsi "int") (fop gIx (fVar 4) (fC (.int 1))))))) (fRet (fC (.bl false))) fNext)
    (fSeq (fIfS (fOrB (fBl (fop gLe (fop gIx (fVar 4) (fC (.int 0))) (fVar 3))) (fOrB (fBl (fop gLe (fop gIx (fVar 4) (fC (.int 1))) (fop gIx (fVar 4) (fC (.int 0))))) (fBl (fop gGt (fop gIx (fVar 4) (fC (.int 1))) (fVar 2))))) (fRet (fC (.bl false))) fNext)
    (fSet 3 (fop gIx (fVar 4) (fC (.int 1))))))))
    (fRet (fC (.bl true))))))
noncomputable def G__law_tidy (c : Cl) : List D → Option (R D) := fDef 2 (F__law_tidy c)
theorem sc__law_tidy : FnScope ["rows", "low", "high", "past", "row"] ["rows", "low", "high"] (defScope s__law_tidy) := ⟨rfl, rfl, rfl, by decide +kernel, rfl, by decide +kernel, by decide +kernel⟩
/-- _law_in -/
noncomputable def F__law_in (c : Cl) : PS1 → Option Fl :=
    (fSeq (fIfS (fBl (fop gLt (fVar 1) (fC (.int 0)))) (fRet (fC (.bl false))) fNext)
    (fSeq (fSet 2 (fVar 1))
    (fSeq (fSet 3 (fop gIx (fVar 0) (fC (.int 0))))
    (fSeq (fIfS (fBl (fop gGe (fVar 1) (fop gIx (fVar 0) (fC (.int 1))))) (fSeq (fSet 2 (fop gMod (fcall gInt (fCons (fop gSub (fVar 1) (fop gIx (fVar 0) (fC (.int 1)))) fNil)) (fop gIx (fVar 0) (fC (.int 2)))))
    (fSet 3 (fop gIx (fVar 0) (fC (.int 3))))) fNext)
    (fSeq (fFor (fSeqOf (fVar 3)) (giName 4) (fIfS (fAndB (fBl (fop gLe (fop gIx (fVar 4) (fC (.int 0))) (fVar 2))) (fBl (fop gLt (fVar 2) (fop gIx (fVar 4) (fC (.int 1)))))) (fRet (fC (.bl true))) fNext))
    (fRet (fC (.bl false))))))))
noncomputable def G__law_in (c : Cl) : List D → Option (R D) := fDef 3 (F__law_in c)
theorem sc__law_in : FnScope ["row", "instant", "place", "spans", "span"] ["row", "instant"] (defScope s__law_in) := ⟨rfl, rfl, rfl, by decide +kernel, rfl, by decide +kernel, by decide +kernel⟩
/-- _law_hit -/
noncomputable def F__law_hit (c : Cl) : PS1 → Option Fl :=
    (fSeq (fFor (fSeqOf (fVar 0)) (giName 2) (fIfS (fAndB (fBl (fop gLe (fop gIx (fVar 2) (fC (.int 0))) (fVar 1))) (fBl (fop gLt (fVar 1) (fop gIx (fVar 2) (fC (.int 1)))))) (fRet (fC (.bl true))) fNext))
    (fRet (fC (.bl false))))
noncomputable def G__law_hit (c : Cl) : List D → Option (R D) := fDef 1 (F__law_hit c)
theorem sc__law_hit : FnScope ["rows", "instant", "row"] ["rows", "instant"] (defScope s__law_hit) := ⟨rfl, rfl, rfl, by decide +kernel, rfl, by decide +kernel, by decide +kernel⟩
/-- _law_row -/
noncomputable def F__law_row (c : Cl) : PS1 → Option (R (List D)) :=
    (fSeqL (fSet 2 (fOwn 2 (G__law_digits c) (fCons (fOwn 1 (G__law_rich c) (fCons (fVar 0) fNil)) (fCons (fLst (fSz (fCons (fC (.int 5)) (fCons (fC (.int 12)) (fCons (fC (.int 7)) (fCons (fC (.int 12)) (fCons (fC (.int 7)) (fCons (fC (.int 12)) (fCons (fC (.int 7)) (fCons (fC (.int 12)) (fCons (fC (.int 7)) (fCons (fC (.int 4)) fNil)))))))))))) fNil))))
    (fSeqL (fSetN 3 (fSz fNil))
    (fSeqL (fSet 4 (fop gSub (fop gMod (fcall gInt (fCons (fop gIx (fVar 2) (fC (.int 9))) fNil)) (fC (.int 3))) (fC (.int 1))))
    (fSeqL (fFor (fcallN gRng (fCons (fop gIx (fVar 2) (fC (.int 0))) fNil)) (giName 5) (fSeq (fSet 6 (fop gAdd (fVar 4) (fop gMul (fop gIx (fVar 2) (fop gAdd (fC (.int 1)) (fop gMul (fC (.int 2)) (fVar 5)))) (fcall gInt (fCons (fop gAdd (fC (.int 1)) (fop gDiv (fop gIx (fVar 2) (fop gAdd (fC (.int 2)) (fop gMul (fC (.int 2)) (fVar 5)))) (fC (.int 3)))) fNil)))))
    (fSeq (fApp 3 (fTup (fCons (fcall gMax (fCons (fC (.int 0)) (fCons (fVar 6) fNil))) (fCons (fop gAdd (fop gAdd (fcall gMax (fCons (fC (.int 0)) (fCons (fVar 6) fNil))) (fC (.int 1))) (fop gIx (fVar 2) (fop gAdd (fC (.int 2)) (fop gMul (fC (.int 2)) (fVar 5))))) fNil))))
    (fSet 4 (fop gAdd (fVar 6) (fop gIx (fVar 2) (fop gAdd (fC (.int 2)) (fop gMul (fC (.int 2)) (fVar 5)))))))))
    (fFrzL 3 (fLc (fSeqOf (fVar 3)) [7] (giName 7) (fBl (fop gLe (fop gIx (fVar 7) (fC (.int 1))) (fVar 1))) (fVar 7)))))))
noncomputable def G__law_row (c : Cl) : List D → Option (R (List D)) := fDefL 6 (F__law_row c)
theorem sc__law_row : FnScope ["cell", "bound", "d", "rows", "place", "k", "begin", "row"] ["cell", "bound"] (defScope s__law_row) := ⟨rfl, rfl, rfl, by decide +kernel, rfl, by decide +kernel, by decide +kernel⟩
/-- least_period -/
noncomputable def F_least_period (c : Cl) : PS1 → Option Fl :=
    (fSeq (fIfS (fOrB (fNot (fTr (fVar 1))) (fTr (fOwn 1 (G_is_full c) (fCons (fTup (fCons (fC (.int 0)) (fCons (fVar 0) (fCons (fVar 1) fNil)))) fNil)))) (fRet (fC (.int 1))) fNext)
    (fSeq (fSet 2 (fOwn 2 (G_runs c) (fCons (fVar 0) (fCons (fVar 1) fNil))))
    (fSeq (fSetN 3 (fLc (fSeqOf (fVar 2)) [5, 6] (giTup [5, 6]) fYes (fVar 5)))
    (fSeq (fApp 3 (fop gAdd (fPeek 3 (fop gIx (fVar 3) (fC (.int 0)))) (fVar 0)))
    (fSeq (fFrz 3 (fSet 4 (fLst (fLc (fcallN gZipM (fCons (fVar 2) (fCons (fLst (fSlL (fVar 3) (fPart (fC (.int 1))) fNoPart)) fNil))) [7, 8] (giTup [7, 8]) fYes (fTup (fCons (fop gSub (fop gIx (fVar 7) (fC (.int 1))) (fop gIx (fVar 7) (fC (.int 0)))) (fCons (fop gSub (fVar 8) (fop gIx (fVar 7) (fC (.int 0)))) fNil)))))))
    (fRet (fop gSub (fPeek 3 (fop gIx (fVar 3) (fOwn 1 (G_shortest_turn c) (fCons (fVar 4) fNil)))) (fPeek 3 (fop gIx (fVar 3) (fC (.int 0)))))))))))
noncomputable def G_least_period (c : Cl) : List D → Option (R D) := fDef 7 (F_least_period c)
theorem sc_least_period : FnScope ["period", "cycle", "spans", "starts", "steps", "start", "_", "span", "after"] ["period", "cycle"] (defScope s_least_period) := ⟨rfl, rfl, rfl, by decide +kernel, rfl, by decide +kernel, by decide +kernel⟩
/-- cut -/
noncomputable def F_cut (c : Cl) : PS1 → Option Fl :=
    (fSeq (fIfS (fBl (fop gGe (fVar 1) (fVar 2))) (fRet (fTup fNil)) fNext)
    (fSeq (fSetN 3 (fcallN gList (fCons (fSlA (fVar 0) (fPart (fOwn 2 (G_first_behind c) (fCons (fVar 0) (fCons (fVar 1) fNil)))) (fPart (fop gAdd (fOwn 2 (G_first_behind c) (fCons (fVar 0) (fCons (fVar 2) fNil))) (fC (.int 1))))) fNil)))
    (fSeq (fIfS (fAndB (fTrO 3) (fBl (fop gGe (fop gIx (fIxO 3 (fun1 gNeg (fC (.int 1)))) (fC (.int 0))) (fVar 2)))) (fPop 3) fNext)
    (fSeq (fIfS (fTrO 3) (fSeq (fSetIx 3 (fC (.int 0)) (fTup (fCons (fcall gMax (fCons (fop gIx (fIxO 3 (fC (.int 0))) (fC (.int 0))) (fCons (fVar 1) fNil))) (fCons (fop gIx (fIxO 3 (fC (.int 0))) (fC (.int 1))) fNil))))
    (fSetIx 3 (fun1 gNeg (fC (.int 1))) (fTup (fCons (fop gIx (fIxO 3 (fun1 gNeg (fC (.int 1)))) (fC (.int 0))) (fCons (fcall gMin (fCons (fop gIx (fIxO 3 (fun1 gNeg (fC (.int 1)))) (fC (.int 1))) (fCons (fVar 2) fNil))) fNil))))) fNext)
    (fFrz 3 (fRet (fcall gTuple (fCons (fVar 3) fNil))))))))
noncomputable def G_cut (c : Cl) : List D → Option (R D) := fDef 1 (F_cut c)
theorem sc_cut : FnScope ["spans", "start", "stop", "rows"] ["spans", "start", "stop"] (defScope s_cut) := ⟨rfl, rfl, rfl, by decide +kernel, rfl, by decide +kernel, by decide +kernel⟩
/-- _law_description -/
noncomputable def F__law_description (c : Cl) : PS1 → Option Fl :=
    (fSeq (fSet 1 (fOwn 2 (G__law_digits c) (fCons (fOwn 1 (G__law_rich c) (fCons (fop gDiv (fVar 0) (fC (.int 3))) fNil)) (fCons (fLst (fSz (fCons (fC (.int 40)) (fCons (fC (.int 36)) (fCons (fC (.int 4)) fNil))))) fNil))))
    (fSeq (fSet 2 (fop gIx (fVar 1) (fC (.int 0))))
    (fSeq (fSet 3 (fop gAdd (fC (.int 1)) (fop gIx (fVar 1) (fC (.int 1)))))
    (fSeq (fSetN 4 (fOwnL 2 (G__law_row c) (fCons (fop gAdd (fVar 0) (fC (.int 5))) (fCons (fVar 2) fNil))))
    (fSeq (fSetN 5 (fOwnL 2 (G__law_row c) (fCons (fop gAdd (fop gDiv (fVar 0) (fC (.int 2))) (fC (.int 9))) (fCons (fVar 3) fNil))))
    (fSeq (fIfS (fAndB (fBl (fop gEq (fop gIx (fVar 1) (fC (.int 2))) (fC (.int 1)))) (fBl (fop gLt (fVar 3) (fC (.int 19))))) (fSeq (fFrz 5 (fSetN 5 (fopN gCatL (fVar 5) (fLst (fLc (fSeqOf (fVar 5)) [6, 7] (giTup [6, 7]) fYes (fTup (fCons (fop gAdd (fVar 6) (fVar 3)) (fCons (fop gAdd (fVar 7) (fVar 3)) fNil))))))))
    (fSet 3 (fop gMul (fC (.int 2)) (fVar 3)))) fNext)
    (fSeq (fIfS (fBl (fop gEq (fop gIx (fVar 1) (fC (.int 2))) (fC (.int 2)))) (fSeq (fRev 4)
    (fRev 5)) fNext)
    (fFrz 5 (fFrz 4 (fRet (fTup (fCons (fcall gTuple (fCons (fVar 4) fNil)) (fCons (fVar 2) (fCons (fVar 3) (fCons (fcall gTuple (fCons (fVar 5) fNil)) fNil)))))))))))))))
noncomputable def G__law_description (c : Cl) : List D → Option (R D) := fDef 7 (F__law_description c)
theorem sc__law_description : FnScope ["cell", "d", "since", "period", "head", "turn", "low", "high"] ["cell"] (defScope s__law_description) := ⟨rfl, rfl, rfl, by decide +kernel, rfl, by decide +kernel, by decide +kernel⟩
/-- turned -/
noncomputable def F_turned (c : Cl) : PS1 → Option Fl :=
    (fSeq (fSetT [3, 4, 5] (fVar 0))
    (fSeq (fIfS (fOrB (fBl (fop gGe (fVar 1) (fVar 2))) (fNot (fTr (fVar 5)))) (fRet (fTup fNil)) fNext)
    (fSeq (fIfS (fTr (fOwn 1 (G_is_full c) (fCons (fVar 0) fNil))) (fRet (fTup (fCons (fTup (fCons (fVar 1) (fCons (fVar 2) fNil))) fNil))) fNext)
    (fSeq (fSet 6 (fop gSub (fVar 1) (fop gMod (fop gSub (fVar 1) (fVar 3)) (fVar 4))))
    (fSeq (fSet 7 (fop gSub (fVar 2) (fop gMod (fop gSub (fVar 2) (fVar 3)) (fVar 4))))
    (fSeq (fIfS (fBl (fop gEq (fVar 6) (fVar 7))) (fRet (fOwn 2 (G_moved_by c) (fCons (fOwn 3 (G_cut c) (fCons (fVar 5) (fCons (fop gSub (fVar 1) (fVar 6)) (fCons (fop gSub (fVar 2) (fVar 6)) fNil)))) (fCons (fVar 6) fNil)))) fNext)
    (fSeq (fSetN 8 (fcallN gList (fCons (fOwn 2 (G_moved_by c) (fCons (fOwn 3 (G_cut c) (fCons (fVar 5) (fCons (fop gSub (fVar 1) (fVar 6)) (fCons (fVar 4) fNil)))) (fCons (fVar 6) fNil))) fNil)))
    (fSeq (fExt 8 (fLst (fLc2 (fcallN gRngC (fCons (fop gAdd (fVar 6) (fVar 4)) (fCons (fVar 7) (fCons (fVar 4) fNil)))) [9, 10, 11] (giName 9) fYes (fSeqOf (fVar 5)) [10, 11] (giTup [10, 11]) fYes (fTup (fCons (fop gAdd (fVar 10) (fVar 9)) (fCons (fop gAdd (fVar 11) (fVar 9)) fNil))))))
    (fSeq (fExt 8 (fOwn 2 (G_moved_by c) (fCons (fOwn 3 (G_cut c) (fCons (fVar 5) (fCons (fC (.int 0)) (fCons (fop gSub (fVar 2) (fVar 7)) fNil)))) (fCons (fVar 7) fNil))))
    (fSeq (fIfS (fAndB (fBl (fop gEq (fop gIx (fop gIx (fVar 5) (fC (.int 0))) (fC (.int 0))) (fC (.int 0)))) (fBl (fop gEq (fop gIx (fop gIx (fVar 5) (fun1 gNeg (fC (.int 1)))) (fC (.int 1))) (fVar 4)))) (fFrz 8 (fRet (fOwn 1 (G_merged c) (fCons (fVar 8) fNil)))) fNext)
    (fFrz 8 (fRet (fcall gTuple (fCons (fVar 8) fNil))))))))))))))
noncomputable def G_turned (c : Cl) : List D → Option (R D) := fDef 9 (F_turned c)
theorem sc_turned : FnScope ["wheel", "start", "stop", "origin", "period", "cycle", "base", "last", "rows", "at", "low", "high"] ["wheel", "start", "stop"] (defScope s_turned) := ⟨rfl, rfl, rfl, by decide +kernel, rfl, by decide +kernel, by decide +kernel⟩
/-- last_difference -/
noncomputable def F_last_difference (c : Cl) : PS1 → Option Fl :=
    (fSeq (fSet 2 (fcall gMax (fCons (fVar 2) (fCons (fop gSub (fop gSub (fVar 3) (fop gIx (fVar 0) (fC (.int 1)))) (fop gIx (fVar 1) (fC (.int 1)))) fNil))))
    (fSeq (fSet 4 (fC (.int 1)))
    (fSeq (fWhile (fun _ => 200000) (fBl (fop gLt (fVar 2) (fVar 3))) (fSeq (fSet 5 (fcall gMax (fCons (fVar 2) (fCons (fop gSub (fVar 3) (fVar 4)) fNil))))
    (fSeq (fSet 6 (fOwn 3 (G_turned c) (fCons (fVar 0) (fCons (fVar 5) (fCons (fVar 3) fNil)))))
    (fSeq (fSet 7 (fOwn 3 (G_turned c) (fCons (fVar 1) (fCons (fVar 5) (fCons (fVar 3) fNil)))))
    (fSeq (fIfS (fBl (fop gNe (fVar 6) (fVar 7))) (fRet (fOwn 2 (G_last_unlike c) (fCons (fVar 6) (fCons (fVar 7) fNil)))) fNext)
    (fSeq (fSet 3 (fVar 5))
    (fSet 4 (fop gMul (fVar 4) (fC (.int 2))))))))))
    (fRet (fC .non)))))
noncomputable def G_last_difference (c : Cl) : List D → Option (R D) := fDef 4 (F_last_difference c)
theorem sc_last_difference : FnScope ["first", "second", "start", "stop", "size", "low", "one", "two"] ["first", "second", "start", "stop"] (defScope s_last_difference) := ⟨rfl, rfl, rfl, by decide +kernel, rfl, by decide +kernel, by decide +kernel⟩
/-- cycle_from -/
noncomputable def F_cycle_from (c : Cl) : PS1 → Option Fl :=
    (fSeq (fIfS (fBl (fop gEq (fVar 1) (fop gIx (fVar 0) (fC (.int 0))))) (fRet (fop gIx (fVar 0) (fC (.int 2)))) fNext)
    (fRet (fOwn 2 (G_moved_by c) (fCons (fOwn 3 (G_turned c) (fCons (fVar 0) (fCons (fVar 1) (fCons (fop gAdd (fVar 1) (fop gIx (fVar 0) (fC (.int 1)))) fNil)))) (fCons (fun1 gNeg (fVar 1)) fNil)))))
noncomputable def G_cycle_from (c : Cl) : List D → Option (R D) := fDef 0 (F_cycle_from c)
theorem sc_cycle_from : FnScope ["wheel", "start"] ["wheel", "start"] (defScope s_cycle_from) := ⟨rfl, rfl, rfl, by decide +kernel, rfl, by decide +kernel, by decide +kernel⟩
/-- normal -/
noncomputable def F_normal (c : Cl) : PS1 → Option Fl :=
    (fSeq (fSet 4 (fOwn 2 (G_least_period c) (fCons (fVar 2) (fCons (fVar 3) fNil))))
    (fSeq (fSet 5 (fTup (fCons (fVar 1) (fCons (fVar 4) (fCons (fOwn 3 (G_cut c) (fCons (fVar 3) (fCons (fC (.int 0)) (fCons (fVar 4) fNil)))) fNil)))))
    (fSeq (fSet 6 (fOwn 4 (G_last_difference c) (fCons (fTup (fCons (fC (.int 0)) (fCons (fVar 1) (fCons (fVar 0) fNil)))) (fCons (fVar 5) (fCons (fC (.int 0)) (fCons (fVar 1) fNil))))))
    (fSeq (fSet 7 (fIf (fBl (fop gIsN (fVar 6) (fC .non))) (fC (.int 0)) (fop gAdd (fVar 6) (fC (.int 1)))))
    (fRet (fTup (fCons (fOwn 3 (G_cut c) (fCons (fVar 0) (fCons (fC (.int 0)) (fCons (fVar 7) fNil)))) (fCons (fVar 7) (fCons (fVar 4) (fCons (fOwn 2 (G_cycle_from c) (fCons (fVar 5) (fCons (fVar 7) fNil))) fNil))))))))))
noncomputable def G_normal (c : Cl) : List D → Option (R D) := fDef 4 (F_normal c)
theorem sc_normal : FnScope ["head", "since", "period", "cycle", "least", "wheel", "found", "start"] ["head", "since", "period", "cycle"] (defScope s_normal) := ⟨rfl, rfl, rfl, by decide +kernel, rfl, by decide +kernel, by decide +kernel⟩
/-- Spans.__init__ -/
noncomputable def F_Spans___init__ (c : Cl) : PS1 → Option Fl :=
    (fSeq (fIfS (fBl (fop gLt (fVar 2) (fC (.int 0)))) (fRaise c.InvalidSpans (fC (.str "since is below 0"))) fNext)
    (fSeq (fIfS (fBl (fop gLt (fVar 3) (fC (.int 1)))) (fRaise c.InvalidSpans (fC (.str "the period is below 1"))) fNext)
    (fSeq (fDrop (fOwn 2 (G_check_spans c) (fCons (fVar 1) (fCons (fVar 2) fNil))))
    (fSeq (fDrop (fOwn 2 (G_check_spans c) (fCons (fVar 4) (fCons (fVar 3) fNil))))
    (fSeq (fSetT [1, 2, 3, 4] (fOwn 4 (G_normal c) (fCons (fOwn 1 (G_merged c) (fCons (fVar 1) fNil)) (fCons (fVar 2) (fCons (fVar 3) (fCons (fOwn 1 (G_merged c) (fCons (fVar 4) fNil)) fNil))))))
    (fSeq (fFldSet 0 c.Spans "head" (fVar 1))
    (fSeq (fFldSet 0 c.Spans "since" (fVar 2))
    (fSeq (fFldSet 0 c.Spans "period" (fVar 3))
    (fFldSet 0 c.Spans "cycle" (fVar 4))))))))))
noncomputable def G_Spans___init__ (c : Cl) : List D → Option (R (List Str × List D)) := fInit c.Spans 0 (F_Spans___init__ c)
theorem sc_Spans___init__ : FnScope ["self", "head", "since", "period", "cycle"] ["self", "head", "since", "period", "cycle"] (defScope s_Spans___init__) := ⟨rfl, rfl, rfl, by decide +kernel, rfl, by decide +kernel, by decide +kernel⟩
/-- law -/
noncomputable def F_law (c : Cl) : PS1 → Option Fl :=
    (fSeq (fSet 1 (fOwn 1 (G__law_description c) (fCons (fOwn 2 (G__law_cell c) (fCons (fVar 0) (fCons (fC (.int 0)) fNil))) fNil)))
    (fSeq (fSet 2 (fMake c.Spans 4 0 dg_Spans_4_ (G_Spans___init__ c) (fCons (fop gIx (fVar 1) (fC (.int 0))) (fCons (fop gIx (fVar 1) (fC (.int 1))) (fCons (fop gIx (fVar 1) (fC (.int 2))) (fCons (fop gIx (fVar 1) (fC (.int 3))) fNil)))) fNil))
    (fSeq (fSet 3 (fTup (fCons (fFld c.Spans "head" (fVar 2)) (fCons (fFld c.Spans "since" (fVar 2)) (fCons (fFld c.Spans "period" (fVar 2)) (fCons (fFld c.Spans "cycle" (fVar 2)) fNil))))))
    (fSeq (fIfS (fOrB (fNot (fTr (fun1 (gIsi "int") (fop gIx (fVar 3) (fC (.int 1)))))) (fOrB (fNot (fTr (fun1 (gIsi "int") (fop gIx (fVar 3) (fC (.int 2)))))) (fOrB (fBl (fop gLt (fop gIx (fVar 3) (fC (.int 1))) (fC (.int 0)))) (fBl (fop gLt (fop gIx (fVar 3) (fC (.int 2))) (fC (.int 1))))))) (fRet (fC (.bl false))) fNext)
    (fSeq (fIfS (fOrB (fNot (fTr (fOwn 3 (G__law_tidy c) (fCons (fop gIx (fVar 3) (fC (.int 0))) (fCons (fC (.int 0)) (fCons (fop gIx (fVar 3) (fC (.int 1))) fNil)))))) (fOrB (fNot (fTr (fOwn 3 (G__law_tidy c) (fCons (fop gIx (fVar 3) (fC (.int 3))) (fCons (fC (.int 0)) (fCons (fop gIx (fVar 3) (fC (.int 2))) fNil)))))) (fBl (fop gGt (fop gIx (fVar 3) (fC (.int 2))) (fop gIx (fVar 1) (fC (.int 2))))))) (fRet (fC (.bl false))) fNext)
    (fSeq (fSet 4 (fop gMod (fcall gInt (fCons (fcall gAbs (fCons (fOwn 2 (G__law_cell c) (fCons (fVar 0) (fCons (fC (.int 1)) fNil))) fNil)) fNil)) (fop gPow (fC (.int 10)) (fC (.int 60)))))
    (fSeq (fFor (fSeqOf (fLst (fopN gCatL (fLst (fSz (fCons (fVar 4) fNil))) (fLst (fLc (fcallN gRng (fCons (fop gAdd (fop gAdd (fop gIx (fVar 1) (fC (.int 1))) (fop gMul (fC (.int 2)) (fop gIx (fVar 1) (fC (.int 2))))) (fC (.int 2))) fNil)) [10] (giName 10) fYes (fVar 10)))))) (giName 5) (fIfS (fBl (fop gNe (fOwn 2 (G__law_in c) (fCons (fVar 3) (fCons (fVar 5) fNil))) (fOwn 2 (G__law_in c) (fCons (fVar 1) (fCons (fVar 5) fNil))))) (fRet (fC (.bl false))) fNext))
    (fSeq (fIfS (fAndB (fBl (fop gGt (fop gIx (fVar 3) (fC (.int 1))) (fC (.int 0)))) (fBl (fop gEq (fOwn 2 (G__law_in c) (fCons (fVar 3) (fCons (fop gSub (fop gIx (fVar 3) (fC (.int 1))) (fC (.int 1))) fNil))) (fOwn 2 (G__law_in c) (fCons (fVar 3) (fCons (fop gAdd (fop gSub (fop gIx (fVar 3) (fC (.int 1))) (fC (.int 1))) (fop gIx (fVar 3) (fC (.int 2)))) fNil)))))) (fRet (fC (.bl false))) fNext)
    (fSeq (fFor (fcallN gRngW (fCons (fC (.int 2)) (fCons (fop gAdd (fop gIx (fVar 3) (fC (.int 2))) (fC (.int 1))) fNil))) (giName 6) (fIfS (fBl (fop gEq (fop gMod (fcall gInt (fCons (fop gIx (fVar 3) (fC (.int 2))) fNil)) (fVar 6)) (fC (.int 0)))) (fSeq (fSet 7 (fop gDiv (fop gIx (fVar 3) (fC (.int 2))) (fVar 6)))
    (fSeq (fSet 8 (fLst (fLc (fcallN gRng (fCons (fop gIx (fVar 3) (fC (.int 2))) fNil)) [10] (giName 10) (fBl (fop gNe (fOwn 2 (G__law_hit c) (fCons (fop gIx (fVar 3) (fC (.int 3))) (fCons (fVar 10) fNil))) (fOwn 2 (G__law_hit c) (fCons (fop gIx (fVar 3) (fC (.int 3))) (fCons (fop gMod (fcall gInt (fCons (fop gAdd (fVar 10) (fVar 7)) fNil)) (fop gIx (fVar 3) (fC (.int 2)))) fNil))))) (fVar 10))))
    (fIfS (fBl (fop gEq (fVar 8) (fLst (fSz fNil)))) (fRet (fC (.bl false))) fNext))) fNext))
    (fSeq (fSet 9 (fMake c.Spans 4 0 dg_Spans_4_ (G_Spans___init__ c) (fCons (fFld c.Spans "head" (fVar 2)) (fCons (fFld c.Spans "since" (fVar 2)) (fCons (fFld c.Spans "period" (fVar 2)) (fCons (fFld c.Spans "cycle" (fVar 2)) fNil)))) fNil))
    (fRet (fop gEq (fTup (fCons (fFld c.Spans "head" (fVar 9)) (fCons (fFld c.Spans "since" (fVar 9)) (fCons (fFld c.Spans "period" (fVar 9)) (fCons (fFld c.Spans "cycle" (fVar 9)) fNil))))) (fVar 3)))))))))))))
noncomputable def G_law (c : Cl) : List D → Option (R D) := fDef 10 (F_law c)
theorem sc_law : FnScope ["script", "row", "made", "form", "probe", "instant", "part", "step", "same", "again", "t"] ["script"] (defScope s_law) := ⟨rfl, rfl, rfl, by decide +kernel, rfl, by decide +kernel, by decide +kernel⟩
structure Txt (K : PySem.W.Frag) (mg : Str → Option Value) where
  c : Cl
  cls_Spans : Cls K c.Spans
  gc_Spans : mg "Spans" = some (.ref c.Spans)
  na_Spans_cycle : NoAttr K c.Spans "cycle"
  na_Spans_head : NoAttr K c.Spans "head"
  na_Spans_period : NoAttr K c.Spans "period"
  na_Spans_since : NoAttr K c.Spans "since"
  n_abs : mg "abs" = none
  n_int : mg "int" = none
  n_isinstance : mg "isinstance" = none
  n_len : mg "len" = none
  n_list : mg "list" = none
  n_max : mg "max" = none
  n_min : mg "min" = none
  n_range : mg "range" = none
  n_sorted : mg "sorted" = none
  n_tuple : mg "tuple" = none
  n_zip : mg "zip" = none
  x_InvalidSpans : PySem.W.excIn K c.InvalidSpans [.type "ValueError", .type "Exception", .type "BaseException", .type "object"] "ValueError.__new__" = true
  gx_InvalidSpans : mg "InvalidSpans" = some (.ref c.InvalidSpans)
  kx_InvalidSpans : PySem.W.keepIn K (.ref c.InvalidSpans) = true
  bx_InvalidSpans : PySem.W.subIn K (.ref c.InvalidSpans) (.type "BaseException") = some true
  tx_InvalidSpans : PySem.W.typeIn K (.ref c.InvalidSpans) = some (.type "type")
  f__law_digits : Addr
  d__law_digits : FuncData
  F__law_digits : Fun K "_law_digits" "_law_digits" s__law_digits f__law_digits d__law_digits
  b__law_digits : Binds K d__law_digits ["cell", "sizes"] []
  g__law_digits : mg "_law_digits" = some (.ref f__law_digits)
  f__law_rich : Addr
  d__law_rich : FuncData
  F__law_rich : Fun K "_law_rich" "_law_rich" s__law_rich f__law_rich d__law_rich
  b__law_rich : Binds K d__law_rich ["cell"] []
  g__law_rich : mg "_law_rich" = some (.ref f__law_rich)
  f_check_spans : Addr
  d_check_spans : FuncData
  F_check_spans : Fun K "check_spans" "check_spans" s_check_spans f_check_spans d_check_spans
  b_check_spans : Binds K d_check_spans ["spans", "bound"] []
  g_check_spans : mg "check_spans" = some (.ref f_check_spans)
  f_runs : Addr
  d_runs : FuncData
  F_runs : Fun K "runs" "runs" s_runs f_runs d_runs
  b_runs : Binds K d_runs ["period", "cycle"] []
  g_runs : mg "runs" = some (.ref f_runs)
  f_is_full : Addr
  d_is_full : FuncData
  F_is_full : Fun K "is_full" "is_full" s_is_full f_is_full d_is_full
  b_is_full : Binds K d_is_full ["wheel"] []
  g_is_full : mg "is_full" = some (.ref f_is_full)
  f_shortest_turn : Addr
  d_shortest_turn : FuncData
  F_shortest_turn : Fun K "shortest_turn" "shortest_turn" s_shortest_turn f_shortest_turn d_shortest_turn
  b_shortest_turn : Binds K d_shortest_turn ["rows"] []
  g_shortest_turn : mg "shortest_turn" = some (.ref f_shortest_turn)
  f_moved_by : Addr
  d_moved_by : FuncData
  F_moved_by : Fun K "moved_by" "moved_by" s_moved_by f_moved_by d_moved_by
  b_moved_by : Binds K d_moved_by ["spans", "by"] []
  g_moved_by : mg "moved_by" = some (.ref f_moved_by)
  f_merged : Addr
  d_merged : FuncData
  F_merged : Fun K "merged" "merged" s_merged f_merged d_merged
  b_merged : Binds K d_merged ["spans"] []
  g_merged : mg "merged" = some (.ref f_merged)
  f_first_behind : Addr
  d_first_behind : FuncData
  F_first_behind : Fun K "first_behind" "first_behind" s_first_behind f_first_behind d_first_behind
  b_first_behind : Binds K d_first_behind ["spans", "instant"] []
  g_first_behind : mg "first_behind" = some (.ref f_first_behind)
  f_last_unlike : Addr
  d_last_unlike : FuncData
  F_last_unlike : Fun K "last_unlike" "last_unlike" s_last_unlike f_last_unlike d_last_unlike
  b_last_unlike : Binds K d_last_unlike ["first", "second"] []
  g_last_unlike : mg "last_unlike" = some (.ref f_last_unlike)
  f__law_cell : Addr
  d__law_cell : FuncData
  F__law_cell : Fun K "_law_cell" "_law_cell" s__law_cell f__law_cell d__law_cell
  b__law_cell : Binds K d__law_cell ["script", "k"] []
  g__law_cell : mg "_law_cell" = some (.ref f__law_cell)
  f__law_tidy : Addr
  d__law_tidy : FuncData
  F__law_tidy : Fun K "_law_tidy" "_law_tidy" s__law_tidy f__law_tidy d__law_tidy
  b__law_tidy : Binds K d__law_tidy ["rows", "low", "high"] []
  g__law_tidy : mg "_law_tidy" = some (.ref f__law_tidy)
  f__law_in : Addr
  d__law_in : FuncData
  F__law_in : Fun K "_law_in" "_law_in" s__law_in f__law_in d__law_in
  b__law_in : Binds K d__law_in ["row", "instant"] []
  g__law_in : mg "_law_in" = some (.ref f__law_in)
  f__law_hit : Addr
  d__law_hit : FuncData
  F__law_hit : Fun K "_law_hit" "_law_hit" s__law_hit f__law_hit d__law_hit
  b__law_hit : Binds K d__law_hit ["rows", "instant"] []
  g__law_hit : mg "_law_hit" = some (.ref f__law_hit)
  f__law_row : Addr
  d__law_row : FuncData
  F__law_row : Fun K "_law_row" "_law_row" s__law_row f__law_row d__law_row
  b__law_row : Binds K d__law_row ["cell", "bound"] []
  g__law_row : mg "_law_row" = some (.ref f__law_row)
  f_least_period : Addr
  d_least_period : FuncData
  F_least_period : Fun K "least_period" "least_period" s_least_period f_least_period d_least_period
  b_least_period : Binds K d_least_period ["period", "cycle"] []
  g_least_period : mg "least_period" = some (.ref f_least_period)
  f_cut : Addr
  d_cut : FuncData
  F_cut : Fun K "cut" "cut" s_cut f_cut d_cut
  b_cut : Binds K d_cut ["spans", "start", "stop"] []
  g_cut : mg "cut" = some (.ref f_cut)
  f__law_description : Addr
  d__law_description : FuncData
  F__law_description : Fun K "_law_description" "_law_description" s__law_description f__law_description d__law_description
  b__law_description : Binds K d__law_description ["cell"] []
  g__law_description : mg "_law_description" = some (.ref f__law_description)
  f_turned : Addr
  d_turned : FuncData
  F_turned : Fun K "turned" "turned" s_turned f_turned d_turned
  b_turned : Binds K d_turned ["wheel", "start", "stop"] []
  g_turned : mg "turned" = some (.ref f_turned)
  f_last_difference : Addr
  d_last_difference : FuncData
  F_last_difference : Fun K "last_difference" "last_difference" s_last_difference f_last_difference d_last_difference
  b_last_difference : Binds K d_last_difference ["first", "second", "start", "stop"] []
  g_last_difference : mg "last_difference" = some (.ref f_last_difference)
  f_cycle_from : Addr
  d_cycle_from : FuncData
  F_cycle_from : Fun K "cycle_from" "cycle_from" s_cycle_from f_cycle_from d_cycle_from
  b_cycle_from : Binds K d_cycle_from ["wheel", "start"] []
  g_cycle_from : mg "cycle_from" = some (.ref f_cycle_from)
  f_normal : Addr
  d_normal : FuncData
  F_normal : Fun K "normal" "normal" s_normal f_normal d_normal
  b_normal : Binds K d_normal ["head", "since", "period", "cycle"] []
  g_normal : mg "normal" = some (.ref f_normal)
  f_Spans___init__ : Addr
  d_Spans___init__ : FuncData
  F_Spans___init__ : Fun K "__init__" "Spans.__init__" s_Spans___init__ f_Spans___init__ d_Spans___init__
  b_Spans___init__ : Binds K d_Spans___init__ ["self", "head", "since", "period", "cycle"] []
  mk_Spans : Mk K c.Spans f_Spans___init__
  f_law : Addr
  d_law : FuncData
  F_law : Fun K "law" "law" s_law f_law d_law
  b_law : Binds K d_law ["script"] []
  g_law : mg "law" = some (.ref f_law)
  gv_Spans_4_ : List Value → List Value → List Value
  kb_Spans_4_ : KBn K d_Spans___init__ ["self", "head", "since", "period", "cycle"] 5 [] gv_Spans_4_ gV_Spans_4_
section
variable {P : Program} {w : World} {K : PySem.W.Frag} {mg : Str → Option Value} {base : Heap}
theorem ok__law_digits (T : Txt K mg) : FnF P w K mg base 1 T.f__law_digits T.d__law_digits ["cell", "sizes"] 2 (G__law_digits T.c) :=
  fun_okF T.F__law_digits sc__law_digits rfl rfl <| fun cdv A outer s H E hr =>
      (dss_cons (ds_setN 2 sc__law_digits.nd rfl (Or.inl rfl) (dn_lst da_nil))
      (dss_cons (ds_for (passes_of rfl) rfl (di_seq (de_var 1)) (pg_name (i := 3) sc__law_digits.nd rfl (Or.inl rfl)) (tg_name 3) (dss_cons (ds_app 2 (pe_bm PySem.F.plainAttrs_list PySem.F.slot_list_append PySem.F.type_list_append mt_append (pv 2) (pa_cons (de_mod (de_callTy call_int1 pure_int (by rfl) T.n_int (by decide +kernel) (da_cons (de_var 0) da_nil)) (de_var 3)) pa_nil)))
      (dss_one (ds_set 0 sc__law_digits.nd rfl (Or.inl rfl) (de_div (de_var 0) (de_var 3))))))
      (dss_one (ds_frz 2 (ds_ret (de_var 2))))))
theorem ok__law_rich (T : Txt K mg) : FnF P w K mg base 1 T.f__law_rich T.d__law_rich ["cell"] 1 (G__law_rich T.c) :=
  fun_okF T.F__law_rich sc__law_rich rfl rfl <| fun cdv A outer s H E hr =>
      (dss_cons (ds_if (dt_cmp op_ge pure_ge (de_var 0) (de_pow de_int de_int) (nomark _)) (dss_one (ds_ret (de_var 0))) dss_nil)
      (dss_cons (ds_set 1 sc__law_rich.nd rfl (Or.inl rfl) (de_mod (de_callTy call_int1 pure_int (by rfl) T.n_int (by decide +kernel) (da_cons (de_add (de_mulB (de_var 0) de_int) de_int) da_nil)) de_int))
      (dss_cons (ds_set 2 sc__law_rich.nd rfl (Or.inl rfl) (de_mod (de_callTy call_int1 pure_int (by rfl) T.n_int (by decide +kernel) (da_cons (de_add (de_add (de_mulB (de_var 1) de_int) (de_div (de_var 0) de_int)) de_int) da_nil)) de_int))
      (dss_one (ds_ret (de_add (de_mulB (de_var 1) de_int) (de_var 2)))))))
theorem ok_check_spans (T : Txt K mg) : FnF P w K mg base 1 T.f_check_spans T.d_check_spans ["spans", "bound"] 2 (G_check_spans T.c) :=
  fun_okF T.F_check_spans sc_check_spans rfl rfl <| fun cdv A outer s H E hr =>
      (dss_one (ds_for (passes_of rfl) rfl (di_seq (de_var 0)) (pg_name (i := 2) sc_check_spans.nd rfl (Or.inl rfl)) (tg_name 2) (dss_one (ds_if (dw_pt (dw_or (dt_cmp (op_neD hr.units) pure_neD (de_len (by rfl) T.n_len (da_cons (de_var 2) da_nil)) de_int (nomark _)) (dw_or1 (dt_not (dt_ch3 op_le op_lt op_le pure_le pure_lt pure_le de_int (de_ix (de_var 2) de_int (fun _ _ => rfl)) (de_ix (de_var 2) de_int (fun _ _ => rfl)) (de_var 1)))))) (dss_one (ds_raise rfl (takes_of rfl rfl rfl rfl) PySem.F.excBase_ValueError T.x_InvalidSpans T.gx_InvalidSpans T.kx_InvalidSpans (raises_own T.bx_InvalidSpans T.tx_InvalidSpans) (by rfl) (de_joined (DJ.cons de_str (DJ.cons (de_fmt (de_var 1)) DJ.nil))))) dss_nil))))
theorem ok_runs (T : Txt K mg) : FnF P w K mg base 1 T.f_runs T.d_runs ["period", "cycle"] 2 (G_runs T.c) :=
  fun_okF T.F_runs sc_runs rfl rfl <| fun cdv A outer s H E hr =>
      (dss_cons (ds_if (dw_pt (dw_or (dt_cmp op_gt pure_gt (de_ix (de_ix (de_var 1) de_int (fun _ _ => rfl)) de_int (fun _ _ => rfl)) de_int (nomark _)) (dw_or1 (dt_cmp op_lt pure_lt (de_ix (de_ix (de_var 1) (de_neg de_int) (fun _ _ => rfl)) de_int (fun _ _ => rfl)) (de_var 0) (nomark _))))) (dss_one (ds_ret (de_var 1))) dss_nil)
      (dss_one (ds_ret (de_tup (da_star (de_slT (de_var 1) (do_some de_int) (do_some (de_neg de_int))) (da_cons (de_tup (da_cons (de_ix (de_ix (de_var 1) (de_neg de_int) (fun _ _ => rfl)) de_int (fun _ _ => rfl)) (da_cons (de_add (de_var 0) (de_ix (de_ix (de_var 1) de_int (fun _ _ => rfl)) de_int (fun _ _ => rfl))) da_nil))) da_nil))))))
theorem ok_is_full (T : Txt K mg) : FnF P w K mg base 1 T.f_is_full T.d_is_full ["wheel"] 1 (G_is_full T.c) :=
  fun_okF T.F_is_full sc_is_full rfl rfl <| fun cdv A outer s H E hr =>
      (dss_one (ds_ret (de_eq hr.units (de_ix (de_var 0) de_int (fun _ _ => rfl)) (de_tup (da_cons (de_tup (da_cons de_int (da_cons (de_ix (de_var 0) de_int (fun _ _ => rfl)) da_nil))) da_nil)))))
theorem ok_shortest_turn (T : Txt K mg) : FnF P w K mg base 1 T.f_shortest_turn T.d_shortest_turn ["rows"] 1 (G_shortest_turn T.c) :=
  fun_okF T.F_shortest_turn sc_shortest_turn rfl rfl <| fun cdv A outer s H E hr =>
      (dss_cons (ds_setN 1 sc_shortest_turn.nd rfl (Or.inl rfl) (dn_lst (da_cons de_int da_nil)))
      (dss_cons (ds_for (passes_of rfl) rfl (di_range2 (by rfl) T.n_range (da_cons de_int (da_cons (de_len (by rfl) T.n_len (da_cons (de_var 0) da_nil)) da_nil)) (by rfl) (by rfl) (cons_len (cons_len nil_len))) (pg_name (i := 2) sc_shortest_turn.nd rfl (Or.inl rfl)) (tg_name 2) (dss_cons (ds_set 3 sc_shortest_turn.nd rfl (Or.inl rfl) (de_peek 1 (de_ix (de_var 1) (de_neg de_int) (fun _ _ => rfl))))
      (dss_cons (ds_while (fun _ => 200000) (passes_of rfl) (dw_pt (dw_and (dt_cmp op_gt pure_gt (de_var 3) de_int (nomark _)) (dw_and1 (dt_cmp (op_neD hr.units) pure_neD (de_ix (de_var 0) (de_var 3) (fun _ _ => rfl)) (de_ix (de_var 0) (de_var 2) (fun _ _ => rfl)) (nomark _))))) (dss_one (ds_set 3 sc_shortest_turn.nd rfl (Or.inl rfl) (de_peek 1 (de_ix (de_var 1) (de_sub (de_var 3) de_int) (fun _ _ => rfl))))))
      (dss_one (ds_app 1 (pe_bm PySem.F.plainAttrs_list PySem.F.slot_list_append PySem.F.type_list_append mt_append (pv 1) (pa_cons (de_if (dt_cmp (op_eqD hr.units) pure_eqD (de_ix (de_var 0) (de_var 3) (fun _ _ => rfl)) (de_ix (de_var 0) (de_var 2) (fun _ _ => rfl)) (nomark _)) (de_add (de_var 3) de_int) de_int) pa_nil)))))))
      (dss_cons (ds_set 4 sc_shortest_turn.nd rfl (Or.inl rfl) (de_sub (de_len (by rfl) T.n_len (da_cons (de_var 0) da_nil)) (de_peek 1 (de_ix (de_var 1) (de_neg de_int) (fun _ _ => rfl)))))
      (dss_one (ds_ret (de_if (dt_cmp (op_eqD hr.units) pure_eqD (de_mod (de_len (by rfl) T.n_len (da_cons (de_var 0) da_nil)) (de_var 4)) de_int (nomark _)) (de_var 4) (de_len (by rfl) T.n_len (da_cons (de_var 0) da_nil))))))))
theorem ok_moved_by (T : Txt K mg) : FnF P w K mg base 1 T.f_moved_by T.d_moved_by ["spans", "by"] 2 (G_moved_by T.c) :=
  fun_okF T.F_moved_by sc_moved_by rfl rfl <| fun cdv A outer s H E hr =>
      (dss_cons (ds_if (dt_cmp (op_eqD hr.units) pure_eqD (de_var 1) de_int (nomark _)) (dss_one (ds_ret (de_callTy call_tuple_of pure_tuple (by rfl) T.n_tuple (by decide +kernel) (da_cons (de_var 0) da_nil)))) dss_nil)
      (dss_one (ds_ret (de_callTy call_tuple_of pure_tuple (by rfl) T.n_tuple (by decide +kernel) (da_cons (DN.de (dn_lc (own := [("start", 2), ("end", 3)]) rfl sc_moved_by.nd (di_seq (de_var 0)) (blkOk_by (own := [("start", 2), ("end", 3)]) (N := ["spans", "by", "start", "end"]) (sc := defScope s_moved_by) (by decide +kernel)) (fun _ _ _ _ _ => pg_tup rfl (pgs_cons (pg_name (i := 2) sc_moved_by.nd rfl (Or.inl rfl)) (pgs_cons (pg_name (i := 3) sc_moved_by.nd rfl (Or.inl rfl)) pgs_nil))) (tc_tup [2, 3]) (fun _ _ _ _ _ => dts_nil) (fun _ _ _ _ _ => (de_tup (da_cons (de_add (de_var 2) (de_var 1)) (da_cons (de_add (de_var 3) (de_var 1)) da_nil)))))) da_nil)))))
theorem ok_merged (T : Txt K mg) : FnF P w K mg base 1 T.f_merged T.d_merged ["spans"] 1 (G_merged T.c) :=
  fun_okF T.F_merged sc_merged rfl rfl <| fun cdv A outer s H E hr =>
      (dss_cons (ds_setN 1 sc_merged.nd rfl (Or.inl rfl) (dn_lst da_nil))
      (dss_cons (ds_for (passes_of rfl) rfl (di_seq (DN.de (dn_callB (cr_sortD (units65 hr)) pure_sorted (by rfl) T.n_sorted (by decide +kernel) (da_cons (de_var 0) da_nil)))) (pg_tup rfl (pgs_cons (pg_name (i := 2) sc_merged.nd rfl (Or.inl rfl)) (pgs_cons (pg_name (i := 3) sc_merged.nd rfl (Or.inl rfl)) pgs_nil))) (tg_tup [2, 3]) (dss_one (ds_if (dw_pt (dw_or (dt_not (dt_own 1 (dt_tr (de_var 1)))) (dw_or1 (dt_cmp op_gt pure_gt (de_var 2) (de_ix (de_ixO 1 (pv 1) (de_var 1) (de_neg de_int) (fun _ _ => rfl)) de_int (fun _ _ => rfl)) (nomark _))))) (dss_one (ds_app 1 (pe_bm PySem.F.plainAttrs_list PySem.F.slot_list_append PySem.F.type_list_append mt_append (pv 1) (pa_cons (de_tup (da_cons (de_var 2) (da_cons (de_var 3) da_nil))) pa_nil)))) (dss_one (ds_if (dt_cmp op_gt pure_gt (de_var 3) (de_ix (de_ixO 1 (pv 1) (de_var 1) (de_neg de_int) (fun _ _ => rfl)) de_int (fun _ _ => rfl)) (nomark _)) (dss_one (ds_setIx 1 (pg_sub (pv 1) (de_neg de_int) set_list) (de_tup (da_cons (de_ix (de_ixO 1 (pv 1) (de_var 1) (de_neg de_int) (fun _ _ => rfl)) de_int (fun _ _ => rfl)) (da_cons (de_var 3) da_nil))))) dss_nil)))))
      (dss_one (ds_frz 1 (ds_ret (de_callTy call_tuple_of pure_tuple (by rfl) T.n_tuple (by decide +kernel) (da_cons (de_var 1) da_nil)))))))
theorem ok_first_behind (T : Txt K mg) : FnF P w K mg base 1 T.f_first_behind T.d_first_behind ["spans", "instant"] 2 (G_first_behind T.c) :=
  fun_okF T.F_first_behind sc_first_behind rfl rfl <| fun cdv A outer s H E hr =>
      (dss_cons (ds_set 2 sc_first_behind.nd rfl (Or.inl rfl) de_int)
      (dss_cons (ds_set 3 sc_first_behind.nd rfl (Or.inl rfl) (de_len (by rfl) T.n_len (da_cons (de_var 0) da_nil)))
      (dss_cons (ds_while (fun _ => 200000) (passes_of rfl) (dt_cmp op_lt pure_lt (de_var 2) (de_var 3) (nomark _)) (dss_cons (ds_set 4 sc_first_behind.nd rfl (Or.inl rfl) (de_div (de_add (de_var 2) (de_var 3)) de_int))
      (dss_one (ds_if (dt_cmp op_gt pure_gt (de_ix (de_ix (de_var 0) (de_var 4) (fun _ _ => rfl)) de_int (fun _ _ => rfl)) (de_var 1) (nomark _)) (dss_one (ds_set 3 sc_first_behind.nd rfl (Or.inl rfl) (de_var 4))) (dss_one (ds_set 2 sc_first_behind.nd rfl (Or.inl rfl) (de_add (de_var 4) de_int)))))))
      (dss_one (ds_ret (de_var 2))))))
theorem ok_last_unlike (T : Txt K mg) : FnF P w K mg base 1 T.f_last_unlike T.d_last_unlike ["first", "second"] 2 (G_last_unlike T.c) :=
  fun_okF T.F_last_unlike sc_last_unlike rfl rfl <| fun cdv A outer s H E hr =>
      (dss_cons (ds_for (passes_of rfl) rfl (di_zip (by rfl) T.n_zip (da_cons (de_revT (de_var 0)) (da_cons (de_revT (de_var 1)) da_nil))) (pg_tup rfl (pgs_cons (pg_name (i := 2) sc_last_unlike.nd rfl (Or.inl rfl)) (pgs_cons (pg_name (i := 3) sc_last_unlike.nd rfl (Or.inl rfl)) pgs_nil))) (tg_tup [2, 3]) (dss_cons (ds_if (dt_cmp (op_neD hr.units) pure_neD (de_ix (de_var 2) de_int (fun _ _ => rfl)) (de_ix (de_var 3) de_int (fun _ _ => rfl)) (nomark _)) (dss_one (ds_ret (de_sub (de_callB ((cr_max rfl).or (call_max2 rfl)) pure_max (by rfl) T.n_max (by decide +kernel) (da_cons (de_ix (de_var 2) de_int (fun _ _ => rfl)) (da_cons (de_ix (de_var 3) de_int (fun _ _ => rfl)) da_nil))) de_int))) dss_nil)
      (dss_one (ds_if (dt_cmp (op_neD hr.units) pure_neD (de_ix (de_var 2) de_int (fun _ _ => rfl)) (de_ix (de_var 3) de_int (fun _ _ => rfl)) (nomark _)) (dss_one (ds_ret (de_sub (de_callB ((cr_max rfl).or (call_max2 rfl)) pure_max (by rfl) T.n_max (by decide +kernel) (da_cons (de_ix (de_var 2) de_int (fun _ _ => rfl)) (da_cons (de_ix (de_var 3) de_int (fun _ _ => rfl)) da_nil))) de_int))) dss_nil))))
      (dss_cons (ds_set 4 sc_last_unlike.nd rfl (Or.inl rfl) (de_callB ((cr_min rfl).or (call_min2 rfl)) pure_min (by rfl) T.n_min (by decide +kernel) (da_cons (de_len (by rfl) T.n_len (da_cons (de_var 0) da_nil)) (da_cons (de_len (by rfl) T.n_len (da_cons (de_var 1) da_nil)) da_nil))))
      (dss_cons (ds_set 5 sc_last_unlike.nd rfl (Or.inl rfl) (de_if (dt_cmp op_gt pure_gt (de_len (by rfl) T.n_len (da_cons (de_var 0) da_nil)) (de_var 4) (nomark _)) (de_var 0) (de_var 1)))
      (dss_one (ds_ret (de_sub (de_ix (de_ix (de_var 5) (de_sub (de_sub (de_len (by rfl) T.n_len (da_cons (de_var 5) da_nil)) (de_var 4)) de_int) (fun _ _ => rfl)) de_int (fun _ _ => rfl)) de_int))))))
theorem ok__law_cell (T : Txt K mg) : FnF P w K mg base 1 T.f__law_cell T.d__law_cell ["script", "k"] 2 (G__law_cell T.c) :=
  fun_okF T.F__law_cell sc__law_cell rfl rfl <| fun cdv A outer s H E hr =>
      (dss_cons (ds_if (dt_cmp op_lt pure_lt (de_var 1) (de_len (by rfl) T.n_len (da_cons (de_var 0) da_nil)) (nomark _)) (dss_one (ds_ret (de_ix (de_var 0) (de_var 1) (fun _ _ => rfl)))) dss_nil)
      (dss_one (ds_ret de_int)))
theorem ok__law_tidy (T : Txt K mg) : FnF P w K mg base 1 T.f__law_tidy T.d__law_tidy ["rows", "low", "high"] 3 (G__law_tidy T.c) :=
  fun_okF T.F__law_tidy sc__law_tidy rfl rfl <| fun cdv A outer s H E hr =>
      (dss_cons (ds_if (dt_not (dt_tr (de_isi (T := "tuple") (by rfl) T.n_isinstance (by decide +kernel) (by rfl) T.n_tuple (by decide +kernel) (de_var 0)))) (dss_one (ds_ret de_bl)) dss_nil)
      (dss_cons (ds_set 3 sc__law_tidy.nd rfl (Or.inl rfl) (de_sub (de_var 1) de_int))
      (dss_cons (ds_for (passes_of rfl) rfl (di_seq (de_var 0)) (pg_name (i := 4) sc__law_tidy.nd rfl (Or.inl rfl)) (tg_name 4) (dss_cons (ds_if (dw_pt (dw_or (dt_not (dt_tr (de_isi (T := "tuple") (by rfl) T.n_isinstance (by decide +kernel) (by rfl) T.n_tuple (by decide +kernel) (de_var 4)))) (dw_or1 (dt_cmp (op_neD hr.units) pure_neD (de_len (by rfl) T.n_len (da_cons (de_var 4) da_nil)) de_int (nomark _))))) (dss_one (ds_ret de_bl)) dss_nil)
      (dss_cons (ds_if (dw_pt (dw_or (dt_not (dt_tr (de_isi (T := "int") (by rfl) T.n_isinstance (by decide +kernel) (by rfl) T.n_int (by decide +kernel) (de_ix (de_var 4) de_int (fun _ _ => rfl))))) (dw_or1 (dt_not (dt_tr (de_isi (T := "int") (by rfl) T.n_isinstance (by decide +kernel) (by rfl) T.n_int (by decide +kernel) (de_ix (de_var 4) de_int (fun _ _ => rfl)))))))) (dss_one (ds_ret de_bl)) dss_nil)
      (dss_cons (ds_if (dw_pt (dw_or (dt_cmp op_le pure_le (de_ix (de_var 4) de_int (fun _ _ => rfl)) (de_var 3) (nomark _)) (dw_or (dt_cmp op_le pure_le (de_ix (de_var 4) de_int (fun _ _ => rfl)) (de_ix (de_var 4) de_int (fun _ _ => rfl)) (nomark _)) (dw_or1 (dt_cmp op_gt pure_gt (de_ix (de_var 4) de_int (fun _ _ => rfl)) (de_var 2) (nomark _)))))) (dss_one (ds_ret de_bl)) dss_nil)
      (dss_one (ds_set 3 sc__law_tidy.nd rfl (Or.inl rfl) (de_ix (de_var 4) de_int (fun _ _ => rfl))))))))
      (dss_one (ds_ret de_bl)))))
theorem ok__law_in (T : Txt K mg) : FnF P w K mg base 1 T.f__law_in T.d__law_in ["row", "instant"] 2 (G__law_in T.c) :=
  fun_okF T.F__law_in sc__law_in rfl rfl <| fun cdv A outer s H E hr =>
      (dss_cons (ds_if (dt_cmp op_lt pure_lt (de_var 1) de_int (nomark _)) (dss_one (ds_ret de_bl)) dss_nil)
      (dss_cons (ds_set 2 sc__law_in.nd rfl (Or.inl rfl) (de_var 1))
      (dss_cons (ds_set 3 sc__law_in.nd rfl (Or.inl rfl) (de_ix (de_var 0) de_int (fun _ _ => rfl)))
      (dss_cons (ds_if (dt_cmp op_ge pure_ge (de_var 1) (de_ix (de_var 0) de_int (fun _ _ => rfl)) (nomark _)) (dss_cons (ds_set 2 sc__law_in.nd rfl (Or.inl rfl) (de_mod (de_callTy call_int1 pure_int (by rfl) T.n_int (by decide +kernel) (da_cons (de_sub (de_var 1) (de_ix (de_var 0) de_int (fun _ _ => rfl))) da_nil)) (de_ix (de_var 0) de_int (fun _ _ => rfl))))
      (dss_one (ds_set 3 sc__law_in.nd rfl (Or.inl rfl) (de_ix (de_var 0) de_int (fun _ _ => rfl))))) dss_nil)
      (dss_cons (ds_for (passes_of rfl) rfl (di_seq (de_var 3)) (pg_name (i := 4) sc__law_in.nd rfl (Or.inl rfl)) (tg_name 4) (dss_one (ds_if (dw_pt (dw_and (dt_cmp op_le pure_le (de_ix (de_var 4) de_int (fun _ _ => rfl)) (de_var 2) (nomark _)) (dw_and1 (dt_cmp op_lt pure_lt (de_var 2) (de_ix (de_var 4) de_int (fun _ _ => rfl)) (nomark _))))) (dss_one (ds_ret de_bl)) dss_nil)))
      (dss_one (ds_ret de_bl)))))))
theorem ok__law_hit (T : Txt K mg) : FnF P w K mg base 1 T.f__law_hit T.d__law_hit ["rows", "instant"] 2 (G__law_hit T.c) :=
  fun_okF T.F__law_hit sc__law_hit rfl rfl <| fun cdv A outer s H E hr =>
      (dss_cons (ds_for (passes_of rfl) rfl (di_seq (de_var 0)) (pg_name (i := 2) sc__law_hit.nd rfl (Or.inl rfl)) (tg_name 2) (dss_one (ds_if (dw_pt (dw_and (dt_cmp op_le pure_le (de_ix (de_var 2) de_int (fun _ _ => rfl)) (de_var 1) (nomark _)) (dw_and1 (dt_cmp op_lt pure_lt (de_var 1) (de_ix (de_var 2) de_int (fun _ _ => rfl)) (nomark _))))) (dss_one (ds_ret de_bl)) dss_nil)))
      (dss_one (ds_ret de_bl)))
theorem ok__law_row (T : Txt K mg) : FnL P w K mg base 2 T.f__law_row T.d__law_row ["cell", "bound"] 2 (G__law_row T.c) :=
  fun_okL T.F__law_row sc__law_row rfl rfl <| fun cdv A outer s H E hr =>
      (dssL_cons (ds_set 2 sc__law_row.nd rfl (Or.inl rfl) (de_call (ok__law_digits T) (hr.mono (by decide)) (by rfl) T.g__law_digits T.F__law_digits.kp T.b__law_digits (takes_of rfl rfl rfl rfl) (da_cons (de_call (ok__law_rich T) (hr.mono (by decide)) (by rfl) T.g__law_rich T.F__law_rich.kp T.b__law_rich (takes_of rfl rfl rfl rfl) (da_cons (de_var 0) da_nil)) (da_cons (DN.de (dn_lst (da_cons de_int (da_cons de_int (da_cons de_int (da_cons de_int (da_cons de_int (da_cons de_int (da_cons de_int (da_cons de_int (da_cons de_int (da_cons de_int da_nil)))))))))))) da_nil))))
      (dssL_cons (ds_setN 3 sc__law_row.nd rfl (Or.inl rfl) (dn_lst da_nil))
      (dssL_cons (ds_set 4 sc__law_row.nd rfl (Or.inl rfl) (de_sub (de_mod (de_callTy call_int1 pure_int (by rfl) T.n_int (by decide +kernel) (da_cons (de_ix (de_var 2) de_int (fun _ _ => rfl)) da_nil)) de_int) de_int))
      (dssL_cons (ds_for (passes_of rfl) rfl (di_range1 (by rfl) T.n_range (da_cons (de_ix (de_var 2) de_int (fun _ _ => rfl)) da_nil) (by rfl) (cons_len nil_len)) (pg_name (i := 5) sc__law_row.nd rfl (Or.inl rfl)) (tg_name 5) (dss_cons (ds_set 6 sc__law_row.nd rfl (Or.inl rfl) (de_add (de_var 4) (de_mulB (de_ix (de_var 2) (de_add de_int (de_mulB de_int (de_var 5))) (fun _ _ => rfl)) (de_callTy call_int1 pure_int (by rfl) T.n_int (by decide +kernel) (da_cons (de_add de_int (de_div (de_ix (de_var 2) (de_add de_int (de_mulB de_int (de_var 5))) (fun _ _ => rfl)) de_int)) da_nil)))))
      (dss_cons (ds_app 3 (pe_bm PySem.F.plainAttrs_list PySem.F.slot_list_append PySem.F.type_list_append mt_append (pv 3) (pa_cons (de_tup (da_cons (de_callB ((cr_max rfl).or (call_max2 rfl)) pure_max (by rfl) T.n_max (by decide +kernel) (da_cons de_int (da_cons (de_var 6) da_nil))) (da_cons (de_add (de_add (de_callB ((cr_max rfl).or (call_max2 rfl)) pure_max (by rfl) T.n_max (by decide +kernel) (da_cons de_int (da_cons (de_var 6) da_nil))) de_int) (de_ix (de_var 2) (de_add de_int (de_mulB de_int (de_var 5))) (fun _ _ => rfl))) da_nil))) pa_nil)))
      (dss_one (ds_set 4 sc__law_row.nd rfl (Or.inl rfl) (de_add (de_var 6) (de_ix (de_var 2) (de_add de_int (de_mulB de_int (de_var 5))) (fun _ _ => rfl))))))))
      (dssL_frz 3 (dssL_ret (dn_lc (own := [("row", 7)]) rfl sc__law_row.nd (di_seq (de_var 3)) (blkOk_by (own := [("row", 7)]) (N := ["cell", "bound", "d", "rows", "place", "k", "begin", "row"]) (sc := defScope s__law_row) (by decide +kernel)) (fun _ _ _ _ _ => pg_name (i := 7) sc__law_row.nd rfl (Or.inl rfl)) (tc_name 7) (fun _ _ _ _ _ => dts_one (dt_cmp op_le pure_le (de_ix (de_var 7) de_int (fun _ _ => rfl)) (de_var 1) (nomark _))) (fun _ _ _ _ _ => (de_var 7)))))))))
theorem ok_least_period (T : Txt K mg) : FnF P w K mg base 2 T.f_least_period T.d_least_period ["period", "cycle"] 2 (G_least_period T.c) :=
  fun_okF T.F_least_period sc_least_period rfl rfl <| fun cdv A outer s H E hr =>
      (dss_cons (ds_if (dw_pt (dw_or (dt_not (dt_tr (de_var 1))) (dw_or1 (dt_tr (de_call (ok_is_full T) (hr.mono (by decide)) (by rfl) T.g_is_full T.F_is_full.kp T.b_is_full (takes_of rfl rfl rfl rfl) (da_cons (de_tup (da_cons de_int (da_cons (de_var 0) (da_cons (de_var 1) da_nil)))) da_nil)))))) (dss_one (ds_ret de_int)) dss_nil)
      (dss_cons (ds_set 2 sc_least_period.nd rfl (Or.inl rfl) (de_call (ok_runs T) (hr.mono (by decide)) (by rfl) T.g_runs T.F_runs.kp T.b_runs (takes_of rfl rfl rfl rfl) (da_cons (de_var 0) (da_cons (de_var 1) da_nil))))
      (dss_cons (ds_setLcN (own := [("start", 5), ("_", 6)]) 3 rfl sc_least_period.nd rfl rfl (sw_true rfl rfl rfl (by decide +kernel)) (di_seq (de_var 2)) (blkOk_by (own := [("start", 5), ("_", 6)]) (N := ["period", "cycle", "spans", "starts", "steps", "start", "_", "span", "after"]) (sc := defScope s_least_period) (by decide +kernel)) (fun _ _ _ _ _ => pg_tup rfl (pgs_cons (pg_name (i := 5) sc_least_period.nd rfl (Or.inl rfl)) (pgs_cons (pg_name (i := 6) sc_least_period.nd rfl (Or.inl rfl)) pgs_nil))) (tc_tup [5, 6]) (fun _ _ _ _ _ => dts_nil) (fun _ _ _ _ _ => (de_var 5)))
      (dss_cons (ds_app 3 (pe_bm PySem.F.plainAttrs_list PySem.F.slot_list_append PySem.F.type_list_append mt_append (pv 3) (pa_cons (de_add (de_peek 3 (de_ix (de_var 3) de_int (fun _ _ => rfl))) (de_var 0)) pa_nil)))
      (dss_cons (ds_frz 3 (ds_setLc (own := [("span", 7), ("after", 8)]) 4 rfl sc_least_period.nd rfl rfl (sw_true rfl rfl rfl (by decide +kernel)) (di_zipM (by rfl) T.n_zip (da_cons (de_var 2) (da_cons (DN.de (dn_slL (de_var 3) (do_some de_int) do_none)) da_nil))) (blkOk_by (own := [("span", 7), ("after", 8)]) (N := ["period", "cycle", "spans", "starts", "steps", "start", "_", "span", "after"]) (sc := defScope s_least_period) (by decide +kernel)) (fun _ _ _ _ _ => pg_tup rfl (pgs_cons (pg_name (i := 7) sc_least_period.nd rfl (Or.inl rfl)) (pgs_cons (pg_name (i := 8) sc_least_period.nd rfl (Or.inl rfl)) pgs_nil))) (tc_tup [7, 8]) (fun _ _ _ _ _ => dts_nil) (fun _ _ _ _ _ => (de_tup (da_cons (de_sub (de_ix (de_var 7) de_int (fun _ _ => rfl)) (de_ix (de_var 7) de_int (fun _ _ => rfl))) (da_cons (de_sub (de_var 8) (de_ix (de_var 7) de_int (fun _ _ => rfl))) da_nil))))))
      (dss_one (ds_ret (de_sub (de_peek 3 (de_ix (de_var 3) (de_call (ok_shortest_turn T) (hr.mono (by decide)) (by rfl) T.g_shortest_turn T.F_shortest_turn.kp T.b_shortest_turn (takes_of rfl rfl rfl rfl) (da_cons (de_var 4) da_nil)) (fun _ _ => rfl))) (de_peek 3 (de_ix (de_var 3) de_int (fun _ _ => rfl)))))))))))
theorem ok_cut (T : Txt K mg) : FnF P w K mg base 2 T.f_cut T.d_cut ["spans", "start", "stop"] 3 (G_cut T.c) :=
  fun_okF T.F_cut sc_cut rfl rfl <| fun cdv A outer s H E hr =>
      (dss_cons (ds_if (dt_cmp op_ge pure_ge (de_var 1) (de_var 2) (nomark _)) (dss_one (ds_ret (de_tup da_nil))) dss_nil)
      (dss_cons (ds_setN 3 sc_cut.nd rfl (Or.inl rfl) (dn_callTy call_list_of pure_list (by rfl) T.n_list (by decide +kernel) (da_cons (de_slA (de_var 0) (do_some (de_call (ok_first_behind T) (hr.mono (by decide)) (by rfl) T.g_first_behind T.F_first_behind.kp T.b_first_behind (takes_of rfl rfl rfl rfl) (da_cons (de_var 0) (da_cons (de_var 1) da_nil)))) (do_some (de_add (de_call (ok_first_behind T) (hr.mono (by decide)) (by rfl) T.g_first_behind T.F_first_behind.kp T.b_first_behind (takes_of rfl rfl rfl rfl) (da_cons (de_var 0) (da_cons (de_var 2) da_nil))) de_int))) da_nil)))
      (dss_cons (ds_if (dw_pt (dw_and (dt_own 3 (dt_tr (de_var 3))) (dw_and1 (dt_cmp op_ge pure_ge (de_ix (de_ixO 3 (pv 3) (de_var 3) (de_neg de_int) (fun _ _ => rfl)) de_int (fun _ _ => rfl)) (de_var 2) (nomark _))))) (dss_one (ds_pop 3 (pe_bm0 PySem.F.plainAttrs_list PySem.F.slot_list_pop PySem.F.type_list_pop mt_pop (pv 3)))) dss_nil)
      (dss_cons (ds_if (dt_own 3 (dt_tr (de_var 3))) (dss_cons (ds_setIx 3 (pg_sub (pv 3) de_int set_list) (de_tup (da_cons (de_callB ((cr_max rfl).or (call_max2 rfl)) pure_max (by rfl) T.n_max (by decide +kernel) (da_cons (de_ix (de_ixO 3 (pv 3) (de_var 3) de_int (fun _ _ => rfl)) de_int (fun _ _ => rfl)) (da_cons (de_var 1) da_nil))) (da_cons (de_ix (de_ixO 3 (pv 3) (de_var 3) de_int (fun _ _ => rfl)) de_int (fun _ _ => rfl)) da_nil))))
      (dss_one (ds_setIx 3 (pg_sub (pv 3) (de_neg de_int) set_list) (de_tup (da_cons (de_ix (de_ixO 3 (pv 3) (de_var 3) (de_neg de_int) (fun _ _ => rfl)) de_int (fun _ _ => rfl)) (da_cons (de_callB ((cr_min rfl).or (call_min2 rfl)) pure_min (by rfl) T.n_min (by decide +kernel) (da_cons (de_ix (de_ixO 3 (pv 3) (de_var 3) (de_neg de_int) (fun _ _ => rfl)) de_int (fun _ _ => rfl)) (da_cons (de_var 2) da_nil))) da_nil)))))) dss_nil)
      (dss_one (ds_frz 3 (ds_ret (de_callTy call_tuple_of pure_tuple (by rfl) T.n_tuple (by decide +kernel) (da_cons (de_var 3) da_nil)))))))))
theorem ok__law_description (T : Txt K mg) : FnF P w K mg base 3 T.f__law_description T.d__law_description ["cell"] 1 (G__law_description T.c) :=
  fun_okF T.F__law_description sc__law_description rfl rfl <| fun cdv A outer s H E hr =>
      (dss_cons (ds_set 1 sc__law_description.nd rfl (Or.inl rfl) (de_call (ok__law_digits T) (hr.mono (by decide)) (by rfl) T.g__law_digits T.F__law_digits.kp T.b__law_digits (takes_of rfl rfl rfl rfl) (da_cons (de_call (ok__law_rich T) (hr.mono (by decide)) (by rfl) T.g__law_rich T.F__law_rich.kp T.b__law_rich (takes_of rfl rfl rfl rfl) (da_cons (de_div (de_var 0) de_int) da_nil)) (da_cons (DN.de (dn_lst (da_cons de_int (da_cons de_int (da_cons de_int da_nil))))) da_nil))))
      (dss_cons (ds_set 2 sc__law_description.nd rfl (Or.inl rfl) (de_ix (de_var 1) de_int (fun _ _ => rfl)))
      (dss_cons (ds_set 3 sc__law_description.nd rfl (Or.inr rfl) (de_add de_int (de_ix (de_var 1) de_int (fun _ _ => rfl))))
      (dss_cons (ds_setN 4 sc__law_description.nd rfl (Or.inl rfl) (dn_callL (ok__law_row T) (hr.mono (by decide)) (by rfl) T.g__law_row T.F__law_row.kp T.b__law_row (takes_of rfl rfl rfl rfl) (da_cons (de_add (de_var 0) de_int) (da_cons (de_var 2) da_nil))))
      (dss_cons (ds_setN 5 sc__law_description.nd rfl (Or.inl rfl) (dn_callL (ok__law_row T) (hr.mono (by decide)) (by rfl) T.g__law_row T.F__law_row.kp T.b__law_row (takes_of rfl rfl rfl rfl) (da_cons (de_add (de_div (de_var 0) de_int) de_int) (da_cons (de_var 3) da_nil))))
      (dss_cons (ds_if (dw_pt (dw_and (dt_cmp (op_eqD hr.units) pure_eqD (de_ix (de_var 1) de_int (fun _ _ => rfl)) de_int (nomark _)) (dw_and1 (dt_cmp op_lt pure_lt (de_var 3) de_int (nomark _))))) (dss_cons (ds_frz 5 (ds_setN 5 sc__law_description.nd rfl (Or.inl rfl) (dn_cat (de_var 5) (DN.de (dn_lc (own := [("low", 6), ("high", 7)]) rfl sc__law_description.nd (di_seq (de_var 5)) (blkOk_by (own := [("low", 6), ("high", 7)]) (N := ["cell", "d", "since", "period", "head", "turn", "low", "high"]) (sc := defScope s__law_description) (by decide +kernel)) (fun _ _ _ _ _ => pg_tup rfl (pgs_cons (pg_name (i := 6) sc__law_description.nd rfl (Or.inl rfl)) (pgs_cons (pg_name (i := 7) sc__law_description.nd rfl (Or.inl rfl)) pgs_nil))) (tc_tup [6, 7]) (fun _ _ _ _ _ => dts_nil) (fun _ _ _ _ _ => (de_tup (da_cons (de_add (de_var 6) (de_var 3)) (da_cons (de_add (de_var 7) (de_var 3)) da_nil)))))))))
      (dss_one (ds_set 3 sc__law_description.nd rfl (Or.inr rfl) (de_mulB de_int (de_var 3))))) dss_nil)
      (dss_cons (ds_if (dt_cmp (op_eqD hr.units) pure_eqD (de_ix (de_var 1) de_int (fun _ _ => rfl)) de_int (nomark _)) (dss_cons (ds_rev 4 (pe_bm0 PySem.F.plainAttrs_list PySem.F.slot_list_reverse PySem.F.type_list_reverse mt_reverse (pv 4)))
      (dss_one (ds_rev 5 (pe_bm0 PySem.F.plainAttrs_list PySem.F.slot_list_reverse PySem.F.type_list_reverse mt_reverse (pv 5))))) dss_nil)
      (dss_one (ds_frz 5 (ds_frz 4 (ds_ret (de_tup (da_cons (de_callTy call_tuple_of pure_tuple (by rfl) T.n_tuple (by decide +kernel) (da_cons (de_var 4) da_nil)) (da_cons (de_var 2) (da_cons (de_var 3) (da_cons (de_callTy call_tuple_of pure_tuple (by rfl) T.n_tuple (by decide +kernel) (da_cons (de_var 5) da_nil)) da_nil))))))))))))))))
theorem ok_turned (T : Txt K mg) : FnF P w K mg base 3 T.f_turned T.d_turned ["wheel", "start", "stop"] 3 (G_turned T.c) :=
  fun_okF T.F_turned sc_turned rfl rfl <| fun cdv A outer s H E hr =>
      (dss_cons (ds_setT (is := [3, 4, 5]) (pg_tup rfl (pgs_cons (pg_name (i := 3) sc_turned.nd rfl (Or.inl rfl)) (pgs_cons (pg_name (i := 4) sc_turned.nd rfl (Or.inl rfl)) (pgs_cons (pg_name (i := 5) sc_turned.nd rfl (Or.inr rfl)) pgs_nil)))) (de_var 0))
      (dss_cons (ds_if (dw_pt (dw_or (dt_cmp op_ge pure_ge (de_var 1) (de_var 2) (nomark _)) (dw_or1 (dt_not (dt_tr (de_var 5)))))) (dss_one (ds_ret (de_tup da_nil))) dss_nil)
      (dss_cons (ds_if (dt_tr (de_call (ok_is_full T) (hr.mono (by decide)) (by rfl) T.g_is_full T.F_is_full.kp T.b_is_full (takes_of rfl rfl rfl rfl) (da_cons (de_var 0) da_nil))) (dss_one (ds_ret (de_tup (da_cons (de_tup (da_cons (de_var 1) (da_cons (de_var 2) da_nil))) da_nil)))) dss_nil)
      (dss_cons (ds_set 6 sc_turned.nd rfl (Or.inl rfl) (de_sub (de_var 1) (de_mod (de_sub (de_var 1) (de_var 3)) (de_var 4))))
      (dss_cons (ds_set 7 sc_turned.nd rfl (Or.inl rfl) (de_sub (de_var 2) (de_mod (de_sub (de_var 2) (de_var 3)) (de_var 4))))
      (dss_cons (ds_if (dt_cmp (op_eqD hr.units) pure_eqD (de_var 6) (de_var 7) (nomark _)) (dss_one (ds_ret (de_call (ok_moved_by T) (hr.mono (by decide)) (by rfl) T.g_moved_by T.F_moved_by.kp T.b_moved_by (takes_of rfl rfl rfl rfl) (da_cons (de_call (ok_cut T) (hr.mono (by decide)) (by rfl) T.g_cut T.F_cut.kp T.b_cut (takes_of rfl rfl rfl rfl) (da_cons (de_var 5) (da_cons (de_sub (de_var 1) (de_var 6)) (da_cons (de_sub (de_var 2) (de_var 6)) da_nil)))) (da_cons (de_var 6) da_nil))))) dss_nil)
      (dss_cons (ds_setN 8 sc_turned.nd rfl (Or.inl rfl) (dn_callTy call_list_of pure_list (by rfl) T.n_list (by decide +kernel) (da_cons (de_call (ok_moved_by T) (hr.mono (by decide)) (by rfl) T.g_moved_by T.F_moved_by.kp T.b_moved_by (takes_of rfl rfl rfl rfl) (da_cons (de_call (ok_cut T) (hr.mono (by decide)) (by rfl) T.g_cut T.F_cut.kp T.b_cut (takes_of rfl rfl rfl rfl) (da_cons (de_var 5) (da_cons (de_sub (de_var 1) (de_var 6)) (da_cons (de_var 4) da_nil)))) (da_cons (de_var 6) da_nil))) da_nil)))
      (dss_cons (ds_ext 8 (pe_bm PySem.F.plainAttrs_list PySem.F.slot_list_extend PySem.F.type_list_extend mt_extA (pv 8) (pa_cons (DN.de (dn_lc2 (own := [("at", 9), ("low", 10), ("high", 11)]) (vs1 := [10, 11]) rfl sc_turned.nd (di_range3W (by rfl) T.n_range (da_cons (de_add (de_var 6) (de_var 4)) (da_cons (de_var 7) (da_cons (de_var 4) da_nil)))) (blkOk_by (own := [("at", 9), ("low", 10), ("high", 11)]) (N := ["wheel", "start", "stop", "origin", "period", "cycle", "base", "last", "rows", "at", "low", "high"]) (sc := defScope s_turned) (by decide +kernel)) (by decide) (fun _ _ _ _ _ => pg_name (i := 9) sc_turned.nd rfl (Or.inl rfl)) (tc_name 9) (plain_name _) (fun _ _ _ _ _ => dts_nil) (fun _ _ _ _ _ => (di_seq (de_var 5))) (fun _ _ _ _ _ => pg_tup rfl (pgs_cons (pg_name (i := 10) sc_turned.nd rfl (Or.inl rfl)) (pgs_cons (pg_name (i := 11) sc_turned.nd rfl (Or.inl rfl)) pgs_nil))) (tc_tup [10, 11]) (fun _ _ _ _ _ => dts_nil) (fun _ _ _ _ _ => (de_tup (da_cons (de_add (de_var 10) (de_var 9)) (da_cons (de_add (de_var 11) (de_var 9)) da_nil)))))) pa_nil)))
      (dss_cons (ds_ext 8 (pe_bm PySem.F.plainAttrs_list PySem.F.slot_list_extend PySem.F.type_list_extend mt_extA (pv 8) (pa_cons (de_call (ok_moved_by T) (hr.mono (by decide)) (by rfl) T.g_moved_by T.F_moved_by.kp T.b_moved_by (takes_of rfl rfl rfl rfl) (da_cons (de_call (ok_cut T) (hr.mono (by decide)) (by rfl) T.g_cut T.F_cut.kp T.b_cut (takes_of rfl rfl rfl rfl) (da_cons (de_var 5) (da_cons de_int (da_cons (de_sub (de_var 2) (de_var 7)) da_nil)))) (da_cons (de_var 7) da_nil))) pa_nil)))
      (dss_cons (ds_if (dw_pt (dw_and (dt_cmp (op_eqD hr.units) pure_eqD (de_ix (de_ix (de_var 5) de_int (fun _ _ => rfl)) de_int (fun _ _ => rfl)) de_int (nomark _)) (dw_and1 (dt_cmp (op_eqD hr.units) pure_eqD (de_ix (de_ix (de_var 5) (de_neg de_int) (fun _ _ => rfl)) de_int (fun _ _ => rfl)) (de_var 4) (nomark _))))) (dss_one (ds_frz 8 (ds_ret (de_call (ok_merged T) (hr.mono (by decide)) (by rfl) T.g_merged T.F_merged.kp T.b_merged (takes_of rfl rfl rfl rfl) (da_cons (de_var 8) da_nil))))) dss_nil)
      (dss_one (ds_frz 8 (ds_ret (de_callTy call_tuple_of pure_tuple (by rfl) T.n_tuple (by decide +kernel) (da_cons (de_var 8) da_nil)))))))))))))))
theorem ok_last_difference (T : Txt K mg) : FnF P w K mg base 4 T.f_last_difference T.d_last_difference ["first", "second", "start", "stop"] 4 (G_last_difference T.c) :=
  fun_okF T.F_last_difference sc_last_difference rfl rfl <| fun cdv A outer s H E hr =>
      (dss_cons (ds_set 2 sc_last_difference.nd rfl (Or.inl rfl) (de_callB ((cr_max rfl).or (call_max2 rfl)) pure_max (by rfl) T.n_max (by decide +kernel) (da_cons (de_var 2) (da_cons (de_sub (de_sub (de_var 3) (de_ix (de_var 0) de_int (fun _ _ => rfl))) (de_ix (de_var 1) de_int (fun _ _ => rfl))) da_nil))))
      (dss_cons (ds_set 4 sc_last_difference.nd rfl (Or.inl rfl) de_int)
      (dss_cons (ds_while (fun _ => 200000) (passes_of rfl) (dt_cmp op_lt pure_lt (de_var 2) (de_var 3) (nomark _)) (dss_cons (ds_set 5 sc_last_difference.nd rfl (Or.inl rfl) (de_callB ((cr_max rfl).or (call_max2 rfl)) pure_max (by rfl) T.n_max (by decide +kernel) (da_cons (de_var 2) (da_cons (de_sub (de_var 3) (de_var 4)) da_nil))))
      (dss_cons (ds_set 6 sc_last_difference.nd rfl (Or.inl rfl) (de_call (ok_turned T) (hr.mono (by decide)) (by rfl) T.g_turned T.F_turned.kp T.b_turned (takes_of rfl rfl rfl rfl) (da_cons (de_var 0) (da_cons (de_var 5) (da_cons (de_var 3) da_nil)))))
      (dss_cons (ds_set 7 sc_last_difference.nd rfl (Or.inl rfl) (de_call (ok_turned T) (hr.mono (by decide)) (by rfl) T.g_turned T.F_turned.kp T.b_turned (takes_of rfl rfl rfl rfl) (da_cons (de_var 1) (da_cons (de_var 5) (da_cons (de_var 3) da_nil)))))
      (dss_cons (ds_if (dt_cmp (op_neD hr.units) pure_neD (de_var 6) (de_var 7) (nomark _)) (dss_one (ds_ret (de_call (ok_last_unlike T) (hr.mono (by decide)) (by rfl) T.g_last_unlike T.F_last_unlike.kp T.b_last_unlike (takes_of rfl rfl rfl rfl) (da_cons (de_var 6) (da_cons (de_var 7) da_nil))))) dss_nil)
      (dss_cons (ds_set 3 sc_last_difference.nd rfl (Or.inl rfl) (de_var 5))
      (dss_one (ds_set 4 sc_last_difference.nd rfl (Or.inl rfl) (de_mulB (de_var 4) de_int)))))))))
      (dss_one (ds_ret de_non)))))
theorem ok_cycle_from (T : Txt K mg) : FnF P w K mg base 4 T.f_cycle_from T.d_cycle_from ["wheel", "start"] 2 (G_cycle_from T.c) :=
  fun_okF T.F_cycle_from sc_cycle_from rfl rfl <| fun cdv A outer s H E hr =>
      (dss_cons (ds_if (dt_cmp (op_eqD hr.units) pure_eqD (de_var 1) (de_ix (de_var 0) de_int (fun _ _ => rfl)) (nomark _)) (dss_one (ds_ret (de_ix (de_var 0) de_int (fun _ _ => rfl)))) dss_nil)
      (dss_one (ds_ret (de_call (ok_moved_by T) (hr.mono (by decide)) (by rfl) T.g_moved_by T.F_moved_by.kp T.b_moved_by (takes_of rfl rfl rfl rfl) (da_cons (de_call (ok_turned T) (hr.mono (by decide)) (by rfl) T.g_turned T.F_turned.kp T.b_turned (takes_of rfl rfl rfl rfl) (da_cons (de_var 0) (da_cons (de_var 1) (da_cons (de_add (de_var 1) (de_ix (de_var 0) de_int (fun _ _ => rfl))) da_nil)))) (da_cons (de_neg (de_var 1)) da_nil))))))
theorem ok_normal (T : Txt K mg) : FnF P w K mg base 5 T.f_normal T.d_normal ["head", "since", "period", "cycle"] 4 (G_normal T.c) :=
  fun_okF T.F_normal sc_normal rfl rfl <| fun cdv A outer s H E hr =>
      (dss_cons (ds_set 4 sc_normal.nd rfl (Or.inl rfl) (de_call (ok_least_period T) (hr.mono (by decide)) (by rfl) T.g_least_period T.F_least_period.kp T.b_least_period (takes_of rfl rfl rfl rfl) (da_cons (de_var 2) (da_cons (de_var 3) da_nil))))
      (dss_cons (ds_set 5 sc_normal.nd rfl (Or.inl rfl) (de_tup (da_cons (de_var 1) (da_cons (de_var 4) (da_cons (de_call (ok_cut T) (hr.mono (by decide)) (by rfl) T.g_cut T.F_cut.kp T.b_cut (takes_of rfl rfl rfl rfl) (da_cons (de_var 3) (da_cons de_int (da_cons (de_var 4) da_nil)))) da_nil)))))
      (dss_cons (ds_set 6 sc_normal.nd rfl (Or.inl rfl) (de_call (ok_last_difference T) (hr.mono (by decide)) (by rfl) T.g_last_difference T.F_last_difference.kp T.b_last_difference (takes_of rfl rfl rfl rfl) (da_cons (de_tup (da_cons de_int (da_cons (de_var 1) (da_cons (de_var 0) da_nil)))) (da_cons (de_var 5) (da_cons de_int (da_cons (de_var 1) da_nil))))))
      (dss_cons (ds_set 7 sc_normal.nd rfl (Or.inl rfl) (de_if (dt_cmp op_isN pure_isN (de_var 6) de_non (nomark _)) de_int (de_add (de_var 6) de_int)))
      (dss_one (ds_ret (de_tup (da_cons (de_call (ok_cut T) (hr.mono (by decide)) (by rfl) T.g_cut T.F_cut.kp T.b_cut (takes_of rfl rfl rfl rfl) (da_cons (de_var 0) (da_cons de_int (da_cons (de_var 7) da_nil)))) (da_cons (de_var 7) (da_cons (de_var 4) (da_cons (de_call (ok_cycle_from T) (hr.mono (by decide)) (by rfl) T.g_cycle_from T.F_cycle_from.kp T.b_cycle_from (takes_of rfl rfl rfl rfl) (da_cons (de_var 5) (da_cons (de_var 7) da_nil))) da_nil)))))))))))
theorem ok_Spans___init__ (T : Txt K mg) : FnI P w K mg base 6 T.f_Spans___init__ T.d_Spans___init__ ["self", "head", "since", "period", "cycle"] T.c.Spans 4 (G_Spans___init__ T.c) :=
  let c := T.c; fun_okI T.F_Spans___init__ sc_Spans___init__ rfl rfl fInit_ok <| fun cdv A outer s H E hr =>
      (dss_cons (ds_if (dt_cmp op_lt pure_lt (de_var 2) de_int (nomark _)) (dss_one (ds_raise rfl (takes_of rfl rfl rfl rfl) PySem.F.excBase_ValueError T.x_InvalidSpans T.gx_InvalidSpans T.kx_InvalidSpans (raises_own T.bx_InvalidSpans T.tx_InvalidSpans) (by rfl) de_str)) dss_nil)
      (dss_cons (ds_if (dt_cmp op_lt pure_lt (de_var 3) de_int (nomark _)) (dss_one (ds_raise rfl (takes_of rfl rfl rfl rfl) PySem.F.excBase_ValueError T.x_InvalidSpans T.gx_InvalidSpans T.kx_InvalidSpans (raises_own T.bx_InvalidSpans T.tx_InvalidSpans) (by rfl) de_str)) dss_nil)
      (dss_cons (ds_expr (de_call (ok_check_spans T) (hr.mono (by decide)) (by rfl) T.g_check_spans T.F_check_spans.kp T.b_check_spans (takes_of rfl rfl rfl rfl) (da_cons (de_var 1) (da_cons (de_var 2) da_nil))))
      (dss_cons (ds_expr (de_call (ok_check_spans T) (hr.mono (by decide)) (by rfl) T.g_check_spans T.F_check_spans.kp T.b_check_spans (takes_of rfl rfl rfl rfl) (da_cons (de_var 4) (da_cons (de_var 3) da_nil))))
      (dss_cons (ds_setT (is := [1, 2, 3, 4]) (pg_tup rfl (pgs_cons (pg_name (i := 1) sc_Spans___init__.nd rfl (Or.inl rfl)) (pgs_cons (pg_name (i := 2) sc_Spans___init__.nd rfl (Or.inl rfl)) (pgs_cons (pg_name (i := 3) sc_Spans___init__.nd rfl (Or.inl rfl)) (pgs_cons (pg_name (i := 4) sc_Spans___init__.nd rfl (Or.inl rfl)) pgs_nil))))) (de_call (ok_normal T) (hr.mono (by decide)) (by rfl) T.g_normal T.F_normal.kp T.b_normal (takes_of rfl rfl rfl rfl) (da_cons (de_call (ok_merged T) (hr.mono (by decide)) (by rfl) T.g_merged T.F_merged.kp T.b_merged (takes_of rfl rfl rfl rfl) (da_cons (de_var 1) da_nil)) (da_cons (de_var 2) (da_cons (de_var 3) (da_cons (de_call (ok_merged T) (hr.mono (by decide)) (by rfl) T.g_merged T.F_merged.kp T.b_merged (takes_of rfl rfl rfl rfl) (da_cons (de_var 4) da_nil)) da_nil))))))
      (dss_cons (ds_fld 0 T.cls_Spans T.na_Spans_head (pv 0) (de_var 1))
      (dss_cons (ds_fld 0 T.cls_Spans T.na_Spans_since (pv 0) (de_var 2))
      (dss_cons (ds_fld 0 T.cls_Spans T.na_Spans_period (pv 0) (de_var 3))
      (dss_one (ds_fld 0 T.cls_Spans T.na_Spans_cycle (pv 0) (de_var 4)))))))))))
theorem ok_law (T : Txt K mg) : FnF P w K mg base 8 T.f_law T.d_law ["script"] 1 (G_law T.c) :=
  fun_okF T.F_law sc_law rfl rfl <| fun cdv A outer s H E hr =>
      (dss_cons (ds_set 1 sc_law.nd rfl (Or.inl rfl) (de_call (ok__law_description T) (hr.mono (by decide)) (by rfl) T.g__law_description T.F__law_description.kp T.b__law_description (takes_of rfl rfl rfl rfl) (da_cons (de_call (ok__law_cell T) (hr.mono (by decide)) (by rfl) T.g__law_cell T.F__law_cell.kp T.b__law_cell (takes_of rfl rfl rfl rfl) (da_cons (de_var 0) (da_cons de_int da_nil))) da_nil)))
      (dss_cons (ds_set 2 sc_law.nd rfl (Or.inl rfl) (de_make (n := 4) (ks := []) T.mk_Spans (ok_Spans___init__ T) (hr.mono (by decide)) (by rfl) T.gc_Spans T.kb_Spans_4_ kr_Spans_4_ (takes_of rfl rfl rfl rfl) (da_cons (de_ix (de_var 1) de_int (fun _ _ => rfl)) (da_cons (de_ix (de_var 1) de_int (fun _ _ => rfl)) (da_cons (de_ix (de_var 1) de_int (fun _ _ => rfl)) (da_cons (de_ix (de_var 1) de_int (fun _ _ => rfl)) da_nil)))) dk_nil))
      (dss_cons (ds_set 3 sc_law.nd rfl (Or.inr rfl) (de_tup (da_cons (de_fld T.cls_Spans T.na_Spans_head (de_var 2)) (da_cons (de_fld T.cls_Spans T.na_Spans_since (de_var 2)) (da_cons (de_fld T.cls_Spans T.na_Spans_period (de_var 2)) (da_cons (de_fld T.cls_Spans T.na_Spans_cycle (de_var 2)) da_nil))))))
      (dss_cons (ds_if (dw_pt (dw_or (dt_not (dt_tr (de_isi (T := "int") (by rfl) T.n_isinstance (by decide +kernel) (by rfl) T.n_int (by decide +kernel) (de_ix (de_var 3) de_int (fun _ _ => rfl))))) (dw_or (dt_not (dt_tr (de_isi (T := "int") (by rfl) T.n_isinstance (by decide +kernel) (by rfl) T.n_int (by decide +kernel) (de_ix (de_var 3) de_int (fun _ _ => rfl))))) (dw_or (dt_cmp op_lt pure_lt (de_ix (de_var 3) de_int (fun _ _ => rfl)) de_int (nomark _)) (dw_or1 (dt_cmp op_lt pure_lt (de_ix (de_var 3) de_int (fun _ _ => rfl)) de_int (nomark _))))))) (dss_one (ds_ret de_bl)) dss_nil)
      (dss_cons (ds_if (dw_pt (dw_or (dt_not (dt_tr (de_call (ok__law_tidy T) (hr.mono (by decide)) (by rfl) T.g__law_tidy T.F__law_tidy.kp T.b__law_tidy (takes_of rfl rfl rfl rfl) (da_cons (de_ix (de_var 3) de_int (fun _ _ => rfl)) (da_cons de_int (da_cons (de_ix (de_var 3) de_int (fun _ _ => rfl)) da_nil)))))) (dw_or (dt_not (dt_tr (de_call (ok__law_tidy T) (hr.mono (by decide)) (by rfl) T.g__law_tidy T.F__law_tidy.kp T.b__law_tidy (takes_of rfl rfl rfl rfl) (da_cons (de_ix (de_var 3) de_int (fun _ _ => rfl)) (da_cons de_int (da_cons (de_ix (de_var 3) de_int (fun _ _ => rfl)) da_nil)))))) (dw_or1 (dt_cmp op_gt pure_gt (de_ix (de_var 3) de_int (fun _ _ => rfl)) (de_ix (de_var 1) de_int (fun _ _ => rfl)) (nomark _)))))) (dss_one (ds_ret de_bl)) dss_nil)
      (dss_cons (ds_set 4 sc_law.nd rfl (Or.inl rfl) (de_mod (de_callTy call_int1 pure_int (by rfl) T.n_int (by decide +kernel) (da_cons (de_callB call_abs pure_abs (by rfl) T.n_abs (by decide +kernel) (da_cons (de_call (ok__law_cell T) (hr.mono (by decide)) (by rfl) T.g__law_cell T.F__law_cell.kp T.b__law_cell (takes_of rfl rfl rfl rfl) (da_cons (de_var 0) (da_cons de_int da_nil))) da_nil)) da_nil)) (de_pow de_int de_int)))
      (dss_cons (ds_for (passes_of rfl) rfl (di_seq (DN.de (dn_cat (DN.de (dn_lst (da_cons (de_var 4) da_nil))) (DN.de (dn_lc (own := [("t", 10)]) rfl sc_law.nd (di_range1 (by rfl) T.n_range (da_cons (de_add (de_add (de_ix (de_var 1) de_int (fun _ _ => rfl)) (de_mulB de_int (de_ix (de_var 1) de_int (fun _ _ => rfl)))) de_int) da_nil) (by rfl) (cons_len nil_len)) (blkOk_by (own := [("t", 10)]) (N := ["script", "row", "made", "form", "probe", "instant", "part", "step", "same", "again", "t"]) (sc := defScope s_law) (by decide +kernel)) (fun _ _ _ _ _ => pg_name (i := 10) sc_law.nd rfl (Or.inl rfl)) (tc_name 10) (fun _ _ _ _ _ => dts_nil) (fun _ _ _ _ _ => (de_var 10))))))) (pg_name (i := 5) sc_law.nd rfl (Or.inl rfl)) (tg_name 5) (dss_one (ds_if (dt_cmp (op_neD hr.units) pure_neD (de_call (ok__law_in T) (hr.mono (by decide)) (by rfl) T.g__law_in T.F__law_in.kp T.b__law_in (takes_of rfl rfl rfl rfl) (da_cons (de_var 3) (da_cons (de_var 5) da_nil))) (de_call (ok__law_in T) (hr.mono (by decide)) (by rfl) T.g__law_in T.F__law_in.kp T.b__law_in (takes_of rfl rfl rfl rfl) (da_cons (de_var 1) (da_cons (de_var 5) da_nil))) (nomark _)) (dss_one (ds_ret de_bl)) dss_nil)))
      (dss_cons (ds_if (dw_pt (dw_and (dt_cmp op_gt pure_gt (de_ix (de_var 3) de_int (fun _ _ => rfl)) de_int (nomark _)) (dw_and1 (dt_cmp (op_eqD hr.units) pure_eqD (de_call (ok__law_in T) (hr.mono (by decide)) (by rfl) T.g__law_in T.F__law_in.kp T.b__law_in (takes_of rfl rfl rfl rfl) (da_cons (de_var 3) (da_cons (de_sub (de_ix (de_var 3) de_int (fun _ _ => rfl)) de_int) da_nil))) (de_call (ok__law_in T) (hr.mono (by decide)) (by rfl) T.g__law_in T.F__law_in.kp T.b__law_in (takes_of rfl rfl rfl rfl) (da_cons (de_var 3) (da_cons (de_add (de_sub (de_ix (de_var 3) de_int (fun _ _ => rfl)) de_int) (de_ix (de_var 3) de_int (fun _ _ => rfl))) da_nil))) (nomark _))))) (dss_one (ds_ret de_bl)) dss_nil)
      (dss_cons (ds_for (passes_of rfl) rfl (di_range2W (by rfl) T.n_range (da_cons de_int (da_cons (de_add (de_ix (de_var 3) de_int (fun _ _ => rfl)) de_int) da_nil))) (pg_name (i := 6) sc_law.nd rfl (Or.inl rfl)) (tg_name 6) (dss_one (ds_if (dt_cmp (op_eqD hr.units) pure_eqD (de_mod (de_callTy call_int1 pure_int (by rfl) T.n_int (by decide +kernel) (da_cons (de_ix (de_var 3) de_int (fun _ _ => rfl)) da_nil)) (de_var 6)) de_int (nomark _)) (dss_cons (ds_set 7 sc_law.nd rfl (Or.inr rfl) (de_div (de_ix (de_var 3) de_int (fun _ _ => rfl)) (de_var 6)))
      (dss_cons (ds_setLc (own := [("t", 10)]) 8 rfl sc_law.nd rfl rfl (sw_true rfl rfl rfl (by decide +kernel)) (di_range1 (by rfl) T.n_range (da_cons (de_ix (de_var 3) de_int (fun _ _ => rfl)) da_nil) (by rfl) (cons_len nil_len)) (blkOk_by (own := [("t", 10)]) (N := ["script", "row", "made", "form", "probe", "instant", "part", "step", "same", "again", "t"]) (sc := defScope s_law) (by decide +kernel)) (fun _ _ _ _ _ => pg_name (i := 10) sc_law.nd rfl (Or.inl rfl)) (tc_name 10) (fun _ _ _ _ _ => dts_one (dt_cmp (op_neD hr.units) pure_neD (de_call (ok__law_hit T) (hr.mono (by decide)) (by rfl) T.g__law_hit T.F__law_hit.kp T.b__law_hit takes0 (da_cons (de_ix (de_var 3) de_int (fun _ _ => rfl)) (da_cons (de_var 10) da_nil))) (de_call (ok__law_hit T) (hr.mono (by decide)) (by rfl) T.g__law_hit T.F__law_hit.kp T.b__law_hit takes0 (da_cons (de_ix (de_var 3) de_int (fun _ _ => rfl)) (da_cons (de_mod (de_callTy call_int1 pure_int (by rfl) T.n_int (by decide +kernel) (da_cons (de_add (de_var 10) (de_var 7)) da_nil)) (de_ix (de_var 3) de_int (fun _ _ => rfl))) da_nil))) (nomark _))) (fun _ _ _ _ _ => (de_var 10)))
      (dss_one (ds_if (dt_cmp (op_eqD hr.units) pure_eqD (de_var 8) (DN.de (dn_lst da_nil)) (nomark _)) (dss_one (ds_ret de_bl)) dss_nil)))) dss_nil)))
      (dss_cons (ds_set 9 sc_law.nd rfl (Or.inl rfl) (de_make (n := 4) (ks := []) T.mk_Spans (ok_Spans___init__ T) (hr.mono (by decide)) (by rfl) T.gc_Spans T.kb_Spans_4_ kr_Spans_4_ (takes_of rfl rfl rfl rfl) (da_cons (de_fld T.cls_Spans T.na_Spans_head (de_var 2)) (da_cons (de_fld T.cls_Spans T.na_Spans_since (de_var 2)) (da_cons (de_fld T.cls_Spans T.na_Spans_period (de_var 2)) (da_cons (de_fld T.cls_Spans T.na_Spans_cycle (de_var 2)) da_nil)))) dk_nil))
      (dss_one (ds_ret (de_eq hr.units (de_tup (da_cons (de_fld T.cls_Spans T.na_Spans_head (de_var 9)) (da_cons (de_fld T.cls_Spans T.na_Spans_since (de_var 9)) (da_cons (de_fld T.cls_Spans T.na_Spans_period (de_var 9)) (da_cons (de_fld T.cls_Spans T.na_Spans_cycle (de_var 9)) da_nil))))) (de_var 3))))))))))))))
end
open PySem PySem.Spec PyProof.Rows L2 FL
/-! ### the numbers of a script -/
theorem at_cell (c : Cl) (ns : List Int) (h : ns.length ≤ 63) (k : Nat) (hk : k ≤ 100) : G__law_cell c [.lst (nums ns), .int k] = some (.ok (.int (ns.getD k 0))) := by
  by_cases q : k < ns.length
  · have e : gIx (.lst (nums ns)) (.int (k : Nat)) = some (.int (ns.getD k 0)) := gIx_lints (by omega) (by omega)
    have q2 : decide ((k : Int) < (ns.length : Int)) = true := decide_eq_true (by omega)
    simp only [G__law_cell, F__law_cell, r_seq, r_ex, r_set, r_setN, r_drop, r_ret, r_if, r_frz, r_frzS, r_next, r_op, r_fun1, r_call, r_callN, r_cons, r_nil, r_var, r_c, r_bl, r_tr, r_not, r_andB, r_orB, r_andV, r_notV, r_ifE, r_chain, r_lst, r_tup, r_sz, r_own, r_def, r_seqOf, r_lc, r_app, r_fld, r_meth, r_peek, r_enum, szOk, blOf, truD, seqOf, wipeS, lfts, bndo, bnde, getz, getS, setz, setS, List.map_cons, List.map_nil, List.cons_append, List.nil_append, List.replicate, List.length_cons, List.length_nil, if_true, gInt, gTuple, gLen, Nat.reduceAdd, Nat.reduceLeDiff, giName, gAbs, nums_length, gLt_int, q2, e]
  · have q2 : decide ((k : Int) < (ns.length : Int)) = false := decide_eq_false (by omega)
    have e : ns.getD k 0 = 0 := by
      rw [List.getD_eq_getElem?_getD, List.getElem?_eq_none (by omega)]
      rfl
    simp only [G__law_cell, F__law_cell, r_seq, r_ex, r_set, r_setN, r_drop, r_ret, r_if, r_frz, r_frzS, r_next, r_op, r_fun1, r_call, r_callN, r_cons, r_nil, r_var, r_c, r_bl, r_tr, r_not, r_andB, r_orB, r_andV, r_notV, r_ifE, r_chain, r_lst, r_tup, r_sz, r_own, r_def, r_seqOf, r_lc, r_app, r_fld, r_meth, r_peek, r_enum, szOk, blOf, truD, seqOf, wipeS, lfts, bndo, bnde, getz, getS, setz, setS, List.map_cons, List.map_nil, List.cons_append, List.nil_append, List.replicate, List.length_cons, List.length_nil, if_true, gInt, gTuple, gLen, Nat.reduceAdd, Nat.reduceLeDiff, giName, gAbs, nums_length, gLt_int, q2, e]
def digs : Int → List Int → List Int
  | _, [] => []
  | x, z :: r => x % z :: digs (x / z) r
theorem digs_loop (c : Cl) (S : D) : ∀ (sizes : List Int) (x : Int) (row : List Int) (y : Sl), (∀ z ∈ sizes, 0 < z ∧ z < 2 ^ 62) → row.length + sizes.length ≤ 1000 →
    ∃ x' y', loopF (giName 3) (fSeq (fApp 2 (fop gMod (fcall gInt (fCons (fVar 0) fNil)) (fVar 3))) (fSet 0 (fop gDiv (fVar 0) (fVar 3)))) (nums sizes) [.d (.int x), .d S, .own (nums row), y] = some (.nx [.d (.int x'), .d S, .own (nums (row ++ digs x sizes)), y'])
  | [], x, row, y, _, _ => ⟨x, y, by rw [digs, List.append_nil]; rfl⟩
  | z :: r, x, row, y, h, hl => by
    obtain ⟨z1, z2⟩ := h z (List.mem_cons_self ..)
    rw [List.length_cons] at hl
    obtain ⟨x', y', e⟩ := digs_loop c S r (x / z) (row ++ [x % z]) (.d (.int z)) (fun w hw => h w (List.mem_cons_of_mem _ hw)) (by rw [List.length_append]; simp; omega)
    refine ⟨x', y', ?_⟩
    rw [List.append_assoc] at e
    show loopF _ _ (D.int z :: nums r) _ = _
    have hlen : (nums row).length < 100000 := by rw [nums_length]; omega
    have ea : nums row ++ [D.int (x % z)] = nums (row ++ [x % z]) := by rw [nums_append]; rfl
    simp only [loopF, r_seq, r_ex, r_set, r_setN, r_drop, r_ret, r_if, r_frz, r_frzS, r_next, r_op, r_fun1, r_call, r_callN, r_cons, r_nil, r_var, r_c, r_bl, r_tr, r_not, r_andB, r_orB, r_andV, r_notV, r_ifE, r_chain, r_lst, r_tup, r_sz, r_own, r_def, r_seqOf, r_lc, r_app, r_fld, r_meth, r_peek, r_enum, szOk, blOf, truD, seqOf, wipeS, lfts, bndo, bnde, getz, getS, setz, setS, List.map_cons, List.map_nil, List.cons_append, List.nil_append, List.replicate, List.length_cons, List.length_nil, if_true, gInt, gTuple, gLen, Nat.reduceAdd, Nat.reduceLeDiff, giName, gAbs, gMod_int z1, gDiv_int z1 z2, hlen, ea]
    exact e
theorem at_digits (c : Cl) (x : Int) (sizes : List Int) (h : ∀ z ∈ sizes, 0 < z ∧ z < 2 ^ 62) (hl : sizes.length ≤ 1000) : G__law_digits c [.int x, .lst (nums sizes)] = some (.ok (.lst (nums (digs x sizes)))) := by
  obtain ⟨x', y', e⟩ := digs_loop c (.lst (nums sizes)) sizes x [] .no h (by simp; omega)
  rw [show nums [] = ([] : List D) from rfl] at e
  simp only [G__law_digits, F__law_digits, r_seq, r_ex, r_set, r_setN, r_drop, r_ret, r_if, r_frz, r_frzS, r_next, r_op, r_fun1, r_call, r_callN, r_cons, r_nil, r_var, r_c, r_bl, r_tr, r_not, r_andB, r_orB, r_andV, r_notV, r_ifE, r_chain, r_lst, r_tup, r_sz, r_own, r_def, r_seqOf, r_lc, r_app, r_fld, r_meth, r_peek, r_enum, szOk, blOf, truD, seqOf, wipeS, lfts, bndo, bnde, getz, getS, setz, setS, List.map_cons, List.map_nil, List.cons_append, List.nil_append, List.replicate, List.length_cons, List.length_nil, if_true, gInt, gTuple, gLen, Nat.reduceAdd, Nat.reduceLeDiff, giName, gAbs, r_for, Nat.zero_le, e]
theorem at_rich (c : Cl) (x : Int) : ∃ y, G__law_rich c [.int x] = some (.ok (.int y)) := by
  have e18 : gPow (.int 10) (.int 18) = some (.int (10 ^ 18)) := gPow_10 (n := 18) (by decide)
  by_cases h : (10 : Int) ^ 18 ≤ x
  · refine ⟨x, ?_⟩
    simp only [G__law_rich, F__law_rich, r_seq, r_ex, r_set, r_setN, r_drop, r_ret, r_if, r_frz, r_frzS, r_next, r_op, r_fun1, r_call, r_callN, r_cons, r_nil, r_var, r_c, r_bl, r_tr, r_not, r_andB, r_orB, r_andV, r_notV, r_ifE, r_chain, r_lst, r_tup, r_sz, r_own, r_def, r_seqOf, r_lc, r_app, r_fld, r_meth, r_peek, r_enum, szOk, blOf, truD, seqOf, wipeS, lfts, bndo, bnde, getz, getS, setz, setS, List.map_cons, List.map_nil, List.cons_append, List.nil_append, List.replicate, List.length_cons, List.length_nil, if_true, gInt, gTuple, gLen, Nat.reduceAdd, Nat.reduceLeDiff, giName, gAbs, e18, gGe_int, decide_eq_true h]
  · refine ⟨(x * 48271 + 11) % 2147483647 * 2147483629 + ((x * 48271 + 11) % 2147483647 * 69621 + x / 7 + 5) % 2147483629, ?_⟩
    simp only [G__law_rich, F__law_rich, r_seq, r_ex, r_set, r_setN, r_drop, r_ret, r_if, r_frz, r_frzS, r_next, r_op, r_fun1, r_call, r_callN, r_cons, r_nil, r_var, r_c, r_bl, r_tr, r_not, r_andB, r_orB, r_andV, r_notV, r_ifE, r_chain, r_lst, r_tup, r_sz, r_own, r_def, r_seqOf, r_lc, r_app, r_fld, r_meth, r_peek, r_enum, szOk, blOf, truD, seqOf, wipeS, lfts, bndo, bnde, getz, getS, setz, setS, List.map_cons, List.map_nil, List.cons_append, List.nil_append, List.replicate, List.length_cons, List.length_nil, if_true, gInt, gTuple, gLen, Nat.reduceAdd, Nat.reduceLeDiff, giName, gAbs, e18, gGe_int, decide_eq_false h, gMul_r (i := x) (j := 48271) (by decide) (by decide), gAdd_int, gMod_int (j := 2147483647) (by decide), gMul_r (j := 69621) (by decide) (by decide), gDiv_int (j := 7) (by decide) (by decide), gMod_int (j := 2147483629) (by decide), gMul_r (j := 2147483629) (by decide) (by decide)]

theorem digs_len : ∀ (s : List Int) (x : Int), (digs x s).length = s.length
  | [], _ => rfl
  | z :: r, x => by rw [digs, List.length_cons, digs_len r, List.length_cons]
theorem digs_ok : ∀ (s : List Int) (x : Int) (i : Nat), (∀ z ∈ s, 0 < z) → i < s.length → 0 ≤ (digs x s).getD i 0 ∧ (digs x s).getD i 0 < s.getD i 0
  | [], _, i, _, h => absurd h (Nat.not_lt_zero i)
  | z :: r, x, 0, h, _ => ⟨Int.emod_nonneg _ (by have := h z (List.mem_cons_self ..); omega), Int.emod_lt_of_pos _ (h z (List.mem_cons_self ..))⟩
  | z :: r, x, i + 1, h, hl => by
    have := digs_ok r (x / z) i (fun w hw => h w (List.mem_cons_of_mem _ hw)) (by rw [List.length_cons] at hl; omega)
    simpa [digs] using this
/-! ### calendars -/
theorem sub_pairs (n : Nat) (p : Nat → Bool) : (((List.range n).filter p).map fun k : Nat => (k : Int)).Pairwise (· < ·) := by
  rw [List.pairwise_map]
  exact ((List.pairwise_lt_range (n := n)).filter p).imp fun h => by omega
theorem sub_mem {n : Nat} {p : Nat → Bool} {y : Int} (h : y ∈ ((List.range n).filter p).map fun k : Nat => (k : Int)) : 0 ≤ y ∧ y ≤ (n : Int) - 1 := by
  obtain ⟨k, hk, rfl⟩ := List.mem_map.mp h
  have := List.mem_range.mp (List.mem_filter.mp hk).1
  omega
/-! ### what the law says of lengths -/
/-! ### the calendar's methods -/
theorem getD_mem {l : List Int} {j : Nat} (h : j < l.length) : l.getD j 0 ∈ l := by
  rw [List.getD_eq_getElem?_getD, List.getElem?_eq_getElem h]
  exact List.getElem_mem h
/-! ### the law -/
theorem isi_bi (i : Int) : gIsi "bool" (.int i) = some (.bl false) := by rfl
theorem isi_bb (b : Bool) : gIsi "bool" (.bl b) = some (.bl true) := by rfl
theorem first_again (A W : Nat) (hA : 0 < A) (hW : 0 < W) : ((List.range W).filter fun j : Nat => decide ((A : Int) * (1 + (j : Int)) % (W : Int) = 0)).head? = some (Nat.lcm A W / A - 1) := by
  have hl : 0 < Nat.lcm A W := Nat.lcm_pos hA hW
  obtain ⟨t, ht⟩ := Nat.dvd_lcm_left A W
  have ht0 : 0 < t := Nat.pos_of_ne_zero fun h => by rw [ht, h, Nat.mul_zero] at hl; exact Nat.lt_irrefl _ hl
  rw [ht, Nat.mul_div_cancel_left _ hA, List.head?_filter, List.find?_range_eq_some]
  have hp : ∀ j : Nat, (A : Int) * (1 + (j : Int)) % (W : Int) = 0 ↔ W ∣ A * (j + 1) := fun j => by
    rw [← Int.natCast_dvd_natCast, Int.natCast_mul, Int.dvd_iff_emod_eq_zero, show ((j + 1 : Nat) : Int) = 1 + (j : Int) by omega]
  refine ⟨?_, ?_, fun j hj => ?_⟩
  · rw [decide_eq_true_iff, hp, show t - 1 + 1 = t by omega, ← ht]
    exact Nat.dvd_lcm_right A W
  · rw [List.mem_range]
    have : Nat.lcm A W ≤ A * W := Nat.le_of_dvd (Nat.mul_pos hA hW) (Nat.lcm_dvd (Nat.dvd_mul_right A W) (Nat.dvd_mul_left W A))
    rw [ht] at this
    have := Nat.le_of_mul_le_mul_left this hA
    omega
  · rw [Bool.not_eq_true', decide_eq_false_iff_not, hp]
    intro hd
    have h2 := Nat.le_of_dvd (Nat.mul_pos hA (Nat.succ_pos j)) (Nat.lcm_dvd (Nat.dvd_mul_right A (j + 1)) hd)
    rw [ht] at h2
    have := Nat.le_of_mul_le_mul_left h2 hA
    omega
theorem lcm_split (A W : Nat) (hA : 0 < A) (hW : 0 < W) : (A : Int) * (1 + ((Nat.lcm A W / A - 1 : Nat) : Int)) = (Nat.lcm A W : Nat) := by
  obtain ⟨t, ht⟩ := Nat.dvd_lcm_left A W
  have hl : 0 < Nat.lcm A W := Nat.lcm_pos hA hW
  have ht0 : 0 < t := Nat.pos_of_ne_zero fun h => by rw [ht, h, Nat.mul_zero] at hl; exact Nat.lt_irrefl _ hl
  rw [ht, Nat.mul_div_cancel_left _ hA, Int.natCast_mul]
  congr 1
  omega
theorem gIx_head {xs : List D} {d : D} (h : xs.head? = some d) : gIx (.lst xs) (.int 0) = some d := by
  cases xs with
  | nil => cases h
  | cons a r =>
    have e : atI (a :: r) ((0 : Nat) : Int) = (a :: r)[0]? := atI_nat (by rw [List.length_cons]; omega)
    show atI (a :: r) 0 = _
    exact e.trans h
/-! ### the search among the starts, and dates -/
theorem while_one (t : PS1 → Option (R Bool)) (b : PS1 → Option Fl) (n : Nat) (s : PS1) : whileF t b (n + 1) s = match t s with
  | some (.ok true) => (match b s with
    | some (.nx s') => whileF t b n s'
    | some (.ct s') => whileF t b n s'
    | some (.bk s') => some (.nx s')
    | r => r)
  | some (.ok false) => some (.nx s)
  | some (.er x) => some (.er x s)
  | none => none := by
  show fEx t _ s = _
  unfold fEx
  cases t s with
  | none => rfl
  | some r => cases r with
    | er x => rfl
    | ok b => cases b <;> rfl
theorem loopC {gi : D → PS1 → Option PS1} {b : PS1 → Option Fl} {d : D} {ds : List D} {s : PS1} : loopF gi b (d :: ds) s = match gi d s with
  | none => none
  | some s1 => match b s1 with
    | some (.nx s') => loopF gi b ds s'
    | some (.ct s') => loopF gi b ds s'
    | some (.bk s') => some (.nx s')
    | r => r := (rfl)
/-! ### dates and places -/
theorem eqD_t3 (a b c a' b' c' : Int) : eqD (.tup [.int a, .int b, .int c]) (.tup [.int a', .int b', .int c']) = some ((a == a') && ((b == b') && ((c == c') && true))) := by rfl
theorem eqD_t2 (a b a' b' : Int) : eqD (.tup [.int a, .int b]) (.tup [.int a', .int b']) = some ((a == a') && ((b == b') && true)) := by rfl
theorem gNe_t3 (a b c : Int) : gNe (.tup [.int a, .int b, .int c]) (.tup [.int a, .int b, .int c]) = some (.bl false) := by
  rw [gNe, eqD_t3]
  simp
theorem gNe_t2 (a b : Int) : gNe (.tup [.int a, .int b]) (.tup [.int a, .int b]) = some (.bl false) := by
  rw [gNe, eqD_t2]
  simp
theorem gEq_bl (i j : Bool) : gEq (.bl i) (.bl j) = some (.bl (decide (i = j))) := by rw [gEq, eqD_bl]; rfl
theorem gEq_non (i : Int) : gEq .non (.int i) = some (.bl false) := by rfl
inductive Pl where
  | day (a : Int) | back (a : Int) | wd (a w : Int) | wb (a w : Int)
  deriving DecidableEq
def Pl.d : Pl → D
  | .day a => .tup [.str "day", .int a]
  | .back a => .tup [.str "back", .int a]
  | .wd a w => .tup [.str "weekday", .int a, .int w]
  | .wb a w => .tup [.str "weekback", .int a, .int w]
def Pl.ok (wk : Int) : Pl → Prop
  | .day _ => True
  | .back _ => True
  | .wd _ w => 0 ≤ w ∧ w < wk
  | .wb _ w => 0 ≤ w ∧ w < wk
def Pl.cnt (wk start stop : Int) : Pl → Int
  | .day a => start + a - 1
  | .back a => stop - a
  | .wd a w => start + (w - start) % wk + (a - 1) * wk
  | .wb a w => stop - 1 - (stop - 1 - w) % wk - (a - 1) * wk
def Pl.test (wk x u len : Int) : Pl → Bool
  | .day a => decide (u + 1 = a)
  | .back a => decide (len - (u + 1) + 1 = a)
  | .wd a w => if x = w then decide (u / wk + 1 = a) else false
  | .wb a w => if x = w then decide ((len - (u + 1)) / wk + 1 = a) else false
theorem gEq_str {x y : Str} {b : Bool} (hx : SeqAt.shaped (.str x) = true) (hy : SeqAt.shaped (.str y) = true) (hb : (x == y) = b) : gEq (.str x) (.str y) = some (.bl b) := by
  have e : eqD (.str x) (.str y) = some b := by
    show (if (SeqAt.shaped (.str x) && SeqAt.shaped (.str y)) = true then some (PyData.eqv (.str x) (.str y)) else none) = _
    rw [hx, hy, ← hb]
    rfl
  rw [gEq, e]
  rfl
theorem s_dd : gEq (.str "day") (.str "day") = some (.bl true) := gEq_str (by decide +kernel) (by decide +kernel) (by decide +kernel)
theorem s_bd : gEq (.str "back") (.str "day") = some (.bl false) := gEq_str (by decide +kernel) (by decide +kernel) (by decide +kernel)
theorem s_wd : gEq (.str "weekday") (.str "day") = some (.bl false) := gEq_str (by decide +kernel) (by decide +kernel) (by decide +kernel)
theorem s_vd : gEq (.str "weekback") (.str "day") = some (.bl false) := gEq_str (by decide +kernel) (by decide +kernel) (by decide +kernel)
theorem s_bb : gEq (.str "back") (.str "back") = some (.bl true) := gEq_str (by decide +kernel) (by decide +kernel) (by decide +kernel)
theorem s_wb : gEq (.str "weekday") (.str "back") = some (.bl false) := gEq_str (by decide +kernel) (by decide +kernel) (by decide +kernel)
theorem s_vb : gEq (.str "weekback") (.str "back") = some (.bl false) := gEq_str (by decide +kernel) (by decide +kernel) (by decide +kernel)
theorem s_ww : gEq (.str "weekday") (.str "weekday") = some (.bl true) := gEq_str (by decide +kernel) (by decide +kernel) (by decide +kernel)
theorem s_vw : gEq (.str "weekback") (.str "weekday") = some (.bl false) := gEq_str (by decide +kernel) (by decide +kernel) (by decide +kernel)
theorem wk_same (wk x w d : Int) (h0 : 0 ≤ w) (h1 : w < wk) : ((w - x) % wk = (d - x) % wk ↔ d % wk = w) ∧ ((x - w) % wk = (x - d) % wk ↔ d % wk = w) := by
  have e : w % wk = w := Int.emod_eq_of_lt h0 h1
  constructor
  · rw [Int.emod_eq_emod_iff_emod_sub_eq_zero, show w - x - (d - x) = w - d by omega, ← Int.emod_eq_emod_iff_emod_sub_eq_zero, e]
    exact eq_comm
  · rw [Int.emod_eq_emod_iff_emod_sub_eq_zero, show x - w - (x - d) = d - w by omega, ← Int.emod_eq_emod_iff_emod_sub_eq_zero, e]
theorem wk_count (wk t u a : Int) (h : 0 < wk) : t % wk + (a - 1) * wk = u ↔ t % wk = u % wk ∧ u / wk + 1 = a := by
  have h1 := Int.emod_nonneg t (show wk ≠ 0 by omega)
  have h2 := Int.emod_lt_of_pos t h
  have key := Int.ediv_emod_unique (a := u) (b := wk) (q := a - 1) (r := t % wk) h
  rw [Int.mul_comm wk] at key
  constructor
  · intro e
    obtain ⟨x, y⟩ := key.mpr ⟨e, h1, h2⟩
    exact ⟨y.symm, by omega⟩
  · rintro ⟨x, y⟩
    exact (key.mp ⟨by omega, x.symm⟩).1
theorem s_db : gEq (.str "day") (.str "back") = some (.bl false) := gEq_str (by decide +kernel) (by decide +kernel) (by decide +kernel)
theorem s_dw : gEq (.str "day") (.str "weekday") = some (.bl false) := gEq_str (by decide +kernel) (by decide +kernel) (by decide +kernel)
theorem s_dv : gEq (.str "day") (.str "weekback") = some (.bl false) := gEq_str (by decide +kernel) (by decide +kernel) (by decide +kernel)
theorem s_bw : gEq (.str "back") (.str "weekday") = some (.bl false) := gEq_str (by decide +kernel) (by decide +kernel) (by decide +kernel)
theorem s_bv : gEq (.str "back") (.str "weekback") = some (.bl false) := gEq_str (by decide +kernel) (by decide +kernel) (by decide +kernel)
theorem s_wv : gEq (.str "weekday") (.str "weekback") = some (.bl false) := gEq_str (by decide +kernel) (by decide +kernel) (by decide +kernel)
theorem s_vv : gEq (.str "weekback") (.str "weekback") = some (.bl true) := gEq_str (by decide +kernel) (by decide +kernel) (by decide +kernel)
theorem drawn (c : Cl) (s : List Int) (h : ∀ z ∈ s, 0 < z ∧ z < 2 ^ 62) (hl : s.length ≤ 1000) (x : Int) : ∃ (y : Int) (ds : List Int), G__law_rich c [.int x] = some (.ok (.int y)) ∧ G__law_digits c [.int y, .lst (nums s)] = some (.ok (.lst (nums ds))) ∧ ds.length = s.length ∧ ∀ i, i < s.length → 0 ≤ ds.getD i 0 ∧ ds.getD i 0 < s.getD i 0 := by
  obtain ⟨y, ey⟩ := at_rich c x
  exact ⟨y, digs y s, ey, at_digits c y s h hl, digs_len s y, fun i hi => digs_ok s y i (fun z hz => (h z hz).1) hi⟩
theorem num_ex (x : Int) (e : Nat) : ∃ y : Int, 0 ≤ y ∧ y < 10 ^ e ∧ gMod (.int (if x < 0 then -x else x)) (.int (10 ^ e)) = some (.int y) := by
  have h10 : (0 : Int) < 10 ^ e := Int.pow_pos (by decide)
  exact ⟨_, Int.emod_nonneg _ (by omega), Int.emod_lt_of_pos _ h10, gMod_int h10⟩
theorem e60 : gPow (.int 10) (.int 60) = some (.int (10 ^ 60)) := gPow_10 (n := 60) (by decide)
theorem e30 : gPow (.int 10) (.int 30) = some (.int (10 ^ 30)) := gPow_10 (n := 30) (by decide)
theorem e40 : gPow (.int 10) (.int 40) = some (.int (10 ^ 40)) := gPow_10 (n := 40) (by decide)
theorem e20 : gPow (.int 10) (.int 20) = some (.int (10 ^ 20)) := gPow_10 (n := 20) (by decide)
theorem e9 : gPow (.int 10) (.int 9) = some (.int (10 ^ 9)) := gPow_10 (n := 9) (by decide)
theorem e50 : gPow (.int 10) (.int 50) = some (.int (10 ^ 50)) := gPow_10 (n := 50) (by decide)
/-! ### rows of spans: the program's functions, the law's -/
theorem gMax0 (a b : Int) : gMax [.int a, .int b] = some (.int (if b > a then b else a)) := (rfl)
theorem gMin0 (a b : Int) : gMin [.int a, .int b] = some (.int (if b < a then b else a)) := (rfl)
theorem atI_last {xs : List D} {d : D} : atI (xs ++ [d]) (-1) = some d := by
  unfold atI ixN
  rw [if_neg (by omega), if_pos (by rw [List.length_append]; simp only [List.length_cons, List.length_nil]; omega)]
  show (xs ++ [d])[(-1 + ((xs ++ [d]).length : Int)).toNat]? = _
  have e : (-1 + ((xs ++ [d]).length : Int)).toNat = xs.length := by rw [List.length_append]; simp only [List.length_cons, List.length_nil]; omega
  rw [e]
  simp
theorem setIx_last {xs : List D} {d e : D} : setIxD (xs ++ [d]) (-1) e = some (xs ++ [e]) := by
  unfold setIxD ixN
  rw [if_neg (by omega), if_pos (by rw [List.length_append]; simp only [List.length_cons, List.length_nil]; omega)]
  show some ((xs ++ [d]).set (-1 + ((xs ++ [d]).length : Int)).toNat e) = _
  have g : (-1 + ((xs ++ [d]).length : Int)).toNat = xs.length := by rw [List.length_append]; simp only [List.length_cons, List.length_nil]; omega
  rw [g]
  simp
theorem app_ne {xs : List D} {d : D} : (xs ++ [d]).isEmpty = false := by simp
theorem gSorted_L (l : List Seg) : gSorted [.lst (spsD l)] = some (spsD (sortS l)) := by
  show (if canSort (spsD l) = true then some (sortD (spsD l)) else none) = _
  rw [canSort_sps, if_pos rfl, sortD_sps]
theorem gSorted_T (l : List Seg) : gSorted [.tup (spsD l)] = some (spsD (sortS l)) := by
  show (if canSort (spsD l) = true then some (sortD (spsD l)) else none) = _
  rw [canSort_sps, if_pos rfl, sortD_sps]
theorem merge_loop (S : Sl) : ∀ (rest : List Seg) (done : List D) (cur : Seg) (a b : Sl), done.length + rest.length < 99000 → ∃ a' b', loopF (giTup [2, 3]) (fIfS (fOrB (fNot (fTrO 1)) (fBl (fop gGt (fVar 2) (fop gIx (fIxO 1 (fun1 gNeg (fC (.int 1)))) (fC (.int 1)))))) (fApp 1 (fTup (fCons (fVar 2) (fCons (fVar 3) fNil)))) (fIfS (fBl (fop gGt (fVar 3) (fop gIx (fIxO 1 (fun1 gNeg (fC (.int 1)))) (fC (.int 1))))) (fSetIx 1 (fun1 gNeg (fC (.int 1))) (fTup (fCons (fop gIx (fIxO 1 (fun1 gNeg (fC (.int 1)))) (fC (.int 0))) (fCons (fVar 3) fNil)))) fNext)) (spsD rest) [S, .own (done ++ [spD cur]), a, b] = some (.nx [S, .own (done ++ spsD (mergeGo cur rest)), a', b'])
  | [], done, cur, a, b, _ => ⟨a, b, rfl⟩
  | s :: r, done, cur, a, b, hl => by
    simp only [List.length_cons] at hl
    have hlen : ∀ d : D, (done ++ [d]).length < 100000 := fun d => by rw [List.length_append]; simp only [List.length_cons, List.length_nil]; omega
    have e1 : gIx (spD cur) (.int 1) = some (.int cur.2) := (rfl)
    have e0 : gIx (spD cur) (.int 0) = some (.int cur.1) := (rfl)
    show ∃ a' b', loopF _ _ (spD s :: spsD r) _ = _
    rw [loopC]
    by_cases h1 : cur.2 < s.1
    · obtain ⟨a', b', ih⟩ := merge_loop S r (done ++ [spD cur]) s (.d (.int s.1)) (.d (.int s.2)) (by rw [List.length_append]; simp only [List.length_cons, List.length_nil]; omega)
      refine ⟨a', b', ?_⟩
      unfold mergeGo
      rw [if_pos h1]
      have e2 : done ++ spsD (cur :: mergeGo s r) = done ++ [spD cur] ++ spsD (mergeGo s r) := by rw [List.append_assoc]; rfl
      rw [e2, ← ih]
      simp only [spD, giTup, giNames]
      simp only [r_seq, r_ex, r_set, r_setN, r_drop, r_ret, r_if, r_frz, r_frzS, r_next, r_op, r_fun1, r_call, r_callN, r_cons, r_nil, r_var, r_c, r_bl, r_tr, r_not, r_andB, r_orB, r_andV, r_notV, r_ifE, r_chain, r_lst, r_tup, r_sz, r_own, r_def, r_seqOf, r_lc, r_app, r_fld, r_meth, r_peek, r_enum, szOk, blOf, truD, seqOf, wipeS, lfts, bndo, bnde, getz, getS, setz, setS, List.map_cons, List.map_nil, List.cons_append, List.nil_append, List.replicate, List.length_cons, List.length_nil, if_true, gInt, gTuple, gLen, Nat.reduceAdd, Nat.reduceLeDiff, giName, r_orV, r_slT, r_slL, r_part, r_noPart, gAdd_int, gSub_int, gLt_int, gLe_int, gGt_int, gGe_int, gNeg_int, gEq_int, gNe_int, gMod_int, gDiv_int, gMul_r, ixL0, ixL1, ixL2, ixL3, ixL4, ixL5, ixL6, ixL7, ixL8, ixL9, ixL10, ixL11, ixL12, ixL13, ixT0, ixT1, ixT2, ixT3, ixT4, ixT5, ixT6, ixT7, ixT8, ixT9, ixT10, and_self, Int.cast_ofNat_Int, Int.reduceEq, decide_true, decide_false, Bool.not_true, Bool.not_false, nums_length, isi_ii, gAbs_int, Int.reduceAdd, Int.reduceSub, Int.reduceMul, Int.reduceNeg, Int.reduceLT, Int.reduceLE, r_ixO, r_trO, r_pop, r_rev, r_opN, r_ext, r_setIx, r_ch3, r_star, starOf, r_lc2, r_revT, r_notT, Option.map_some, List.isEmpty_cons, List.isEmpty_nil, atI_last, app_ne, hlen]
      simp only [r_seq, r_ex, r_set, r_setN, r_drop, r_ret, r_if, r_frz, r_frzS, r_next, r_op, r_fun1, r_call, r_callN, r_cons, r_nil, r_var, r_c, r_bl, r_tr, r_not, r_andB, r_orB, r_andV, r_notV, r_ifE, r_chain, r_lst, r_tup, r_sz, r_own, r_def, r_seqOf, r_lc, r_app, r_fld, r_meth, r_peek, r_enum, szOk, blOf, truD, seqOf, wipeS, lfts, bndo, bnde, getz, getS, setz, setS, List.map_cons, List.map_nil, List.cons_append, List.nil_append, List.replicate, List.length_cons, List.length_nil, if_true, gInt, gTuple, gLen, Nat.reduceAdd, Nat.reduceLeDiff, giName, r_orV, r_slT, r_slL, r_part, r_noPart, gAdd_int, gSub_int, gLt_int, gLe_int, gGt_int, gGe_int, gNeg_int, gEq_int, gNe_int, gMod_int, gDiv_int, gMul_r, ixL0, ixL1, ixL2, ixL3, ixL4, ixL5, ixL6, ixL7, ixL8, ixL9, ixL10, ixL11, ixL12, ixL13, ixT0, ixT1, ixT2, ixT3, ixT4, ixT5, ixT6, ixT7, ixT8, ixT9, ixT10, and_self, Int.cast_ofNat_Int, Int.reduceEq, decide_true, decide_false, Bool.not_true, Bool.not_false, nums_length, isi_ii, gAbs_int, Int.reduceAdd, Int.reduceSub, Int.reduceMul, Int.reduceNeg, Int.reduceLT, Int.reduceLE, r_ixO, r_trO, r_pop, r_rev, r_opN, r_ext, r_setIx, r_ch3, r_star, starOf, r_lc2, r_revT, r_notT, Option.map_some, List.isEmpty_cons, List.isEmpty_nil, h1, hlen] <;> rfl
    · by_cases h2 : cur.2 < s.2
      · obtain ⟨a', b', ih⟩ := merge_loop S r done (cur.1, s.2) (.d (.int s.1)) (.d (.int s.2)) (by omega)
        refine ⟨a', b', ?_⟩
        unfold mergeGo
        rw [if_neg h1, if_pos h2, ← ih]
        simp only [spD, giTup, giNames]
        simp only [r_seq, r_ex, r_set, r_setN, r_drop, r_ret, r_if, r_frz, r_frzS, r_next, r_op, r_fun1, r_call, r_callN, r_cons, r_nil, r_var, r_c, r_bl, r_tr, r_not, r_andB, r_orB, r_andV, r_notV, r_ifE, r_chain, r_lst, r_tup, r_sz, r_own, r_def, r_seqOf, r_lc, r_app, r_fld, r_meth, r_peek, r_enum, szOk, blOf, truD, seqOf, wipeS, lfts, bndo, bnde, getz, getS, setz, setS, List.map_cons, List.map_nil, List.cons_append, List.nil_append, List.replicate, List.length_cons, List.length_nil, if_true, gInt, gTuple, gLen, Nat.reduceAdd, Nat.reduceLeDiff, giName, r_orV, r_slT, r_slL, r_part, r_noPart, gAdd_int, gSub_int, gLt_int, gLe_int, gGt_int, gGe_int, gNeg_int, gEq_int, gNe_int, gMod_int, gDiv_int, gMul_r, ixL0, ixL1, ixL2, ixL3, ixL4, ixL5, ixL6, ixL7, ixL8, ixL9, ixL10, ixL11, ixL12, ixL13, ixT0, ixT1, ixT2, ixT3, ixT4, ixT5, ixT6, ixT7, ixT8, ixT9, ixT10, and_self, Int.cast_ofNat_Int, Int.reduceEq, decide_true, decide_false, Bool.not_true, Bool.not_false, nums_length, isi_ii, gAbs_int, Int.reduceAdd, Int.reduceSub, Int.reduceMul, Int.reduceNeg, Int.reduceLT, Int.reduceLE, r_ixO, r_trO, r_pop, r_rev, r_opN, r_ext, r_setIx, r_ch3, r_star, starOf, r_lc2, r_revT, r_notT, Option.map_some, List.isEmpty_cons, List.isEmpty_nil, atI_last, app_ne, hlen, h1, h2, setIx_last, Option.map_some] <;> rfl
      · obtain ⟨a', b', ih⟩ := merge_loop S r done (cur.1, cur.2) (.d (.int s.1)) (.d (.int s.2)) (by omega)
        refine ⟨a', b', ?_⟩
        unfold mergeGo
        rw [if_neg h1, if_neg h2, ← ih]
        simp only [spD, giTup, giNames]
        simp only [r_seq, r_ex, r_set, r_setN, r_drop, r_ret, r_if, r_frz, r_frzS, r_next, r_op, r_fun1, r_call, r_callN, r_cons, r_nil, r_var, r_c, r_bl, r_tr, r_not, r_andB, r_orB, r_andV, r_notV, r_ifE, r_chain, r_lst, r_tup, r_sz, r_own, r_def, r_seqOf, r_lc, r_app, r_fld, r_meth, r_peek, r_enum, szOk, blOf, truD, seqOf, wipeS, lfts, bndo, bnde, getz, getS, setz, setS, List.map_cons, List.map_nil, List.cons_append, List.nil_append, List.replicate, List.length_cons, List.length_nil, if_true, gInt, gTuple, gLen, Nat.reduceAdd, Nat.reduceLeDiff, giName, r_orV, r_slT, r_slL, r_part, r_noPart, gAdd_int, gSub_int, gLt_int, gLe_int, gGt_int, gGe_int, gNeg_int, gEq_int, gNe_int, gMod_int, gDiv_int, gMul_r, ixL0, ixL1, ixL2, ixL3, ixL4, ixL5, ixL6, ixL7, ixL8, ixL9, ixL10, ixL11, ixL12, ixL13, ixT0, ixT1, ixT2, ixT3, ixT4, ixT5, ixT6, ixT7, ixT8, ixT9, ixT10, and_self, Int.cast_ofNat_Int, Int.reduceEq, decide_true, decide_false, Bool.not_true, Bool.not_false, nums_length, isi_ii, gAbs_int, Int.reduceAdd, Int.reduceSub, Int.reduceMul, Int.reduceNeg, Int.reduceLT, Int.reduceLE, r_ixO, r_trO, r_pop, r_rev, r_opN, r_ext, r_setIx, r_ch3, r_star, starOf, r_lc2, r_revT, r_notT, Option.map_some, List.isEmpty_cons, List.isEmpty_nil, atI_last, app_ne, hlen, h1, h2, setIx_last, Option.map_some] <;> rfl
theorem merged_of (c : Cl) (l : List Seg) (x : D) (hl : l.length < 90000) (hx : gSorted [x] = some (spsD (sortS l))) : G_merged c [x] = some (.ok (.tup (spsD (mergedS l)))) := by
  have hp := (sortS_perm l).length_eq
  refine def_rt ?_
  show F_merged c [.d x, .no, .no, .no] = _
  unfold F_merged mergedS
  cases e : sortS l with
  | nil =>
    rw [e] at hx
    simp only [r_seq, r_ex, r_set, r_setN, r_drop, r_ret, r_if, r_frz, r_frzS, r_next, r_op, r_fun1, r_call, r_callN, r_cons, r_nil, r_var, r_c, r_bl, r_tr, r_not, r_andB, r_orB, r_andV, r_notV, r_ifE, r_chain, r_lst, r_tup, r_sz, r_own, r_def, r_seqOf, r_lc, r_app, r_fld, r_meth, r_peek, r_enum, szOk, blOf, truD, seqOf, wipeS, lfts, bndo, bnde, getz, getS, setz, setS, List.map_cons, List.map_nil, List.cons_append, List.nil_append, List.replicate, List.length_cons, List.length_nil, if_true, gInt, gTuple, gLen, Nat.reduceAdd, Nat.reduceLeDiff, giName, r_orV, r_slT, r_slL, r_part, r_noPart, gAdd_int, gSub_int, gLt_int, gLe_int, gGt_int, gGe_int, gNeg_int, gEq_int, gNe_int, gMod_int, gDiv_int, gMul_r, ixL0, ixL1, ixL2, ixL3, ixL4, ixL5, ixL6, ixL7, ixL8, ixL9, ixL10, ixL11, ixL12, ixL13, ixT0, ixT1, ixT2, ixT3, ixT4, ixT5, ixT6, ixT7, ixT8, ixT9, ixT10, and_self, Int.cast_ofNat_Int, Int.reduceEq, decide_true, decide_false, Bool.not_true, Bool.not_false, nums_length, isi_ii, gAbs_int, Int.reduceAdd, Int.reduceSub, Int.reduceMul, Int.reduceNeg, Int.reduceLT, Int.reduceLE, r_ixO, r_trO, r_pop, r_rev, r_opN, r_ext, r_setIx, r_ch3, r_star, starOf, r_lc2, r_revT, r_notT, Option.map_some, List.isEmpty_cons, List.isEmpty_nil, r_for, hx, spsD, List.map_nil, mergeS] <;> rfl
  | cons s r =>
    rw [e] at hx hp
    simp only [List.length_cons] at hp
    obtain ⟨a', b', ih⟩ := merge_loop (.d x) r [] s (.d (.int s.1)) (.d (.int s.2)) (by simp only [List.length_nil]; omega)
    refine st (by simp (disch := omega) only [r_seq, r_ex, r_set, r_setN, r_drop, r_ret, r_if, r_frz, r_frzS, r_next, r_op, r_fun1, r_call, r_callN, r_cons, r_nil, r_var, r_c, r_bl, r_tr, r_not, r_andB, r_orB, r_andV, r_notV, r_ifE, r_chain, r_lst, r_tup, r_sz, r_own, r_def, r_seqOf, r_lc, r_app, r_fld, r_meth, r_peek, r_enum, szOk, blOf, truD, seqOf, wipeS, lfts, bndo, bnde, getz, getS, setz, setS, List.map_cons, List.map_nil, List.cons_append, List.nil_append, List.replicate, List.length_cons, List.length_nil, if_true, gInt, gTuple, gLen, Nat.reduceAdd, Nat.reduceLeDiff, giName, r_orV, r_slT, r_slL, r_part, r_noPart, gAdd_int, gSub_int, gLt_int, gLe_int, gGt_int, gGe_int, gNeg_int, gEq_int, gNe_int, gMod_int, gDiv_int, gMul_r, ixL0, ixL1, ixL2, ixL3, ixL4, ixL5, ixL6, ixL7, ixL8, ixL9, ixL10, ixL11, ixL12, ixL13, ixT0, ixT1, ixT2, ixT3, ixT4, ixT5, ixT6, ixT7, ixT8, ixT9, ixT10, and_self, Int.cast_ofNat_Int, Int.reduceEq, decide_true, decide_false, Bool.not_true, Bool.not_false, nums_length, isi_ii, gAbs_int, Int.reduceAdd, Int.reduceSub, Int.reduceMul, Int.reduceNeg, Int.reduceLT, Int.reduceLE, r_ixO, r_trO, r_pop, r_rev, r_opN, r_ext, r_setIx, r_ch3, r_star, starOf, r_lc2, r_revT, r_notT, Option.map_some, List.isEmpty_cons, List.isEmpty_nil] <;> rfl) ?_
    refine st (s' := [.d x, .own (spsD (mergeGo s r)), a', b']) ?_ ?_
    · simp only [r_seq, r_ex, r_set, r_setN, r_drop, r_ret, r_if, r_frz, r_frzS, r_next, r_op, r_fun1, r_call, r_callN, r_cons, r_nil, r_var, r_c, r_bl, r_tr, r_not, r_andB, r_orB, r_andV, r_notV, r_ifE, r_chain, r_lst, r_tup, r_sz, r_own, r_def, r_seqOf, r_lc, r_app, r_fld, r_meth, r_peek, r_enum, szOk, blOf, truD, seqOf, wipeS, lfts, bndo, bnde, getz, getS, setz, setS, List.map_cons, List.map_nil, List.cons_append, List.nil_append, List.replicate, List.length_cons, List.length_nil, if_true, gInt, gTuple, gLen, Nat.reduceAdd, Nat.reduceLeDiff, giName, r_orV, r_slT, r_slL, r_part, r_noPart, gAdd_int, gSub_int, gLt_int, gLe_int, gGt_int, gGe_int, gNeg_int, gEq_int, gNe_int, gMod_int, gDiv_int, gMul_r, ixL0, ixL1, ixL2, ixL3, ixL4, ixL5, ixL6, ixL7, ixL8, ixL9, ixL10, ixL11, ixL12, ixL13, ixT0, ixT1, ixT2, ixT3, ixT4, ixT5, ixT6, ixT7, ixT8, ixT9, ixT10, and_self, Int.cast_ofNat_Int, Int.reduceEq, decide_true, decide_false, Bool.not_true, Bool.not_false, nums_length, isi_ii, gAbs_int, Int.reduceAdd, Int.reduceSub, Int.reduceMul, Int.reduceNeg, Int.reduceLT, Int.reduceLE, r_ixO, r_trO, r_pop, r_rev, r_opN, r_ext, r_setIx, r_ch3, r_star, starOf, r_lc2, r_revT, r_notT, Option.map_some, List.isEmpty_cons, List.isEmpty_nil, r_for, hx]
      show loopF _ _ (spD s :: spsD r) _ = _
      rw [loopC]
      have ih2 := ih
      rw [List.nil_append, List.nil_append] at ih2
      rw [← ih2]
      simp only [spD, giTup, giNames]
      simp only [r_seq, r_ex, r_set, r_setN, r_drop, r_ret, r_if, r_frz, r_frzS, r_next, r_op, r_fun1, r_call, r_callN, r_cons, r_nil, r_var, r_c, r_bl, r_tr, r_not, r_andB, r_orB, r_andV, r_notV, r_ifE, r_chain, r_lst, r_tup, r_sz, r_own, r_def, r_seqOf, r_lc, r_app, r_fld, r_meth, r_peek, r_enum, szOk, blOf, truD, seqOf, wipeS, lfts, bndo, bnde, getz, getS, setz, setS, List.map_cons, List.map_nil, List.cons_append, List.nil_append, List.replicate, List.length_cons, List.length_nil, if_true, gInt, gTuple, gLen, Nat.reduceAdd, Nat.reduceLeDiff, giName, r_orV, r_slT, r_slL, r_part, r_noPart, gAdd_int, gSub_int, gLt_int, gLe_int, gGt_int, gGe_int, gNeg_int, gEq_int, gNe_int, gMod_int, gDiv_int, gMul_r, ixL0, ixL1, ixL2, ixL3, ixL4, ixL5, ixL6, ixL7, ixL8, ixL9, ixL10, ixL11, ixL12, ixL13, ixT0, ixT1, ixT2, ixT3, ixT4, ixT5, ixT6, ixT7, ixT8, ixT9, ixT10, and_self, Int.cast_ofNat_Int, Int.reduceEq, decide_true, decide_false, Bool.not_true, Bool.not_false, nums_length, isi_ii, gAbs_int, Int.reduceAdd, Int.reduceSub, Int.reduceMul, Int.reduceNeg, Int.reduceLT, Int.reduceLE, r_ixO, r_trO, r_pop, r_rev, r_opN, r_ext, r_setIx, r_ch3, r_star, starOf, r_lc2, r_revT, r_notT, Option.map_some, List.isEmpty_cons, List.isEmpty_nil, List.isEmpty_nil] <;> rfl
    · simp only [r_seq, r_ex, r_set, r_setN, r_drop, r_ret, r_if, r_frz, r_frzS, r_next, r_op, r_fun1, r_call, r_callN, r_cons, r_nil, r_var, r_c, r_bl, r_tr, r_not, r_andB, r_orB, r_andV, r_notV, r_ifE, r_chain, r_lst, r_tup, r_sz, r_own, r_def, r_seqOf, r_lc, r_app, r_fld, r_meth, r_peek, r_enum, szOk, blOf, truD, seqOf, wipeS, lfts, bndo, bnde, getz, getS, setz, setS, List.map_cons, List.map_nil, List.cons_append, List.nil_append, List.replicate, List.length_cons, List.length_nil, if_true, gInt, gTuple, gLen, Nat.reduceAdd, Nat.reduceLeDiff, giName, r_orV, r_slT, r_slL, r_part, r_noPart, gAdd_int, gSub_int, gLt_int, gLe_int, gGt_int, gGe_int, gNeg_int, gEq_int, gNe_int, gMod_int, gDiv_int, gMul_r, ixL0, ixL1, ixL2, ixL3, ixL4, ixL5, ixL6, ixL7, ixL8, ixL9, ixL10, ixL11, ixL12, ixL13, ixT0, ixT1, ixT2, ixT3, ixT4, ixT5, ixT6, ixT7, ixT8, ixT9, ixT10, and_self, Int.cast_ofNat_Int, Int.reduceEq, decide_true, decide_false, Bool.not_true, Bool.not_false, nums_length, isi_ii, gAbs_int, Int.reduceAdd, Int.reduceSub, Int.reduceMul, Int.reduceNeg, Int.reduceLT, Int.reduceLE, r_ixO, r_trO, r_pop, r_rev, r_opN, r_ext, r_setIx, r_ch3, r_star, starOf, r_lc2, r_revT, r_notT, Option.map_some, List.isEmpty_cons, List.isEmpty_nil] <;> rfl
theorem at_mergedL (c : Cl) (l : List Seg) (hl : l.length < 90000) : G_merged c [.lst (spsD l)] = some (.ok (.tup (spsD (mergedS l)))) := merged_of c l _ hl (gSorted_L l)
theorem at_mergedT (c : Cl) (l : List Seg) (hl : l.length < 90000) : G_merged c [.tup (spsD l)] = some (.ok (.tup (spsD (mergedS l)))) := merged_of c l _ hl (gSorted_T l)
theorem hit_of (c : Cl) (l : List Seg) (x : D) (t : Int) (hx : x = .tup (spsD l) ∨ x = .lst (spsD l)) : G__law_hit c [x, .int t] = some (.ok (.bl (hitS l t))) := by
  refine def_rt ?_
  show F__law_hit c [.d x, .d (.int t), .no] = _
  unfold F__law_hit
  rcases loop_first (gi := giName 2) (b := (fIfS (fAndB (fBl (fop gLe (fop gIx (fVar 2) (fC (.int 0))) (fVar 1))) (fBl (fop gLt (fVar 1) (fop gIx (fVar 2) (fC (.int 1)))))) (fRet (fC (.bl true))) fNext)) (d := .bl true) spD (inS t) (fun s => ∃ y, s = [.d x, .d (.int t), y]) l [.d x, .d (.int t), .no] (fun a s ha ⟨y, hs⟩ => by
      subst hs
      refine ⟨_, rfl, ?_⟩
      by_cases h1 : a.1 ≤ t
      · by_cases h2 : t < a.2
        · exact .inl ⟨inS_iff.mpr ⟨h1, h2⟩, by simp only [r_seq, r_ex, r_set, r_setN, r_drop, r_ret, r_if, r_frz, r_frzS, r_next, r_op, r_fun1, r_call, r_callN, r_cons, r_nil, r_var, r_c, r_bl, r_tr, r_not, r_andB, r_orB, r_andV, r_notV, r_ifE, r_chain, r_lst, r_tup, r_sz, r_own, r_def, r_seqOf, r_lc, r_app, r_fld, r_meth, r_peek, r_enum, szOk, blOf, truD, seqOf, wipeS, lfts, bndo, bnde, getz, getS, setz, setS, List.map_cons, List.map_nil, List.cons_append, List.nil_append, List.replicate, List.length_cons, List.length_nil, if_true, gInt, gTuple, gLen, Nat.reduceAdd, Nat.reduceLeDiff, giName, r_orV, r_slT, r_slL, r_part, r_noPart, gAdd_int, gSub_int, gLt_int, gLe_int, gGt_int, gGe_int, gNeg_int, gEq_int, gNe_int, gMod_int, gDiv_int, gMul_r, ixL0, ixL1, ixL2, ixL3, ixL4, ixL5, ixL6, ixL7, ixL8, ixL9, ixL10, ixL11, ixL12, ixL13, ixT0, ixT1, ixT2, ixT3, ixT4, ixT5, ixT6, ixT7, ixT8, ixT9, ixT10, and_self, Int.cast_ofNat_Int, Int.reduceEq, decide_true, decide_false, Bool.not_true, Bool.not_false, nums_length, isi_ii, gAbs_int, Int.reduceAdd, Int.reduceSub, Int.reduceMul, Int.reduceNeg, Int.reduceLT, Int.reduceLE, r_ixO, r_trO, r_pop, r_rev, r_opN, r_ext, r_setIx, r_ch3, r_star, starOf, r_lc2, r_revT, r_notT, Option.map_some, List.isEmpty_cons, List.isEmpty_nil, spD, h1, h2]⟩
        · refine .inr ⟨?_, _, by simp only [r_seq, r_ex, r_set, r_setN, r_drop, r_ret, r_if, r_frz, r_frzS, r_next, r_op, r_fun1, r_call, r_callN, r_cons, r_nil, r_var, r_c, r_bl, r_tr, r_not, r_andB, r_orB, r_andV, r_notV, r_ifE, r_chain, r_lst, r_tup, r_sz, r_own, r_def, r_seqOf, r_lc, r_app, r_fld, r_meth, r_peek, r_enum, szOk, blOf, truD, seqOf, wipeS, lfts, bndo, bnde, getz, getS, setz, setS, List.map_cons, List.map_nil, List.cons_append, List.nil_append, List.replicate, List.length_cons, List.length_nil, if_true, gInt, gTuple, gLen, Nat.reduceAdd, Nat.reduceLeDiff, giName, r_orV, r_slT, r_slL, r_part, r_noPart, gAdd_int, gSub_int, gLt_int, gLe_int, gGt_int, gGe_int, gNeg_int, gEq_int, gNe_int, gMod_int, gDiv_int, gMul_r, ixL0, ixL1, ixL2, ixL3, ixL4, ixL5, ixL6, ixL7, ixL8, ixL9, ixL10, ixL11, ixL12, ixL13, ixT0, ixT1, ixT2, ixT3, ixT4, ixT5, ixT6, ixT7, ixT8, ixT9, ixT10, and_self, Int.cast_ofNat_Int, Int.reduceEq, decide_true, decide_false, Bool.not_true, Bool.not_false, nums_length, isi_ii, gAbs_int, Int.reduceAdd, Int.reduceSub, Int.reduceMul, Int.reduceNeg, Int.reduceLT, Int.reduceLE, r_ixO, r_trO, r_pop, r_rev, r_opN, r_ext, r_setIx, r_ch3, r_star, starOf, r_lc2, r_revT, r_notT, Option.map_some, List.isEmpty_cons, List.isEmpty_nil, spD, h1, h2] <;> rfl, _, rfl⟩
          cases q : inS t a with
          | false => rfl
          | true => exact absurd (inS_iff.mp q).2 h2
      · refine .inr ⟨?_, _, by simp only [r_seq, r_ex, r_set, r_setN, r_drop, r_ret, r_if, r_frz, r_frzS, r_next, r_op, r_fun1, r_call, r_callN, r_cons, r_nil, r_var, r_c, r_bl, r_tr, r_not, r_andB, r_orB, r_andV, r_notV, r_ifE, r_chain, r_lst, r_tup, r_sz, r_own, r_def, r_seqOf, r_lc, r_app, r_fld, r_meth, r_peek, r_enum, szOk, blOf, truD, seqOf, wipeS, lfts, bndo, bnde, getz, getS, setz, setS, List.map_cons, List.map_nil, List.cons_append, List.nil_append, List.replicate, List.length_cons, List.length_nil, if_true, gInt, gTuple, gLen, Nat.reduceAdd, Nat.reduceLeDiff, giName, r_orV, r_slT, r_slL, r_part, r_noPart, gAdd_int, gSub_int, gLt_int, gLe_int, gGt_int, gGe_int, gNeg_int, gEq_int, gNe_int, gMod_int, gDiv_int, gMul_r, ixL0, ixL1, ixL2, ixL3, ixL4, ixL5, ixL6, ixL7, ixL8, ixL9, ixL10, ixL11, ixL12, ixL13, ixT0, ixT1, ixT2, ixT3, ixT4, ixT5, ixT6, ixT7, ixT8, ixT9, ixT10, and_self, Int.cast_ofNat_Int, Int.reduceEq, decide_true, decide_false, Bool.not_true, Bool.not_false, nums_length, isi_ii, gAbs_int, Int.reduceAdd, Int.reduceSub, Int.reduceMul, Int.reduceNeg, Int.reduceLT, Int.reduceLE, r_ixO, r_trO, r_pop, r_rev, r_opN, r_ext, r_setIx, r_ch3, r_star, starOf, r_lc2, r_revT, r_notT, Option.map_some, List.isEmpty_cons, List.isEmpty_nil, spD, h1] <;> rfl, _, rfl⟩
        cases q : inS t a with
        | false => rfl
        | true => exact absurd (inS_iff.mp q).1 h1) ⟨_, rfl⟩ with ⟨g1, g2⟩ | ⟨g1, s', g2, y, rfl⟩
  · change hitS l t = true at g1
    rw [g1]
    change loopF _ _ (spsD l) _ = _ at g2
    rcases hx with rfl | rfl <;> simp only [r_seq, r_ex, r_set, r_setN, r_drop, r_ret, r_if, r_frz, r_frzS, r_next, r_op, r_fun1, r_call, r_callN, r_cons, r_nil, r_var, r_c, r_bl, r_tr, r_not, r_andB, r_orB, r_andV, r_notV, r_ifE, r_chain, r_lst, r_tup, r_sz, r_own, r_def, r_seqOf, r_lc, r_app, r_fld, r_meth, r_peek, r_enum, szOk, blOf, truD, seqOf, wipeS, lfts, bndo, bnde, getz, getS, setz, setS, List.map_cons, List.map_nil, List.cons_append, List.nil_append, List.replicate, List.length_cons, List.length_nil, if_true, gInt, gTuple, gLen, Nat.reduceAdd, Nat.reduceLeDiff, giName, r_orV, r_slT, r_slL, r_part, r_noPart, gAdd_int, gSub_int, gLt_int, gLe_int, gGt_int, gGe_int, gNeg_int, gEq_int, gNe_int, gMod_int, gDiv_int, gMul_r, ixL0, ixL1, ixL2, ixL3, ixL4, ixL5, ixL6, ixL7, ixL8, ixL9, ixL10, ixL11, ixL12, ixL13, ixT0, ixT1, ixT2, ixT3, ixT4, ixT5, ixT6, ixT7, ixT8, ixT9, ixT10, and_self, Int.cast_ofNat_Int, Int.reduceEq, decide_true, decide_false, Bool.not_true, Bool.not_false, nums_length, isi_ii, gAbs_int, Int.reduceAdd, Int.reduceSub, Int.reduceMul, Int.reduceNeg, Int.reduceLT, Int.reduceLE, r_ixO, r_trO, r_pop, r_rev, r_opN, r_ext, r_setIx, r_ch3, r_star, starOf, r_lc2, r_revT, r_notT, Option.map_some, List.isEmpty_cons, List.isEmpty_nil, r_for, g2]
  · change hitS l t = false at g1
    rw [g1]
    change loopF _ _ (spsD l) _ = _ at g2
    rcases hx with rfl | rfl <;> simp only [r_seq, r_ex, r_set, r_setN, r_drop, r_ret, r_if, r_frz, r_frzS, r_next, r_op, r_fun1, r_call, r_callN, r_cons, r_nil, r_var, r_c, r_bl, r_tr, r_not, r_andB, r_orB, r_andV, r_notV, r_ifE, r_chain, r_lst, r_tup, r_sz, r_own, r_def, r_seqOf, r_lc, r_app, r_fld, r_meth, r_peek, r_enum, szOk, blOf, truD, seqOf, wipeS, lfts, bndo, bnde, getz, getS, setz, setS, List.map_cons, List.map_nil, List.cons_append, List.nil_append, List.replicate, List.length_cons, List.length_nil, if_true, gInt, gTuple, gLen, Nat.reduceAdd, Nat.reduceLeDiff, giName, r_orV, r_slT, r_slL, r_part, r_noPart, gAdd_int, gSub_int, gLt_int, gLe_int, gGt_int, gGe_int, gNeg_int, gEq_int, gNe_int, gMod_int, gDiv_int, gMul_r, ixL0, ixL1, ixL2, ixL3, ixL4, ixL5, ixL6, ixL7, ixL8, ixL9, ixL10, ixL11, ixL12, ixL13, ixT0, ixT1, ixT2, ixT3, ixT4, ixT5, ixT6, ixT7, ixT8, ixT9, ixT10, and_self, Int.cast_ofNat_Int, Int.reduceEq, decide_true, decide_false, Bool.not_true, Bool.not_false, nums_length, isi_ii, gAbs_int, Int.reduceAdd, Int.reduceSub, Int.reduceMul, Int.reduceNeg, Int.reduceLT, Int.reduceLE, r_ixO, r_trO, r_pop, r_rev, r_opN, r_ext, r_setIx, r_ch3, r_star, starOf, r_lc2, r_revT, r_notT, Option.map_some, List.isEmpty_cons, List.isEmpty_nil, r_for, g2]
theorem at_hitL (c : Cl) (l : List Seg) (t : Int) : G__law_hit c [.lst (spsD l), .int t] = some (.ok (.bl (hitS l t))) := hit_of c l _ t (.inr rfl)
theorem at_hitT (c : Cl) (l : List Seg) (t : Int) : G__law_hit c [.tup (spsD l), .int t] = some (.ok (.bl (hitS l t))) := hit_of c l _ t (.inl rfl)
theorem isi_it (l : List D) : gIsi "tuple" (.tup l) = some (.bl true) := (rfl)
theorem tidy_loop (S : Sl) (lo hi : Int) : ∀ (l : List Seg) (x : Int) (y : Sl), TidyF (x + 1) l → (∀ s ∈ l, s.2 ≤ hi) → ∃ x' y', loopF (giName 4) (fSeq (fIfS (fOrB (fNot (fTr (fun1 (gIsi "tuple") (fVar 4)))) (fBl (fop gNe (fcall gLen (fCons (fVar 4) fNil)) (fC (.int 2))))) (fRet (fC (.bl false))) fNext) (fSeq (fIfS (fOrB (fNot (fTr (fun1 (gIsi "int") (fop gIx (fVar 4) (fC (.int 0)))))) (fNot (fTr (fun1 (gIsi "int") (fop gIx (fVar 4) (fC (.int 1))))))) (fRet (fC (.bl false))) fNext) (fSeq (fIfS (fOrB (fBl (fop gLe (fop gIx (fVar 4) (fC (.int 0))) (fVar 3))) (fOrB (fBl (fop gLe (fop gIx (fVar 4) (fC (.int 1))) (fop gIx (fVar 4) (fC (.int 0))))) (fBl (fop gGt (fop gIx (fVar 4) (fC (.int 1))) (fVar 2))))) (fRet (fC (.bl false))) fNext) (fSet 3 (fop gIx (fVar 4) (fC (.int 1))))))) (spsD l) [S, .d (.int lo), .d (.int hi), .d (.int x), y] = some (.nx [S, .d (.int lo), .d (.int hi), .d (.int x'), y'])
  | [], x, y, _, _ => ⟨x, y, rfl⟩
  | s :: r, x, y, ⟨h1, h2, h3⟩, hb => by
    obtain ⟨x', y', ih⟩ := tidy_loop S lo hi r s.2 (.d (spD s)) h3 fun u hu => hb u (List.mem_cons_of_mem _ hu)
    have h4 := hb s (List.mem_cons_self ..)
    refine ⟨x', y', ?_⟩
    show loopF _ _ (spD s :: spsD r) _ = _
    rw [loopC, ← ih]
    have n1 : ¬ s.1 ≤ x := by omega
    have n2 : ¬ s.2 ≤ s.1 := by omega
    have n3 : ¬ hi < s.2 := by omega
    have en : gNe (.int (2 : Nat)) (.int 2) = some (.bl false) := gNe_int 2 2
    simp only [spD, r_seq, r_ex, r_set, r_setN, r_drop, r_ret, r_if, r_frz, r_frzS, r_next, r_op, r_fun1, r_call, r_callN, r_cons, r_nil, r_var, r_c, r_bl, r_tr, r_not, r_andB, r_orB, r_andV, r_notV, r_ifE, r_chain, r_lst, r_tup, r_sz, r_own, r_def, r_seqOf, r_lc, r_app, r_fld, r_meth, r_peek, r_enum, szOk, blOf, truD, seqOf, wipeS, lfts, bndo, bnde, getz, getS, setz, setS, List.map_cons, List.map_nil, List.cons_append, List.nil_append, List.replicate, List.length_cons, List.length_nil, if_true, gInt, gTuple, gLen, Nat.reduceAdd, Nat.reduceLeDiff, giName, r_orV, r_slT, r_slL, r_part, r_noPart, gAdd_int, gSub_int, gLt_int, gLe_int, gGt_int, gGe_int, gNeg_int, gEq_int, gNe_int, gMod_int, gDiv_int, gMul_r, ixL0, ixL1, ixL2, ixL3, ixL4, ixL5, ixL6, ixL7, ixL8, ixL9, ixL10, ixL11, ixL12, ixL13, ixT0, ixT1, ixT2, ixT3, ixT4, ixT5, ixT6, ixT7, ixT8, ixT9, ixT10, and_self, Int.cast_ofNat_Int, Int.reduceEq, decide_true, decide_false, Bool.not_true, Bool.not_false, nums_length, isi_ii, gAbs_int, Int.reduceAdd, Int.reduceSub, Int.reduceMul, Int.reduceNeg, Int.reduceLT, Int.reduceLE, r_ixO, r_trO, r_pop, r_rev, r_opN, r_ext, r_setIx, r_ch3, r_star, starOf, r_lc2, r_revT, r_notT, Option.map_some, List.isEmpty_cons, List.isEmpty_nil, isi_it, n1, n2, n3, en] <;> rfl
theorem at_tidy (c : Cl) (l : List Seg) (lo hi : Int) (h : TidyF lo l) (hb : ∀ s ∈ l, s.2 ≤ hi) : G__law_tidy c [.tup (spsD l), .int lo, .int hi] = some (.ok (.bl true)) := by
  obtain ⟨x', y', ih⟩ := tidy_loop (.d (.tup (spsD l))) lo hi l (lo - 1) .no (by rw [Int.sub_add_cancel]; exact h) hb
  refine def_rt ?_
  show F__law_tidy c [.d (.tup (spsD l)), .d (.int lo), .d (.int hi), .no, .no] = _
  unfold F__law_tidy
  simp only [r_seq, r_ex, r_set, r_setN, r_drop, r_ret, r_if, r_frz, r_frzS, r_next, r_op, r_fun1, r_call, r_callN, r_cons, r_nil, r_var, r_c, r_bl, r_tr, r_not, r_andB, r_orB, r_andV, r_notV, r_ifE, r_chain, r_lst, r_tup, r_sz, r_own, r_def, r_seqOf, r_lc, r_app, r_fld, r_meth, r_peek, r_enum, szOk, blOf, truD, seqOf, wipeS, lfts, bndo, bnde, getz, getS, setz, setS, List.map_cons, List.map_nil, List.cons_append, List.nil_append, List.replicate, List.length_cons, List.length_nil, if_true, gInt, gTuple, gLen, Nat.reduceAdd, Nat.reduceLeDiff, giName, r_orV, r_slT, r_slL, r_part, r_noPart, gAdd_int, gSub_int, gLt_int, gLe_int, gGt_int, gGe_int, gNeg_int, gEq_int, gNe_int, gMod_int, gDiv_int, gMul_r, ixL0, ixL1, ixL2, ixL3, ixL4, ixL5, ixL6, ixL7, ixL8, ixL9, ixL10, ixL11, ixL12, ixL13, ixT0, ixT1, ixT2, ixT3, ixT4, ixT5, ixT6, ixT7, ixT8, ixT9, ixT10, and_self, Int.cast_ofNat_Int, Int.reduceEq, decide_true, decide_false, Bool.not_true, Bool.not_false, nums_length, isi_ii, gAbs_int, Int.reduceAdd, Int.reduceSub, Int.reduceMul, Int.reduceNeg, Int.reduceLT, Int.reduceLE, r_ixO, r_trO, r_pop, r_rev, r_opN, r_ext, r_setIx, r_ch3, r_star, starOf, r_lc2, r_revT, r_notT, Option.map_some, List.isEmpty_cons, List.isEmpty_nil, isi_it, r_for, ih]
theorem row_loop (S0 S1 : Sl) (ds : List Int) (hd : ds.length = 10) (hb : ∀ j, 1 ≤ j → j < 9 → 0 ≤ ds.getD j 0 ∧ ds.getD j 0 < 100) (n : Nat) (hn : n ≤ 4) (p0 : Int) :
    ∃ s', loopF (giName 5) (fSeq (fSet 6 (fop gAdd (fVar 4) (fop gMul (fop gIx (fVar 2) (fop gAdd (fC (.int 1)) (fop gMul (fC (.int 2)) (fVar 5)))) (fcall gInt (fCons (fop gAdd (fC (.int 1)) (fop gDiv (fop gIx (fVar 2) (fop gAdd (fC (.int 2)) (fop gMul (fC (.int 2)) (fVar 5)))) (fC (.int 3)))) fNil))))) (fSeq (fApp 3 (fTup (fCons (fcall gMax (fCons (fC (.int 0)) (fCons (fVar 6) fNil))) (fCons (fop gAdd (fop gAdd (fcall gMax (fCons (fC (.int 0)) (fCons (fVar 6) fNil))) (fC (.int 1))) (fop gIx (fVar 2) (fop gAdd (fC (.int 2)) (fop gMul (fC (.int 2)) (fVar 5))))) fNil)))) (fSet 4 (fop gAdd (fVar 6) (fop gIx (fVar 2) (fop gAdd (fC (.int 2)) (fop gMul (fC (.int 2)) (fVar 5)))))))) ((List.range n).map fun k => .int (k : Nat)) [S0, S1, .d (.lst (nums ds)), .own [], .d (.int p0), .no, .no, .no] = some (.nx s') ∧ ∃ (rows : List Seg) (p : Int) (a b : Sl), s' = [S0, S1, .d (.lst (nums ds)), .own (spsD rows), .d (.int p), a, b, .no] ∧ rows.length = n ∧ ∀ s ∈ rows, 0 ≤ s.1 ∧ s.1 < s.2 := by
  refine loop_rng (fun k => .int (k : Nat)) n (fun i s' => ∃ (rows : List Seg) (p : Int) (a b : Sl), s' = [S0, S1, .d (.lst (nums ds)), .own (spsD rows), .d (.int p), a, b, .no] ∧ rows.length = i ∧ ∀ s ∈ rows, 0 ≤ s.1 ∧ s.1 < s.2) _ ?_ ⟨[], p0, .no, .no, rfl, rfl, fun s h => absurd h List.not_mem_nil⟩
  rintro i s hi ⟨rows, p, a, b, rfl, hr, hok⟩
  have g1 := gIx_lints (l := ds) (i := 1 + 2 * (i : Int)) (by omega) (by rw [hd]; omega)
  have g2 := gIx_lints (l := ds) (i := 2 + 2 * (i : Int)) (by omega) (by rw [hd]; omega)
  have b1 := hb (1 + 2 * (i : Int)).toNat (by omega) (by omega)
  have b2 := hb (2 + 2 * (i : Int)).toNat (by omega) (by omega)
  generalize ds.getD (1 + 2 * (i : Int)).toNat 0 = u at g1 b1
  generalize ds.getD (2 + 2 * (i : Int)).toNat 0 = v at g2 b2
  have hq : 0 ≤ v / 3 ∧ v / 3 ≤ 100 := ⟨by omega, by omega⟩
  have m1 : gMul (.int 2) (.int (i : Int)) = some (.int (2 * (i : Int))) := gMul_l (by decide) (by decide)
  have hlen : (spsD rows).length < 100000 := by rw [spsD_len]; omega
  have fin : ∀ begin : Int, ∃ w : Seg, (0 ≤ w.1 ∧ w.1 < w.2) ∧ D.tup [.int (if begin > 0 then begin else 0), .int ((if begin > 0 then begin else 0) + 1 + v)] = spD w := fun begin => ⟨(if begin > 0 then begin else 0, (if begin > 0 then begin else 0) + 1 + v), by
    refine ⟨?_, ?_⟩ <;> show _ <;> dsimp only <;> split <;> omega, rfl⟩
  obtain ⟨w, hw, ew⟩ := fin (p + u * (1 + v / 3))
  refine ⟨_, [S0, S1, .d (.lst (nums ds)), .own (spsD rows ++ [spD w]), .d (.int (p + u * (1 + v / 3) + v)), .d (.int (i : Int)), .d (.int (p + u * (1 + v / 3))), .no], rfl, ?_, rows ++ [w], _, _, _, by rw [spsD_app]; rfl, by rw [List.length_append, hr]; rfl, fun s hs => ?_⟩
  · rw [← ew]
    simp (disch := omega) only [r_seq, r_ex, r_set, r_setN, r_drop, r_ret, r_if, r_frz, r_frzS, r_next, r_op, r_fun1, r_call, r_callN, r_cons, r_nil, r_var, r_c, r_bl, r_tr, r_not, r_andB, r_orB, r_andV, r_notV, r_ifE, r_chain, r_lst, r_tup, r_sz, r_own, r_def, r_seqOf, r_lc, r_app, r_fld, r_meth, r_peek, r_enum, szOk, blOf, truD, seqOf, wipeS, lfts, bndo, bnde, getz, getS, setz, setS, List.map_cons, List.map_nil, List.cons_append, List.nil_append, List.replicate, List.length_cons, List.length_nil, if_true, gInt, gTuple, gLen, Nat.reduceAdd, Nat.reduceLeDiff, giName, r_orV, r_slT, r_slL, r_part, r_noPart, gAdd_int, gSub_int, gLt_int, gLe_int, gGt_int, gGe_int, gNeg_int, gEq_int, gNe_int, gMod_int, gDiv_int, gMul_r, ixL0, ixL1, ixL2, ixL3, ixL4, ixL5, ixL6, ixL7, ixL8, ixL9, ixL10, ixL11, ixL12, ixL13, ixT0, ixT1, ixT2, ixT3, ixT4, ixT5, ixT6, ixT7, ixT8, ixT9, ixT10, and_self, Int.cast_ofNat_Int, Int.reduceEq, decide_true, decide_false, Bool.not_true, Bool.not_false, nums_length, isi_ii, gAbs_int, Int.reduceAdd, Int.reduceSub, Int.reduceMul, Int.reduceNeg, Int.reduceLT, Int.reduceLE, r_ixO, r_trO, r_pop, r_rev, r_opN, r_ext, r_setIx, r_ch3, r_star, starOf, r_lc2, r_revT, r_notT, Option.map_some, List.isEmpty_cons, List.isEmpty_nil, m1, g1, g2, gMax0, hlen] <;> rfl
  · rcases List.mem_append.mp hs with e | e
    · exact hok s e
    · rw [List.mem_singleton.mp e]; exact hw
/-! ### first_behind, cut, gaps, common -/
theorem gIx_sps {l : List Seg} {i : Nat} {s : Seg} (x : D) (hx : x = .tup (spsD l) ∨ x = .lst (spsD l)) (h : l[i]? = some s) : gIx x (.int i) = some (spD s) := by
  have hi : i < (spsD l).length := by rw [spsD_len]; exact (List.getElem?_eq_some_iff.mp h).1
  have e : atI (spsD l) (i : Int) = some (spD s) := by
    rw [atI_nat hi]
    unfold spsD
    rw [List.getElem?_map, h]
    rfl
  rcases hx with rfl | rfl <;> exact e
theorem gLen_sps {l : List Seg} (x : D) (hx : x = .tup (spsD l) ∨ x = .lst (spsD l)) : gLen [x] = some (.int (l.length : Nat)) := by
  rcases hx with rfl | rfl <;> (show some (D.int ((spsD l).length : Nat)) = _; rw [spsD_len])
theorem behind_loop (x : D) (t : Int) (A R : List Seg) (hx : x = .tup (spsD (A ++ R)) ∨ x = .lst (spsD (A ++ R))) (hA : ∀ s ∈ A, s.2 ≤ t) (hR : ∀ s ∈ R, t < s.2) (lo hi : Nat) (y : Sl) (h1 : lo ≤ A.length) (h2 : A.length ≤ hi) (h3 : hi ≤ (A ++ R).length) (fuel : Nat) (hf : hi - lo < fuel) :
    ∃ y', whileF (fBl (fop gLt (fVar 2) (fVar 3))) (fSeq (fSet 4 (fop gDiv (fop gAdd (fVar 2) (fVar 3)) (fC (.int 2)))) (fIfS (fBl (fop gGt (fop gIx (fop gIx (fVar 0) (fVar 4)) (fC (.int 1))) (fVar 1))) (fSet 3 (fVar 4)) (fSet 2 (fop gAdd (fVar 4) (fC (.int 1)))))) fuel [.d x, .d (.int t), .d (.int (lo : Nat)), .d (.int (hi : Nat)), y] = some (.nx [.d x, .d (.int t), .d (.int (A.length : Nat)), .d (.int (A.length : Nat)), y']) := by
  obtain ⟨s', e1, ⟨l1, h1', y1, rfl, a1, a2, a3⟩, e3⟩ := while_rel (t := (fBl (fop gLt (fVar 2) (fVar 3)))) (b := (fSeq (fSet 4 (fop gDiv (fop gAdd (fVar 2) (fVar 3)) (fC (.int 2)))) (fIfS (fBl (fop gGt (fop gIx (fop gIx (fVar 0) (fVar 4)) (fC (.int 1))) (fVar 1))) (fSet 3 (fVar 4)) (fSet 2 (fop gAdd (fVar 4) (fC (.int 1)))))))
    (fun s => ∃ (l h : Nat) (y : Sl), s = [.d x, .d (.int t), .d (.int (l : Nat)), .d (.int (h : Nat)), y] ∧ l ≤ A.length ∧ A.length ≤ h ∧ h ≤ (A ++ R).length)
    (fun (s : PS1) => match (s[2]? : Option Sl), (s[3]? : Option Sl) with
      | some (.d (.int l)), some (.d (.int h)) => (h - l).toNat
      | _, _ => 0) (fun s ⟨l, h, y, hs, b1, b2, b3⟩ => by
      subst hs
      by_cases q : l < h
      · right
        have hm : (l + h) / 2 < (A ++ R).length := by omega
        obtain ⟨s, hs⟩ : ∃ s, (A ++ R)[(l + h) / 2]? = some s := ⟨_, List.getElem?_eq_getElem hm⟩
        have ix := gIx_sps x hx hs
        have ed : ((l : Int) + (h : Int)) / 2 = (((l + h) / 2 : Nat) : Int) := by omega
        have e0 : gDiv (.int ((l : Int) + (h : Int))) (.int 2) = some (.int (((l + h) / 2 : Nat) : Int)) := by rw [gDiv_int (by decide) (by decide), ed]
        have et : ((l : Int) < (h : Int)) := by omega
        by_cases g : t < s.2
        · have hA' : A.length ≤ (l + h) / 2 := by
            rcases Nat.lt_or_ge ((l + h) / 2) A.length with w | w
            · rw [List.getElem?_append_left w] at hs
              have := hA s (List.mem_of_getElem? hs)
              omega
            · exact w
          refine ⟨[.d x, .d (.int t), .d (.int (l : Nat)), .d (.int (((l + h) / 2 : Nat) : Nat)), .d (.int (((l + h) / 2 : Nat) : Nat))], by simp only [r_seq, r_ex, r_set, r_setN, r_drop, r_ret, r_if, r_frz, r_frzS, r_next, r_op, r_fun1, r_call, r_callN, r_cons, r_nil, r_var, r_c, r_bl, r_tr, r_not, r_andB, r_orB, r_andV, r_notV, r_ifE, r_chain, r_lst, r_tup, r_sz, r_own, r_def, r_seqOf, r_lc, r_app, r_fld, r_meth, r_peek, r_enum, szOk, blOf, truD, seqOf, wipeS, lfts, bndo, bnde, getz, getS, setz, setS, List.map_cons, List.map_nil, List.cons_append, List.nil_append, List.replicate, List.length_cons, List.length_nil, if_true, gInt, gTuple, gLen, Nat.reduceAdd, Nat.reduceLeDiff, giName, r_orV, r_slT, r_slL, r_part, r_noPart, gAdd_int, gSub_int, gLt_int, gLe_int, gGt_int, gGe_int, gNeg_int, gEq_int, gNe_int, gMod_int, gDiv_int, gMul_r, ixL0, ixL1, ixL2, ixL3, ixL4, ixL5, ixL6, ixL7, ixL8, ixL9, ixL10, ixL11, ixL12, ixL13, ixT0, ixT1, ixT2, ixT3, ixT4, ixT5, ixT6, ixT7, ixT8, ixT9, ixT10, and_self, Int.cast_ofNat_Int, Int.reduceEq, decide_true, decide_false, Bool.not_true, Bool.not_false, nums_length, isi_ii, gAbs_int, Int.reduceAdd, Int.reduceSub, Int.reduceMul, Int.reduceNeg, Int.reduceLT, Int.reduceLE, r_ixO, r_trO, r_pop, r_rev, r_opN, r_ext, r_setIx, r_ch3, r_star, starOf, r_lc2, r_revT, r_notT, Option.map_some, List.isEmpty_cons, List.isEmpty_nil, et], by simp only [r_seq, r_ex, r_set, r_setN, r_drop, r_ret, r_if, r_frz, r_frzS, r_next, r_op, r_fun1, r_call, r_callN, r_cons, r_nil, r_var, r_c, r_bl, r_tr, r_not, r_andB, r_orB, r_andV, r_notV, r_ifE, r_chain, r_lst, r_tup, r_sz, r_own, r_def, r_seqOf, r_lc, r_app, r_fld, r_meth, r_peek, r_enum, szOk, blOf, truD, seqOf, wipeS, lfts, bndo, bnde, getz, getS, setz, setS, List.map_cons, List.map_nil, List.cons_append, List.nil_append, List.replicate, List.length_cons, List.length_nil, if_true, gInt, gTuple, gLen, Nat.reduceAdd, Nat.reduceLeDiff, giName, r_orV, r_slT, r_slL, r_part, r_noPart, gAdd_int, gSub_int, gLt_int, gLe_int, gGt_int, gGe_int, gNeg_int, gEq_int, gNe_int, gMod_int, gDiv_int, gMul_r, ixL0, ixL1, ixL2, ixL3, ixL4, ixL5, ixL6, ixL7, ixL8, ixL9, ixL10, ixL11, ixL12, ixL13, ixT0, ixT1, ixT2, ixT3, ixT4, ixT5, ixT6, ixT7, ixT8, ixT9, ixT10, and_self, Int.cast_ofNat_Int, Int.reduceEq, decide_true, decide_false, Bool.not_true, Bool.not_false, nums_length, isi_ii, gAbs_int, Int.reduceAdd, Int.reduceSub, Int.reduceMul, Int.reduceNeg, Int.reduceLT, Int.reduceLE, r_ixO, r_trO, r_pop, r_rev, r_opN, r_ext, r_setIx, r_ch3, r_star, starOf, r_lc2, r_revT, r_notT, Option.map_some, List.isEmpty_cons, List.isEmpty_nil, e0, ix, spD, g], ⟨l, (l + h) / 2, _, rfl, b1, hA', by omega⟩, ?_⟩
          show ((((l + h) / 2 : Nat) : Int) - (l : Int)).toNat < ((h : Int) - (l : Int)).toNat
          omega
        · have hA' : (l + h) / 2 < A.length := by
            rcases Nat.lt_or_ge ((l + h) / 2) A.length with w | w
            · exact w
            · rw [List.getElem?_append_right w] at hs
              have := hR s (List.mem_of_getElem? hs)
              omega
          refine ⟨[.d x, .d (.int t), .d (.int (((l + h) / 2 + 1 : Nat) : Nat)), .d (.int (h : Nat)), .d (.int (((l + h) / 2 : Nat) : Nat))], by simp only [r_seq, r_ex, r_set, r_setN, r_drop, r_ret, r_if, r_frz, r_frzS, r_next, r_op, r_fun1, r_call, r_callN, r_cons, r_nil, r_var, r_c, r_bl, r_tr, r_not, r_andB, r_orB, r_andV, r_notV, r_ifE, r_chain, r_lst, r_tup, r_sz, r_own, r_def, r_seqOf, r_lc, r_app, r_fld, r_meth, r_peek, r_enum, szOk, blOf, truD, seqOf, wipeS, lfts, bndo, bnde, getz, getS, setz, setS, List.map_cons, List.map_nil, List.cons_append, List.nil_append, List.replicate, List.length_cons, List.length_nil, if_true, gInt, gTuple, gLen, Nat.reduceAdd, Nat.reduceLeDiff, giName, r_orV, r_slT, r_slL, r_part, r_noPart, gAdd_int, gSub_int, gLt_int, gLe_int, gGt_int, gGe_int, gNeg_int, gEq_int, gNe_int, gMod_int, gDiv_int, gMul_r, ixL0, ixL1, ixL2, ixL3, ixL4, ixL5, ixL6, ixL7, ixL8, ixL9, ixL10, ixL11, ixL12, ixL13, ixT0, ixT1, ixT2, ixT3, ixT4, ixT5, ixT6, ixT7, ixT8, ixT9, ixT10, and_self, Int.cast_ofNat_Int, Int.reduceEq, decide_true, decide_false, Bool.not_true, Bool.not_false, nums_length, isi_ii, gAbs_int, Int.reduceAdd, Int.reduceSub, Int.reduceMul, Int.reduceNeg, Int.reduceLT, Int.reduceLE, r_ixO, r_trO, r_pop, r_rev, r_opN, r_ext, r_setIx, r_ch3, r_star, starOf, r_lc2, r_revT, r_notT, Option.map_some, List.isEmpty_cons, List.isEmpty_nil, et], by simp only [r_seq, r_ex, r_set, r_setN, r_drop, r_ret, r_if, r_frz, r_frzS, r_next, r_op, r_fun1, r_call, r_callN, r_cons, r_nil, r_var, r_c, r_bl, r_tr, r_not, r_andB, r_orB, r_andV, r_notV, r_ifE, r_chain, r_lst, r_tup, r_sz, r_own, r_def, r_seqOf, r_lc, r_app, r_fld, r_meth, r_peek, r_enum, szOk, blOf, truD, seqOf, wipeS, lfts, bndo, bnde, getz, getS, setz, setS, List.map_cons, List.map_nil, List.cons_append, List.nil_append, List.replicate, List.length_cons, List.length_nil, if_true, gInt, gTuple, gLen, Nat.reduceAdd, Nat.reduceLeDiff, giName, r_orV, r_slT, r_slL, r_part, r_noPart, gAdd_int, gSub_int, gLt_int, gLe_int, gGt_int, gGe_int, gNeg_int, gEq_int, gNe_int, gMod_int, gDiv_int, gMul_r, ixL0, ixL1, ixL2, ixL3, ixL4, ixL5, ixL6, ixL7, ixL8, ixL9, ixL10, ixL11, ixL12, ixL13, ixT0, ixT1, ixT2, ixT3, ixT4, ixT5, ixT6, ixT7, ixT8, ixT9, ixT10, and_self, Int.cast_ofNat_Int, Int.reduceEq, decide_true, decide_false, Bool.not_true, Bool.not_false, nums_length, isi_ii, gAbs_int, Int.reduceAdd, Int.reduceSub, Int.reduceMul, Int.reduceNeg, Int.reduceLT, Int.reduceLE, r_ixO, r_trO, r_pop, r_rev, r_opN, r_ext, r_setIx, r_ch3, r_star, starOf, r_lc2, r_revT, r_notT, Option.map_some, List.isEmpty_cons, List.isEmpty_nil, e0, ix, spD, g] <;> rfl, ⟨(l + h) / 2 + 1, h, _, rfl, by omega, b2, b3⟩, ?_⟩
          show ((h : Int) - (((l + h) / 2 + 1 : Nat) : Int)).toNat < ((h : Int) - (l : Int)).toNat
          omega
      · left
        have et : ¬ ((l : Int) < (h : Int)) := by omega
        simp only [r_seq, r_ex, r_set, r_setN, r_drop, r_ret, r_if, r_frz, r_frzS, r_next, r_op, r_fun1, r_call, r_callN, r_cons, r_nil, r_var, r_c, r_bl, r_tr, r_not, r_andB, r_orB, r_andV, r_notV, r_ifE, r_chain, r_lst, r_tup, r_sz, r_own, r_def, r_seqOf, r_lc, r_app, r_fld, r_meth, r_peek, r_enum, szOk, blOf, truD, seqOf, wipeS, lfts, bndo, bnde, getz, getS, setz, setS, List.map_cons, List.map_nil, List.cons_append, List.nil_append, List.replicate, List.length_cons, List.length_nil, if_true, gInt, gTuple, gLen, Nat.reduceAdd, Nat.reduceLeDiff, giName, r_orV, r_slT, r_slL, r_part, r_noPart, gAdd_int, gSub_int, gLt_int, gLe_int, gGt_int, gGe_int, gNeg_int, gEq_int, gNe_int, gMod_int, gDiv_int, gMul_r, ixL0, ixL1, ixL2, ixL3, ixL4, ixL5, ixL6, ixL7, ixL8, ixL9, ixL10, ixL11, ixL12, ixL13, ixT0, ixT1, ixT2, ixT3, ixT4, ixT5, ixT6, ixT7, ixT8, ixT9, ixT10, and_self, Int.cast_ofNat_Int, Int.reduceEq, decide_true, decide_false, Bool.not_true, Bool.not_false, nums_length, isi_ii, gAbs_int, Int.reduceAdd, Int.reduceSub, Int.reduceMul, Int.reduceNeg, Int.reduceLT, Int.reduceLE, r_ixO, r_trO, r_pop, r_rev, r_opN, r_ext, r_setIx, r_ch3, r_star, starOf, r_lc2, r_revT, r_notT, Option.map_some, List.isEmpty_cons, List.isEmpty_nil, et]) fuel [.d x, .d (.int t), .d (.int (lo : Nat)), .d (.int (hi : Nat)), y] ⟨lo, hi, y, rfl, h1, h2, h3⟩ (by show ((hi : Int) - (lo : Int)).toNat < fuel; omega)
  have e4 : ¬ ((l1 : Int) < (h1' : Int)) := fun q => by
    simp only [r_seq, r_ex, r_set, r_setN, r_drop, r_ret, r_if, r_frz, r_frzS, r_next, r_op, r_fun1, r_call, r_callN, r_cons, r_nil, r_var, r_c, r_bl, r_tr, r_not, r_andB, r_orB, r_andV, r_notV, r_ifE, r_chain, r_lst, r_tup, r_sz, r_own, r_def, r_seqOf, r_lc, r_app, r_fld, r_meth, r_peek, r_enum, szOk, blOf, truD, seqOf, wipeS, lfts, bndo, bnde, getz, getS, setz, setS, List.map_cons, List.map_nil, List.cons_append, List.nil_append, List.replicate, List.length_cons, List.length_nil, if_true, gInt, gTuple, gLen, Nat.reduceAdd, Nat.reduceLeDiff, giName, r_orV, r_slT, r_slL, r_part, r_noPart, gAdd_int, gSub_int, gLt_int, gLe_int, gGt_int, gGe_int, gNeg_int, gEq_int, gNe_int, gMod_int, gDiv_int, gMul_r, ixL0, ixL1, ixL2, ixL3, ixL4, ixL5, ixL6, ixL7, ixL8, ixL9, ixL10, ixL11, ixL12, ixL13, ixT0, ixT1, ixT2, ixT3, ixT4, ixT5, ixT6, ixT7, ixT8, ixT9, ixT10, and_self, Int.cast_ofNat_Int, Int.reduceEq, decide_true, decide_false, Bool.not_true, Bool.not_false, nums_length, isi_ii, gAbs_int, Int.reduceAdd, Int.reduceSub, Int.reduceMul, Int.reduceNeg, Int.reduceLT, Int.reduceLE, r_ixO, r_trO, r_pop, r_rev, r_opN, r_ext, r_setIx, r_ch3, r_star, starOf, r_lc2, r_revT, r_notT, Option.map_some, List.isEmpty_cons, List.isEmpty_nil, q] at e3
    cases e3
  have el : l1 = A.length := by omega
  have eh : h1' = A.length := by omega
  subst el
  subst eh
  exact ⟨y1, e1⟩
theorem at_behind (c : Cl) (x : D) (t : Int) (A R : List Seg) (hx : x = .tup (spsD (A ++ R)) ∨ x = .lst (spsD (A ++ R))) (hA : ∀ s ∈ A, s.2 ≤ t) (hR : ∀ s ∈ R, t < s.2) (hl : (A ++ R).length < 200000) : G_first_behind c [x, .int t] = some (.ok (.int (A.length : Nat))) := by
  obtain ⟨y', e⟩ := behind_loop x t A R hx hA hR 0 (A ++ R).length .no (Nat.zero_le _) (by rw [List.length_append]; omega) (Nat.le_refl _) 200000 (by omega)
  refine def_rt ?_
  show F_first_behind c [.d x, .d (.int t), .no, .no, .no] = _
  unfold F_first_behind fWhile
  have el := gLen_sps x hx
  have e0 : ((0 : Nat) : Int) = 0 := rfl
  rw [e0] at e
  refine st (s' := [.d x, .d (.int t), .d (.int 0), .no, .no]) (by simp only [r_seq, r_ex, r_set, r_setN, r_drop, r_ret, r_if, r_frz, r_frzS, r_next, r_op, r_fun1, r_call, r_callN, r_cons, r_nil, r_var, r_c, r_bl, r_tr, r_not, r_andB, r_orB, r_andV, r_notV, r_ifE, r_chain, r_lst, r_tup, r_sz, r_own, r_def, r_seqOf, r_lc, r_app, r_fld, r_meth, r_peek, r_enum, szOk, blOf, truD, seqOf, wipeS, lfts, bndo, bnde, getz, getS, setz, setS, List.map_cons, List.map_nil, List.cons_append, List.nil_append, List.replicate, List.length_cons, List.length_nil, if_true, gInt, gTuple, gLen, Nat.reduceAdd, Nat.reduceLeDiff, giName, r_orV, r_slT, r_slL, r_part, r_noPart, gAdd_int, gSub_int, gLt_int, gLe_int, gGt_int, gGe_int, gNeg_int, gEq_int, gNe_int, gMod_int, gDiv_int, gMul_r, ixL0, ixL1, ixL2, ixL3, ixL4, ixL5, ixL6, ixL7, ixL8, ixL9, ixL10, ixL11, ixL12, ixL13, ixT0, ixT1, ixT2, ixT3, ixT4, ixT5, ixT6, ixT7, ixT8, ixT9, ixT10, and_self, Int.cast_ofNat_Int, Int.reduceEq, decide_true, decide_false, Bool.not_true, Bool.not_false, nums_length, isi_ii, gAbs_int, Int.reduceAdd, Int.reduceSub, Int.reduceMul, Int.reduceNeg, Int.reduceLT, Int.reduceLE, r_ixO, r_trO, r_pop, r_rev, r_opN, r_ext, r_setIx, r_ch3, r_star, starOf, r_lc2, r_revT, r_notT, Option.map_some, List.isEmpty_cons, List.isEmpty_nil]) ?_
  refine st (s' := [.d x, .d (.int t), .d (.int 0), .d (.int ((A ++ R).length : Nat)), .no]) (by rcases hx with rfl | rfl <;> simp only [r_seq, r_ex, r_set, r_setN, r_drop, r_ret, r_if, r_frz, r_frzS, r_next, r_op, r_fun1, r_call, r_callN, r_cons, r_nil, r_var, r_c, r_bl, r_tr, r_not, r_andB, r_orB, r_andV, r_notV, r_ifE, r_chain, r_lst, r_tup, r_sz, r_own, r_def, r_seqOf, r_lc, r_app, r_fld, r_meth, r_peek, r_enum, szOk, blOf, truD, seqOf, wipeS, lfts, bndo, bnde, getz, getS, setz, setS, List.map_cons, List.map_nil, List.cons_append, List.nil_append, List.replicate, List.length_cons, List.length_nil, if_true, gInt, gTuple, gLen, Nat.reduceAdd, Nat.reduceLeDiff, giName, r_orV, r_slT, r_slL, r_part, r_noPart, gAdd_int, gSub_int, gLt_int, gLe_int, gGt_int, gGe_int, gNeg_int, gEq_int, gNe_int, gMod_int, gDiv_int, gMul_r, ixL0, ixL1, ixL2, ixL3, ixL4, ixL5, ixL6, ixL7, ixL8, ixL9, ixL10, ixL11, ixL12, ixL13, ixT0, ixT1, ixT2, ixT3, ixT4, ixT5, ixT6, ixT7, ixT8, ixT9, ixT10, and_self, Int.cast_ofNat_Int, Int.reduceEq, decide_true, decide_false, Bool.not_true, Bool.not_false, nums_length, isi_ii, gAbs_int, Int.reduceAdd, Int.reduceSub, Int.reduceMul, Int.reduceNeg, Int.reduceLT, Int.reduceLE, r_ixO, r_trO, r_pop, r_rev, r_opN, r_ext, r_setIx, r_ch3, r_star, starOf, r_lc2, r_revT, r_notT, Option.map_some, List.isEmpty_cons, List.isEmpty_nil, spsD_len]) ?_
  refine st e ?_
  simp only [r_seq, r_ex, r_set, r_setN, r_drop, r_ret, r_if, r_frz, r_frzS, r_next, r_op, r_fun1, r_call, r_callN, r_cons, r_nil, r_var, r_c, r_bl, r_tr, r_not, r_andB, r_orB, r_andV, r_notV, r_ifE, r_chain, r_lst, r_tup, r_sz, r_own, r_def, r_seqOf, r_lc, r_app, r_fld, r_meth, r_peek, r_enum, szOk, blOf, truD, seqOf, wipeS, lfts, bndo, bnde, getz, getS, setz, setS, List.map_cons, List.map_nil, List.cons_append, List.nil_append, List.replicate, List.length_cons, List.length_nil, if_true, gInt, gTuple, gLen, Nat.reduceAdd, Nat.reduceLeDiff, giName, r_orV, r_slT, r_slL, r_part, r_noPart, gAdd_int, gSub_int, gLt_int, gLe_int, gGt_int, gGe_int, gNeg_int, gEq_int, gNe_int, gMod_int, gDiv_int, gMul_r, ixL0, ixL1, ixL2, ixL3, ixL4, ixL5, ixL6, ixL7, ixL8, ixL9, ixL10, ixL11, ixL12, ixL13, ixT0, ixT1, ixT2, ixT3, ixT4, ixT5, ixT6, ixT7, ixT8, ixT9, ixT10, and_self, Int.cast_ofNat_Int, Int.reduceEq, decide_true, decide_false, Bool.not_true, Bool.not_false, nums_length, isi_ii, gAbs_int, Int.reduceAdd, Int.reduceSub, Int.reduceMul, Int.reduceNeg, Int.reduceLT, Int.reduceLE, r_ixO, r_trO, r_pop, r_rev, r_opN, r_ext, r_setIx, r_ch3, r_star, starOf, r_lc2, r_revT, r_notT, Option.map_some, List.isEmpty_cons, List.isEmpty_nil]
theorem atI_first {d : D} {xs : List D} : atI (d :: xs) 0 = some d := atI_nat (xs := d :: xs) (k := 0) (by simp)
theorem setIx_first {d e : D} {xs : List D} : setIxD (d :: xs) 0 e = some (e :: xs) := by
  unfold setIxD ixN
  rw [if_pos (by omega), if_pos (by simp)]
  rfl
theorem setIx_one {d e : D} : setIxD [d] (-1) e = some [e] := (rfl)
theorem atI_one {d : D} : atI [d] (-1) = some d := (rfl)
theorem setIx_end {xs : List D} {a d e : D} : setIxD (a :: (xs ++ [d])) (-1) e = some (a :: (xs ++ [e])) := setIx_last (xs := a :: xs)
theorem atI_end {xs : List D} {a d : D} : atI (a :: (xs ++ [d])) (-1) = some d := atI_last (xs := a :: xs)
theorem slA_of (fe : PS1 → Option (R D)) (fl fh : PS1 → Option (R (Option Int))) (s : PS1) (l : List Seg) (x : D) (hx : x = .tup (spsD l) ∨ x = .lst (spsD l)) (p q : Nat) (h1 : fe s = some (.ok x)) (h2 : fl s = some (.ok (some (p : Int)))) (h3 : fh s = some (.ok (some (q : Int)))) (hp : p ≤ l.length) : ∃ y, fSlA fe fl fh s = some (.ok y) ∧ (y = .tup (spsD ((l.drop p).take (q - p))) ∨ y = .lst (spsD ((l.drop p).take (q - p)))) := by
  have e : cutD (spsD l) (some (p : Int)) (some (q : Int)) = spsD ((l.drop p).take (q - p)) := by
    unfold FL.cutD
    rw [HT.sIx_nat, HT.sIx_nat, spsD_len, Nat.min_eq_left hp]
    unfold spsD
    rw [List.map_take, List.map_drop]
    rcases Nat.le_total q l.length with w | w
    · rw [Nat.min_eq_left w]
    · rw [Nat.min_eq_right w, List.take_of_length_le (by rw [List.length_drop, List.length_map]; omega), List.take_of_length_le (by rw [List.length_drop, List.length_map]; omega)]
  rcases hx with rfl | rfl
  · exact ⟨_, slA_T h1 h2 h3, .inl (by rw [e])⟩
  · exact ⟨_, slA_L h1 h2 h3, .inr (by rw [e])⟩
theorem gList_of {x : D} {l : List Seg} (hx : x = .tup (spsD l) ∨ x = .lst (spsD l)) : gList [x] = some (spsD l) := by rcases hx with rfl | rfl <;> rfl
theorem cut_of (c : Cl) (x : D) (l : List Seg) (hx : x = .tup (spsD l) ∨ x = .lst (spsD l)) (a b : Int) (ht : Tidy l) (hl : l.length < 200000) : G_cut c [x, .int a, .int b] = some (.ok (.tup (spsD (cutG a b l)))) := by
  obtain ⟨x0, hx0⟩ := ht
  refine def_rt ?_
  show F_cut c [.d x, .d (.int a), .d (.int b), .no] = _
  unfold F_cut
  by_cases hab : b ≤ a
  · unfold cutG
    rw [if_pos hab]
    simp only [r_seq, r_ex, r_set, r_setN, r_drop, r_ret, r_if, r_frz, r_frzS, r_next, r_op, r_fun1, r_call, r_callN, r_cons, r_nil, r_var, r_c, r_bl, r_tr, r_not, r_andB, r_orB, r_andV, r_notV, r_ifE, r_chain, r_lst, r_tup, r_sz, r_own, r_def, r_seqOf, r_lc, r_app, r_fld, r_meth, r_peek, r_enum, szOk, blOf, truD, seqOf, wipeS, lfts, bndo, bnde, getz, getS, setz, setS, List.map_cons, List.map_nil, List.cons_append, List.nil_append, List.replicate, List.length_cons, List.length_nil, if_true, gInt, gTuple, gLen, Nat.reduceAdd, Nat.reduceLeDiff, giName, r_orV, r_slT, r_slL, r_part, r_noPart, gAdd_int, gSub_int, gLt_int, gLe_int, gGt_int, gGe_int, gNeg_int, gEq_int, gNe_int, gMod_int, gDiv_int, gMul_r, ixL0, ixL1, ixL2, ixL3, ixL4, ixL5, ixL6, ixL7, ixL8, ixL9, ixL10, ixL11, ixL12, ixL13, ixT0, ixT1, ixT2, ixT3, ixT4, ixT5, ixT6, ixT7, ixT8, ixT9, ixT10, and_self, Int.cast_ofNat_Int, Int.reduceEq, decide_true, decide_false, Bool.not_true, Bool.not_false, nums_length, isi_ii, gAbs_int, Int.reduceAdd, Int.reduceSub, Int.reduceMul, Int.reduceNeg, Int.reduceLT, Int.reduceLE, r_ixO, r_trO, r_pop, r_rev, r_opN, r_ext, r_setIx, r_ch3, r_star, starOf, r_lc2, r_revT, r_notT, Option.map_some, List.isEmpty_cons, List.isEmpty_nil, hab, spsD] <;> rfl
  · obtain ⟨A, R, e1, hA, hR⟩ := tidy_split a hx0
    obtain ⟨A2, R2, e2, hA2, hR2⟩ := tidy_split b hx0
    obtain ⟨B, c1, c2, c3⟩ := cut_slice (show a < b by omega) hx0 e1 e2 hA hR hA2 hR2
    have f1 := at_behind c x a A R (by rw [← e1]; exact hx) hA hR (by rw [← e1]; exact hl)
    have f2 := at_behind c x b A2 R2 (by rw [← e2]; exact hx) hA2 hR2 (by rw [← e2]; exact hl)
    have hAl : A.length ≤ l.length := by rw [e1, List.length_append]; omega
    obtain ⟨y, ey, hy⟩ := slA_of (fVar 0) (fPart (fOwn 2 (G_first_behind c) (fCons (fVar 0) (fCons (fVar 1) fNil)))) (fPart (fop gAdd (fOwn 2 (G_first_behind c) (fCons (fVar 0) (fCons (fVar 2) fNil))) (fC (.int 1)))) [.d x, .d (.int a), .d (.int b), .no] l x hx A.length (A2.length + 1) (by simp only [r_seq, r_ex, r_set, r_setN, r_drop, r_ret, r_if, r_frz, r_frzS, r_next, r_op, r_fun1, r_call, r_callN, r_cons, r_nil, r_var, r_c, r_bl, r_tr, r_not, r_andB, r_orB, r_andV, r_notV, r_ifE, r_chain, r_lst, r_tup, r_sz, r_own, r_def, r_seqOf, r_lc, r_app, r_fld, r_meth, r_peek, r_enum, szOk, blOf, truD, seqOf, wipeS, lfts, bndo, bnde, getz, getS, setz, setS, List.map_cons, List.map_nil, List.cons_append, List.nil_append, List.replicate, List.length_cons, List.length_nil, if_true, gInt, gTuple, gLen, Nat.reduceAdd, Nat.reduceLeDiff, giName, r_orV, r_slT, r_slL, r_part, r_noPart, gAdd_int, gSub_int, gLt_int, gLe_int, gGt_int, gGe_int, gNeg_int, gEq_int, gNe_int, gMod_int, gDiv_int, gMul_r, ixL0, ixL1, ixL2, ixL3, ixL4, ixL5, ixL6, ixL7, ixL8, ixL9, ixL10, ixL11, ixL12, ixL13, ixT0, ixT1, ixT2, ixT3, ixT4, ixT5, ixT6, ixT7, ixT8, ixT9, ixT10, and_self, Int.cast_ofNat_Int, Int.reduceEq, decide_true, decide_false, Bool.not_true, Bool.not_false, nums_length, isi_ii, gAbs_int, Int.reduceAdd, Int.reduceSub, Int.reduceMul, Int.reduceNeg, Int.reduceLT, Int.reduceLE, r_ixO, r_trO, r_pop, r_rev, r_opN, r_ext, r_setIx, r_ch3, r_star, starOf, r_lc2, r_revT, r_notT, Option.map_some, List.isEmpty_cons, List.isEmpty_nil]) (by simp only [r_seq, r_ex, r_set, r_setN, r_drop, r_ret, r_if, r_frz, r_frzS, r_next, r_op, r_fun1, r_call, r_callN, r_cons, r_nil, r_var, r_c, r_bl, r_tr, r_not, r_andB, r_orB, r_andV, r_notV, r_ifE, r_chain, r_lst, r_tup, r_sz, r_own, r_def, r_seqOf, r_lc, r_app, r_fld, r_meth, r_peek, r_enum, szOk, blOf, truD, seqOf, wipeS, lfts, bndo, bnde, getz, getS, setz, setS, List.map_cons, List.map_nil, List.cons_append, List.nil_append, List.replicate, List.length_cons, List.length_nil, if_true, gInt, gTuple, gLen, Nat.reduceAdd, Nat.reduceLeDiff, giName, r_orV, r_slT, r_slL, r_part, r_noPart, gAdd_int, gSub_int, gLt_int, gLe_int, gGt_int, gGe_int, gNeg_int, gEq_int, gNe_int, gMod_int, gDiv_int, gMul_r, ixL0, ixL1, ixL2, ixL3, ixL4, ixL5, ixL6, ixL7, ixL8, ixL9, ixL10, ixL11, ixL12, ixL13, ixT0, ixT1, ixT2, ixT3, ixT4, ixT5, ixT6, ixT7, ixT8, ixT9, ixT10, and_self, Int.cast_ofNat_Int, Int.reduceEq, decide_true, decide_false, Bool.not_true, Bool.not_false, nums_length, isi_ii, gAbs_int, Int.reduceAdd, Int.reduceSub, Int.reduceMul, Int.reduceNeg, Int.reduceLT, Int.reduceLE, r_ixO, r_trO, r_pop, r_rev, r_opN, r_ext, r_setIx, r_ch3, r_star, starOf, r_lc2, r_revT, r_notT, Option.map_some, List.isEmpty_cons, List.isEmpty_nil, f1]) (by simp only [r_seq, r_ex, r_set, r_setN, r_drop, r_ret, r_if, r_frz, r_frzS, r_next, r_op, r_fun1, r_call, r_callN, r_cons, r_nil, r_var, r_c, r_bl, r_tr, r_not, r_andB, r_orB, r_andV, r_notV, r_ifE, r_chain, r_lst, r_tup, r_sz, r_own, r_def, r_seqOf, r_lc, r_app, r_fld, r_meth, r_peek, r_enum, szOk, blOf, truD, seqOf, wipeS, lfts, bndo, bnde, getz, getS, setz, setS, List.map_cons, List.map_nil, List.cons_append, List.nil_append, List.replicate, List.length_cons, List.length_nil, if_true, gInt, gTuple, gLen, Nat.reduceAdd, Nat.reduceLeDiff, giName, r_orV, r_slT, r_slL, r_part, r_noPart, gAdd_int, gSub_int, gLt_int, gLe_int, gGt_int, gGe_int, gNeg_int, gEq_int, gNe_int, gMod_int, gDiv_int, gMul_r, ixL0, ixL1, ixL2, ixL3, ixL4, ixL5, ixL6, ixL7, ixL8, ixL9, ixL10, ixL11, ixL12, ixL13, ixT0, ixT1, ixT2, ixT3, ixT4, ixT5, ixT6, ixT7, ixT8, ixT9, ixT10, and_self, Int.cast_ofNat_Int, Int.reduceEq, decide_true, decide_false, Bool.not_true, Bool.not_false, nums_length, isi_ii, gAbs_int, Int.reduceAdd, Int.reduceSub, Int.reduceMul, Int.reduceNeg, Int.reduceLT, Int.reduceLE, r_ixO, r_trO, r_pop, r_rev, r_opN, r_ext, r_setIx, r_ch3, r_star, starOf, r_lc2, r_revT, r_notT, Option.map_some, List.isEmpty_cons, List.isEmpty_nil, f2] <;> rfl) hAl
    rw [c1] at hy
    have hcl : cutRows a b l = B ++ (R2.take 1).filter (fun s => decide (s.1 < b)) := c3
    have hcut : cutG a b l = (cutRows a b l).map (clip a b) := by unfold cutG; rw [if_neg hab]
    rw [hcut]
    have hall : ∀ s ∈ cutRows a b l, a < s.2 ∧ s.1 < b := fun s hs => by
      have := (List.mem_filter.mp hs).2
      unfold inCut at this
      rw [Bool.and_eq_true, decide_eq_true_eq, decide_eq_true_eq] at this
      exact this
    have htr : TidyF x0 (cutRows a b l) := by
      have sub : ∀ {l : List Seg} {x : Int}, TidyF x l → TidyF x (cutRows a b l) := fun {l} => by
        induction l with
        | nil => intro _ _; trivial
        | cons s r ih =>
          intro x h
          obtain ⟨q1, q2, q3⟩ := h
          rw [cutRows_cons]
          split
          · exact ⟨q1, q2, ih q3⟩
          · exact (ih q3).mono (by omega)
      exact sub hx0
    generalize cutRows a b l = rows at hcl hall htr
    refine st (s' := [.d x, .d (.int a), .d (.int b), .no]) (by simp only [r_seq, r_ex, r_set, r_setN, r_drop, r_ret, r_if, r_frz, r_frzS, r_next, r_op, r_fun1, r_call, r_callN, r_cons, r_nil, r_var, r_c, r_bl, r_tr, r_not, r_andB, r_orB, r_andV, r_notV, r_ifE, r_chain, r_lst, r_tup, r_sz, r_own, r_def, r_seqOf, r_lc, r_app, r_fld, r_meth, r_peek, r_enum, szOk, blOf, truD, seqOf, wipeS, lfts, bndo, bnde, getz, getS, setz, setS, List.map_cons, List.map_nil, List.cons_append, List.nil_append, List.replicate, List.length_cons, List.length_nil, if_true, gInt, gTuple, gLen, Nat.reduceAdd, Nat.reduceLeDiff, giName, r_orV, r_slT, r_slL, r_part, r_noPart, gAdd_int, gSub_int, gLt_int, gLe_int, gGt_int, gGe_int, gNeg_int, gEq_int, gNe_int, gMod_int, gDiv_int, gMul_r, ixL0, ixL1, ixL2, ixL3, ixL4, ixL5, ixL6, ixL7, ixL8, ixL9, ixL10, ixL11, ixL12, ixL13, ixT0, ixT1, ixT2, ixT3, ixT4, ixT5, ixT6, ixT7, ixT8, ixT9, ixT10, and_self, Int.cast_ofNat_Int, Int.reduceEq, decide_true, decide_false, Bool.not_true, Bool.not_false, nums_length, isi_ii, gAbs_int, Int.reduceAdd, Int.reduceSub, Int.reduceMul, Int.reduceNeg, Int.reduceLT, Int.reduceLE, r_ixO, r_trO, r_pop, r_rev, r_opN, r_ext, r_setIx, r_ch3, r_star, starOf, r_lc2, r_revT, r_notT, Option.map_some, List.isEmpty_cons, List.isEmpty_nil, hab]) ?_
    refine st (s' := [.d x, .d (.int a), .d (.int b), .own (spsD (B ++ R2.take 1))]) (by simp only [r_seq, r_ex, r_set, r_setN, r_drop, r_ret, r_if, r_frz, r_frzS, r_next, r_op, r_fun1, r_call, r_callN, r_cons, r_nil, r_var, r_c, r_bl, r_tr, r_not, r_andB, r_orB, r_andV, r_notV, r_ifE, r_chain, r_lst, r_tup, r_sz, r_own, r_def, r_seqOf, r_lc, r_app, r_fld, r_meth, r_peek, r_enum, szOk, blOf, truD, seqOf, wipeS, lfts, bndo, bnde, getz, getS, setz, setS, List.map_cons, List.map_nil, List.cons_append, List.nil_append, List.replicate, List.length_cons, List.length_nil, if_true, gInt, gTuple, gLen, Nat.reduceAdd, Nat.reduceLeDiff, giName, r_orV, r_slT, r_slL, r_part, r_noPart, gAdd_int, gSub_int, gLt_int, gLe_int, gGt_int, gGe_int, gNeg_int, gEq_int, gNe_int, gMod_int, gDiv_int, gMul_r, ixL0, ixL1, ixL2, ixL3, ixL4, ixL5, ixL6, ixL7, ixL8, ixL9, ixL10, ixL11, ixL12, ixL13, ixT0, ixT1, ixT2, ixT3, ixT4, ixT5, ixT6, ixT7, ixT8, ixT9, ixT10, and_self, Int.cast_ofNat_Int, Int.reduceEq, decide_true, decide_false, Bool.not_true, Bool.not_false, nums_length, isi_ii, gAbs_int, Int.reduceAdd, Int.reduceSub, Int.reduceMul, Int.reduceNeg, Int.reduceLT, Int.reduceLE, r_ixO, r_trO, r_pop, r_rev, r_opN, r_ext, r_setIx, r_ch3, r_star, starOf, r_lc2, r_revT, r_notT, Option.map_some, List.isEmpty_cons, List.isEmpty_nil, ey, gList_of hy]) ?_
    refine st (s' := [.d x, .d (.int a), .d (.int b), .own (spsD rows)]) ?_ ?_
    · cases R2 with
      | nil =>
        have e0 : B ++ ([] : List Seg).take 1 = B := by simp
        have er : rows = B := by rw [hcl]; simp
        rw [e0, er]
        rcases List.eq_nil_or_concat B with h | ⟨L, w, h⟩
        · subst h
          simp only [r_seq, r_ex, r_set, r_setN, r_drop, r_ret, r_if, r_frz, r_frzS, r_next, r_op, r_fun1, r_call, r_callN, r_cons, r_nil, r_var, r_c, r_bl, r_tr, r_not, r_andB, r_orB, r_andV, r_notV, r_ifE, r_chain, r_lst, r_tup, r_sz, r_own, r_def, r_seqOf, r_lc, r_app, r_fld, r_meth, r_peek, r_enum, szOk, blOf, truD, seqOf, wipeS, lfts, bndo, bnde, getz, getS, setz, setS, List.map_cons, List.map_nil, List.cons_append, List.nil_append, List.replicate, List.length_cons, List.length_nil, if_true, gInt, gTuple, gLen, Nat.reduceAdd, Nat.reduceLeDiff, giName, r_orV, r_slT, r_slL, r_part, r_noPart, gAdd_int, gSub_int, gLt_int, gLe_int, gGt_int, gGe_int, gNeg_int, gEq_int, gNe_int, gMod_int, gDiv_int, gMul_r, ixL0, ixL1, ixL2, ixL3, ixL4, ixL5, ixL6, ixL7, ixL8, ixL9, ixL10, ixL11, ixL12, ixL13, ixT0, ixT1, ixT2, ixT3, ixT4, ixT5, ixT6, ixT7, ixT8, ixT9, ixT10, and_self, Int.cast_ofNat_Int, Int.reduceEq, decide_true, decide_false, Bool.not_true, Bool.not_false, nums_length, isi_ii, gAbs_int, Int.reduceAdd, Int.reduceSub, Int.reduceMul, Int.reduceNeg, Int.reduceLT, Int.reduceLE, r_ixO, r_trO, r_pop, r_rev, r_opN, r_ext, r_setIx, r_ch3, r_star, starOf, r_lc2, r_revT, r_notT, Option.map_some, List.isEmpty_cons, List.isEmpty_nil, spsD, List.isEmpty_nil]
        · subst h
          have hw := c2 w (by simp)
          have ew : ¬ b ≤ w.1 := by omega
          have es : spsD (L.concat w) = spsD L ++ [spD w] := by rw [List.concat_eq_append]; exact spsD_app L [w]
          simp only [r_seq, r_ex, r_set, r_setN, r_drop, r_ret, r_if, r_frz, r_frzS, r_next, r_op, r_fun1, r_call, r_callN, r_cons, r_nil, r_var, r_c, r_bl, r_tr, r_not, r_andB, r_orB, r_andV, r_notV, r_ifE, r_chain, r_lst, r_tup, r_sz, r_own, r_def, r_seqOf, r_lc, r_app, r_fld, r_meth, r_peek, r_enum, szOk, blOf, truD, seqOf, wipeS, lfts, bndo, bnde, getz, getS, setz, setS, List.map_cons, List.map_nil, List.cons_append, List.nil_append, List.replicate, List.length_cons, List.length_nil, if_true, gInt, gTuple, gLen, Nat.reduceAdd, Nat.reduceLeDiff, giName, r_orV, r_slT, r_slL, r_part, r_noPart, gAdd_int, gSub_int, gLt_int, gLe_int, gGt_int, gGe_int, gNeg_int, gEq_int, gNe_int, gMod_int, gDiv_int, gMul_r, ixL0, ixL1, ixL2, ixL3, ixL4, ixL5, ixL6, ixL7, ixL8, ixL9, ixL10, ixL11, ixL12, ixL13, ixT0, ixT1, ixT2, ixT3, ixT4, ixT5, ixT6, ixT7, ixT8, ixT9, ixT10, and_self, Int.cast_ofNat_Int, Int.reduceEq, decide_true, decide_false, Bool.not_true, Bool.not_false, nums_length, isi_ii, gAbs_int, Int.reduceAdd, Int.reduceSub, Int.reduceMul, Int.reduceNeg, Int.reduceLT, Int.reduceLE, r_ixO, r_trO, r_pop, r_rev, r_opN, r_ext, r_setIx, r_ch3, r_star, starOf, r_lc2, r_revT, r_notT, Option.map_some, List.isEmpty_cons, List.isEmpty_nil, es, app_ne, atI_last, spD, ew]
      | cons w r =>
        have e0 : B ++ (w :: r).take 1 = B ++ [w] := by simp
        have es : spsD (B ++ [w]) = spsD B ++ [spD w] := spsD_app B [w]
        rw [e0]
        by_cases q : w.1 < b
        · have er : rows = B ++ [w] := by rw [hcl]; simp [q]
          have ew : ¬ b ≤ w.1 := by omega
          rw [er]
          simp only [r_seq, r_ex, r_set, r_setN, r_drop, r_ret, r_if, r_frz, r_frzS, r_next, r_op, r_fun1, r_call, r_callN, r_cons, r_nil, r_var, r_c, r_bl, r_tr, r_not, r_andB, r_orB, r_andV, r_notV, r_ifE, r_chain, r_lst, r_tup, r_sz, r_own, r_def, r_seqOf, r_lc, r_app, r_fld, r_meth, r_peek, r_enum, szOk, blOf, truD, seqOf, wipeS, lfts, bndo, bnde, getz, getS, setz, setS, List.map_cons, List.map_nil, List.cons_append, List.nil_append, List.replicate, List.length_cons, List.length_nil, if_true, gInt, gTuple, gLen, Nat.reduceAdd, Nat.reduceLeDiff, giName, r_orV, r_slT, r_slL, r_part, r_noPart, gAdd_int, gSub_int, gLt_int, gLe_int, gGt_int, gGe_int, gNeg_int, gEq_int, gNe_int, gMod_int, gDiv_int, gMul_r, ixL0, ixL1, ixL2, ixL3, ixL4, ixL5, ixL6, ixL7, ixL8, ixL9, ixL10, ixL11, ixL12, ixL13, ixT0, ixT1, ixT2, ixT3, ixT4, ixT5, ixT6, ixT7, ixT8, ixT9, ixT10, and_self, Int.cast_ofNat_Int, Int.reduceEq, decide_true, decide_false, Bool.not_true, Bool.not_false, nums_length, isi_ii, gAbs_int, Int.reduceAdd, Int.reduceSub, Int.reduceMul, Int.reduceNeg, Int.reduceLT, Int.reduceLE, r_ixO, r_trO, r_pop, r_rev, r_opN, r_ext, r_setIx, r_ch3, r_star, starOf, r_lc2, r_revT, r_notT, Option.map_some, List.isEmpty_cons, List.isEmpty_nil, es, app_ne, atI_last, spD, ew]
        · have er : rows = B := by rw [hcl]; simp [q]
          have ew : b ≤ w.1 := by omega
          rw [er]
          simp only [r_seq, r_ex, r_set, r_setN, r_drop, r_ret, r_if, r_frz, r_frzS, r_next, r_op, r_fun1, r_call, r_callN, r_cons, r_nil, r_var, r_c, r_bl, r_tr, r_not, r_andB, r_orB, r_andV, r_notV, r_ifE, r_chain, r_lst, r_tup, r_sz, r_own, r_def, r_seqOf, r_lc, r_app, r_fld, r_meth, r_peek, r_enum, szOk, blOf, truD, seqOf, wipeS, lfts, bndo, bnde, getz, getS, setz, setS, List.map_cons, List.map_nil, List.cons_append, List.nil_append, List.replicate, List.length_cons, List.length_nil, if_true, gInt, gTuple, gLen, Nat.reduceAdd, Nat.reduceLeDiff, giName, r_orV, r_slT, r_slL, r_part, r_noPart, gAdd_int, gSub_int, gLt_int, gLe_int, gGt_int, gGe_int, gNeg_int, gEq_int, gNe_int, gMod_int, gDiv_int, gMul_r, ixL0, ixL1, ixL2, ixL3, ixL4, ixL5, ixL6, ixL7, ixL8, ixL9, ixL10, ixL11, ixL12, ixL13, ixT0, ixT1, ixT2, ixT3, ixT4, ixT5, ixT6, ixT7, ixT8, ixT9, ixT10, and_self, Int.cast_ofNat_Int, Int.reduceEq, decide_true, decide_false, Bool.not_true, Bool.not_false, nums_length, isi_ii, gAbs_int, Int.reduceAdd, Int.reduceSub, Int.reduceMul, Int.reduceNeg, Int.reduceLT, Int.reduceLE, r_ixO, r_trO, r_pop, r_rev, r_opN, r_ext, r_setIx, r_ch3, r_star, starOf, r_lc2, r_revT, r_notT, Option.map_some, List.isEmpty_cons, List.isEmpty_nil, es, app_ne, atI_last, spD, ew, List.dropLast_concat, Bool.false_eq_true, if_false]
    · match rows, hall, htr with
      | [], _, _ => simp only [r_seq, r_ex, r_set, r_setN, r_drop, r_ret, r_if, r_frz, r_frzS, r_next, r_op, r_fun1, r_call, r_callN, r_cons, r_nil, r_var, r_c, r_bl, r_tr, r_not, r_andB, r_orB, r_andV, r_notV, r_ifE, r_chain, r_lst, r_tup, r_sz, r_own, r_def, r_seqOf, r_lc, r_app, r_fld, r_meth, r_peek, r_enum, szOk, blOf, truD, seqOf, wipeS, lfts, bndo, bnde, getz, getS, setz, setS, List.map_cons, List.map_nil, List.cons_append, List.nil_append, List.replicate, List.length_cons, List.length_nil, if_true, gInt, gTuple, gLen, Nat.reduceAdd, Nat.reduceLeDiff, giName, r_orV, r_slT, r_slL, r_part, r_noPart, gAdd_int, gSub_int, gLt_int, gLe_int, gGt_int, gGe_int, gNeg_int, gEq_int, gNe_int, gMod_int, gDiv_int, gMul_r, ixL0, ixL1, ixL2, ixL3, ixL4, ixL5, ixL6, ixL7, ixL8, ixL9, ixL10, ixL11, ixL12, ixL13, ixT0, ixT1, ixT2, ixT3, ixT4, ixT5, ixT6, ixT7, ixT8, ixT9, ixT10, and_self, Int.cast_ofNat_Int, Int.reduceEq, decide_true, decide_false, Bool.not_true, Bool.not_false, nums_length, isi_ii, gAbs_int, Int.reduceAdd, Int.reduceSub, Int.reduceMul, Int.reduceNeg, Int.reduceLT, Int.reduceLE, r_ixO, r_trO, r_pop, r_rev, r_opN, r_ext, r_setIx, r_ch3, r_star, starOf, r_lc2, r_revT, r_notT, Option.map_some, List.isEmpty_cons, List.isEmpty_nil, spsD, List.isEmpty_nil] <;> rfl
      | [s], hall, htr =>
        simp only [r_seq, r_ex, r_set, r_setN, r_drop, r_ret, r_if, r_frz, r_frzS, r_next, r_op, r_fun1, r_call, r_callN, r_cons, r_nil, r_var, r_c, r_bl, r_tr, r_not, r_andB, r_orB, r_andV, r_notV, r_ifE, r_chain, r_lst, r_tup, r_sz, r_own, r_def, r_seqOf, r_lc, r_app, r_fld, r_meth, r_peek, r_enum, szOk, blOf, truD, seqOf, wipeS, lfts, bndo, bnde, getz, getS, setz, setS, List.map_cons, List.map_nil, List.cons_append, List.nil_append, List.replicate, List.length_cons, List.length_nil, if_true, gInt, gTuple, gLen, Nat.reduceAdd, Nat.reduceLeDiff, giName, r_orV, r_slT, r_slL, r_part, r_noPart, gAdd_int, gSub_int, gLt_int, gLe_int, gGt_int, gGe_int, gNeg_int, gEq_int, gNe_int, gMod_int, gDiv_int, gMul_r, ixL0, ixL1, ixL2, ixL3, ixL4, ixL5, ixL6, ixL7, ixL8, ixL9, ixL10, ixL11, ixL12, ixL13, ixT0, ixT1, ixT2, ixT3, ixT4, ixT5, ixT6, ixT7, ixT8, ixT9, ixT10, and_self, Int.cast_ofNat_Int, Int.reduceEq, decide_true, decide_false, Bool.not_true, Bool.not_false, nums_length, isi_ii, gAbs_int, Int.reduceAdd, Int.reduceSub, Int.reduceMul, Int.reduceNeg, Int.reduceLT, Int.reduceLE, r_ixO, r_trO, r_pop, r_rev, r_opN, r_ext, r_setIx, r_ch3, r_star, starOf, r_lc2, r_revT, r_notT, Option.map_some, List.isEmpty_cons, List.isEmpty_nil, spsD, clip, spD, List.isEmpty_cons, atI_first, atI_one, setIx_first, setIx_one, Option.map_some, gMax0, gMin0] <;> rfl
      | s :: u :: r, hall, htr =>
        obtain ⟨mid, w, hm⟩ : ∃ mid w, u :: r = mid ++ [w] := by
          rcases List.eq_nil_or_concat (u :: r) with h | ⟨L, w, h⟩
          · cases h
          · exact ⟨L, w, by rw [h, List.concat_eq_append]⟩
        rw [hm] at hall htr ⊢
        have k1 := hall s (by simp)
        have k2 := hall w (by simp)
        rw [clip_many htr k1.1 k2.2]
        have es : spsD (s :: (mid ++ [w])) = spD s :: (spsD mid ++ [spD w]) := by show spD s :: spsD (mid ++ [w]) = _; rw [spsD_app]; rfl
        have es2 : spsD ((if a > s.1 then a else s.1, s.2) :: (mid ++ [(w.1, if b < w.2 then b else w.2)])) = spD (if a > s.1 then a else s.1, s.2) :: (spsD mid ++ [spD (w.1, if b < w.2 then b else w.2)]) := by show spD _ :: spsD (mid ++ [_]) = _; rw [spsD_app]; rfl
        rw [es, es2]
        simp only [r_seq, r_ex, r_set, r_setN, r_drop, r_ret, r_if, r_frz, r_frzS, r_next, r_op, r_fun1, r_call, r_callN, r_cons, r_nil, r_var, r_c, r_bl, r_tr, r_not, r_andB, r_orB, r_andV, r_notV, r_ifE, r_chain, r_lst, r_tup, r_sz, r_own, r_def, r_seqOf, r_lc, r_app, r_fld, r_meth, r_peek, r_enum, szOk, blOf, truD, seqOf, wipeS, lfts, bndo, bnde, getz, getS, setz, setS, List.map_cons, List.map_nil, List.cons_append, List.nil_append, List.replicate, List.length_cons, List.length_nil, if_true, gInt, gTuple, gLen, Nat.reduceAdd, Nat.reduceLeDiff, giName, r_orV, r_slT, r_slL, r_part, r_noPart, gAdd_int, gSub_int, gLt_int, gLe_int, gGt_int, gGe_int, gNeg_int, gEq_int, gNe_int, gMod_int, gDiv_int, gMul_r, ixL0, ixL1, ixL2, ixL3, ixL4, ixL5, ixL6, ixL7, ixL8, ixL9, ixL10, ixL11, ixL12, ixL13, ixT0, ixT1, ixT2, ixT3, ixT4, ixT5, ixT6, ixT7, ixT8, ixT9, ixT10, and_self, Int.cast_ofNat_Int, Int.reduceEq, decide_true, decide_false, Bool.not_true, Bool.not_false, nums_length, isi_ii, gAbs_int, Int.reduceAdd, Int.reduceSub, Int.reduceMul, Int.reduceNeg, Int.reduceLT, Int.reduceLE, r_ixO, r_trO, r_pop, r_rev, r_opN, r_ext, r_setIx, r_ch3, r_star, starOf, r_lc2, r_revT, r_notT, Option.map_some, List.isEmpty_cons, List.isEmpty_nil, spD, List.isEmpty_cons, atI_first, atI_end, setIx_first, setIx_end, Option.map_some, gMax0, gMin0]
theorem at_cutT (c : Cl) (l : List Seg) (a b : Int) (ht : Tidy l) (hl : l.length < 200000) : G_cut c [.tup (spsD l), .int a, .int b] = some (.ok (.tup (spsD (cutG a b l)))) := cut_of c _ l (.inl rfl) a b ht hl
theorem at_cutL (c : Cl) (l : List Seg) (a b : Int) (ht : Tidy l) (hl : l.length < 200000) : G_cut c [.lst (spsD l), .int a, .int b] = some (.ok (.tup (spsD (cutG a b l)))) := cut_of c _ l (.inr rfl) a b ht hl
theorem putN_new {x : Str} {d : D} : ∀ (ns : List Str) (xs : List D), ns.length = xs.length → (∀ n ∈ ns, n ≠ x) → putN x d ns xs = (ns ++ [x], xs ++ [d])
  | [], [], _, _ => rfl
  | [], _ :: _, h, _ => by cases h
  | _ :: _, [], h, _ => by cases h
  | n :: ns, y :: xs, h, q => by
    have ih := putN_new (x := x) (d := d) ns xs (by simpa using h) fun m hm => q m (List.mem_cons_of_mem _ hm)
    unfold putN
    rw [if_neg (q n (List.mem_cons_self ..)), ih]
    rfl
theorem set_new {C q : Addr} {x : Str} {fe : PS1 → Option (R D)} {d : D} {s : PS1} {ns : List Str} {xs : List D} (h : fe (.obj q C ns xs :: s) = some (.ok d)) (hn : ∀ n ∈ ns, n ≠ x) (he : ns.length = xs.length) (hl : ns.length < 1000) : fFldSet 0 C x fe (.obj q C ns xs :: s) = some (.nx (.obj q C (ns ++ [x]) (xs ++ [d]) :: s)) := by
  unfold fFldSet fEx
  rw [h]
  simp only [getz]
  rw [if_pos ⟨trivial, hl⟩, putN_new ns xs he hn]
  rfl

/-! ### wheels: what they contain within bounds -/
theorem r_setT (is : List Nat) (fe : PS1 → Option (R D)) (s : PS1) : fSetT is fe s = match fe s with
  | some (.ok d) => (giTup is d s).map .nx
  | some (.er x) => some (.er x s)
  | none => none := by
  unfold fSetT fEx
  cases fe s with
  | none => rfl
  | some r => cases r <;> rfl
theorem tidy_ends : ∀ (l : List Seg) (x : Int) (hl : l ≠ []), TidyF x l → ∀ u ∈ l, u.2 ≤ (l.getLast hl).2 := fun l => by
  induction l with
  | nil => exact fun x hl => absurd rfl hl
  | cons a l ih =>
    intro x hl ht u hu
    by_cases e : l = []
    · subst e
      rw [List.mem_singleton.mp hu]
      exact Int.le_refl _
    · rw [List.getLast_cons e]
      rcases List.mem_cons.mp hu with g | g
      · rw [g]
        have := ht.2.2.starts _ (List.getLast_mem e)
        have := ht.2.2.valid _ (List.getLast_mem e)
        omega
      · exact ih _ e ht.2.2 u g
theorem gIx_last {l : List Seg} (x : D) (hx : x = .tup (spsD l) ∨ x = .lst (spsD l)) (h : l ≠ []) : gIx x (.int (-1)) = some (spD (l.getLast h)) := by
  have e : atI (spsD l) (-1) = some (spD (l.getLast h)) := by
    have := List.dropLast_concat_getLast h
    generalize l.getLast h = v at *
    rw [← this, spsD_app]
    exact atI_last
  rcases hx with rfl | rfl <;> exact e
theorem gIx_hd {s : Seg} {r : List Seg} (x : D) (hx : x = .tup (spsD (s :: r)) ∨ x = .lst (spsD (s :: r))) : gIx x (.int 0) = some (spD s) := gIx_sps (i := 0) x hx rfl
theorem spD_0 (s : Seg) : gIx (spD s) (.int 0) = some (.int s.1) := (rfl)
theorem spD_1 (s : Seg) : gIx (spD s) (.int 1) = some (.int s.2) := (rfl)
theorem row_bounds {a b : Int} {m : List Seg} (hv : Valid m) (h : ∀ t, hitS m t = true → a ≤ t ∧ t < b) : ∀ s ∈ m, a ≤ s.1 ∧ s.2 ≤ b := fun s hs => by
  have v := hv s hs
  have h1 := h s.1 (hit_iff.mpr ⟨s, hs, Int.le_refl _, v⟩)
  have h2 := h (s.2 - 1) (hit_iff.mpr ⟨s, hs, by omega, by omega⟩)
  omega
theorem at_isfull (c : Cl) (o p : Int) (l : List Seg) : G_is_full c [.tup [.int o, .int p, .tup (spsD l)]] = some (.ok (.bl (decide (l = [(0, p)])))) := by
  refine def_rt ?_
  show F_is_full c [.d (.tup [.int o, .int p, .tup (spsD l)])] = _
  unfold F_is_full
  have e := gEq_Tsps l [(0, p)]
  change gEq (.tup (spsD l)) (.tup [.tup [.int 0, .int p]]) = _ at e
  simp only [r_seq, r_ex, r_set, r_setN, r_drop, r_ret, r_if, r_frz, r_frzS, r_next, r_op, r_fun1, r_call, r_callN, r_cons, r_nil, r_var, r_c, r_bl, r_tr, r_not, r_andB, r_orB, r_andV, r_notV, r_ifE, r_chain, r_lst, r_tup, r_sz, r_own, r_def, r_seqOf, r_lc, r_app, r_fld, r_meth, r_peek, r_enum, szOk, blOf, truD, seqOf, wipeS, lfts, bndo, bnde, getz, getS, setz, setS, List.map_cons, List.map_nil, List.cons_append, List.nil_append, List.replicate, List.length_cons, List.length_nil, if_true, gInt, gTuple, gLen, Nat.reduceAdd, Nat.reduceLeDiff, giName, r_orV, r_slT, r_slL, r_part, r_noPart, gAdd_int, gSub_int, gLt_int, gLe_int, gGt_int, gGe_int, gNeg_int, gEq_int, gNe_int, gMod_int, gDiv_int, gMul_r, ixL0, ixL1, ixL2, ixL3, ixL4, ixL5, ixL6, ixL7, ixL8, ixL9, ixL10, ixL11, ixL12, ixL13, ixT0, ixT1, ixT2, ixT3, ixT4, ixT5, ixT6, ixT7, ixT8, ixT9, ixT10, and_self, Int.cast_ofNat_Int, Int.reduceEq, decide_true, decide_false, Bool.not_true, Bool.not_false, nums_length, isi_ii, gAbs_int, Int.reduceAdd, Int.reduceSub, Int.reduceMul, Int.reduceNeg, Int.reduceLT, Int.reduceLE, r_ixO, r_trO, r_pop, r_rev, r_opN, r_ext, r_setIx, r_ch3, r_star, starOf, r_lc2, r_revT, r_notT, Option.map_some, List.isEmpty_cons, List.isEmpty_nil, e]
theorem at_moved (c : Cl) (l : List Seg) (k : Int) (hl : l.length ≤ 100000) : G_moved_by c [.tup (spsD l), .int k] = some (.ok (.tup (spsD (shiftS k l)))) := by
  refine def_rt ?_
  show F_moved_by c [.d (.tup (spsD l)), .d (.int k), .no, .no] = _
  unfold F_moved_by
  have hlen : (spsD l).length ≤ 100000 := by rw [spsD_len]; exact hl
  by_cases hk : k = 0
  · subst hk
    have e : shiftS 0 l = l := by
      unfold shiftS
      have : (fun s : Seg => (s.1 + 0, s.2 + 0)) = id := funext fun s => by
        show (s.1 + 0, s.2 + 0) = s
        rw [Int.add_zero, Int.add_zero]
      rw [this, List.map_id]
    rw [e]
    simp only [r_seq, r_ex, r_set, r_setN, r_drop, r_ret, r_if, r_frz, r_frzS, r_next, r_op, r_fun1, r_call, r_callN, r_cons, r_nil, r_var, r_c, r_bl, r_tr, r_not, r_andB, r_orB, r_andV, r_notV, r_ifE, r_chain, r_lst, r_tup, r_sz, r_own, r_def, r_seqOf, r_lc, r_app, r_fld, r_meth, r_peek, r_enum, szOk, blOf, truD, seqOf, wipeS, lfts, bndo, bnde, getz, getS, setz, setS, List.map_cons, List.map_nil, List.cons_append, List.nil_append, List.replicate, List.length_cons, List.length_nil, if_true, gInt, gTuple, gLen, Nat.reduceAdd, Nat.reduceLeDiff, giName, r_orV, r_slT, r_slL, r_part, r_noPart, gAdd_int, gSub_int, gLt_int, gLe_int, gGt_int, gGe_int, gNeg_int, gEq_int, gNe_int, gMod_int, gDiv_int, gMul_r, ixL0, ixL1, ixL2, ixL3, ixL4, ixL5, ixL6, ixL7, ixL8, ixL9, ixL10, ixL11, ixL12, ixL13, ixT0, ixT1, ixT2, ixT3, ixT4, ixT5, ixT6, ixT7, ixT8, ixT9, ixT10, and_self, Int.cast_ofNat_Int, Int.reduceEq, decide_true, decide_false, Bool.not_true, Bool.not_false, nums_length, isi_ii, gAbs_int, Int.reduceAdd, Int.reduceSub, Int.reduceMul, Int.reduceNeg, Int.reduceLT, Int.reduceLE, r_ixO, r_trO, r_pop, r_rev, r_opN, r_ext, r_setIx, r_ch3, r_star, starOf, r_lc2, r_revT, r_notT, Option.map_some, List.isEmpty_cons, List.isEmpty_nil]
  · have row : lcF (giTup [2, 3]) fYes (fTup (fCons (fop gAdd (fVar 2) (fVar 1)) (fCons (fop gAdd (fVar 3) (fVar 1)) fNil))) [.d (.tup (spsD l)), .d (.int k), .no, .no] (spsD l) = some (spsD (shiftS k l)) := by
      have := lcF_all (gi := giTup [2, 3]) (fe := (fTup (fCons (fop gAdd (fVar 2) (fVar 1)) (fCons (fop gAdd (fVar 3) (fVar 1)) fNil)))) (sw := [.d (.tup (spsD l)), .d (.int k), .no, .no]) spD (fun s => [.d (.tup (spsD l)), .d (.int k), .d (.int s.1), .d (.int s.2)]) (fun s => spD (s.1 + k, s.2 + k)) l fun s hs => ⟨rfl, by simp only [r_seq, r_ex, r_set, r_setN, r_drop, r_ret, r_if, r_frz, r_frzS, r_next, r_op, r_fun1, r_call, r_callN, r_cons, r_nil, r_var, r_c, r_bl, r_tr, r_not, r_andB, r_orB, r_andV, r_notV, r_ifE, r_chain, r_lst, r_tup, r_sz, r_own, r_def, r_seqOf, r_lc, r_app, r_fld, r_meth, r_peek, r_enum, szOk, blOf, truD, seqOf, wipeS, lfts, bndo, bnde, getz, getS, setz, setS, List.map_cons, List.map_nil, List.cons_append, List.nil_append, List.replicate, List.length_cons, List.length_nil, if_true, gInt, gTuple, gLen, Nat.reduceAdd, Nat.reduceLeDiff, giName, r_orV, r_slT, r_slL, r_part, r_noPart, gAdd_int, gSub_int, gLt_int, gLe_int, gGt_int, gGe_int, gNeg_int, gEq_int, gNe_int, gMod_int, gDiv_int, gMul_r, ixL0, ixL1, ixL2, ixL3, ixL4, ixL5, ixL6, ixL7, ixL8, ixL9, ixL10, ixL11, ixL12, ixL13, ixT0, ixT1, ixT2, ixT3, ixT4, ixT5, ixT6, ixT7, ixT8, ixT9, ixT10, and_self, Int.cast_ofNat_Int, Int.reduceEq, decide_true, decide_false, Bool.not_true, Bool.not_false, nums_length, isi_ii, gAbs_int, Int.reduceAdd, Int.reduceSub, Int.reduceMul, Int.reduceNeg, Int.reduceLT, Int.reduceLE, r_ixO, r_trO, r_pop, r_rev, r_opN, r_ext, r_setIx, r_ch3, r_star, starOf, r_lc2, r_revT, r_notT, Option.map_some, List.isEmpty_cons, List.isEmpty_nil, spD]⟩
      have e5 : l.map (fun s => spD (s.1 + k, s.2 + k)) = spsD (shiftS k l) := by unfold spsD shiftS; rw [List.map_map]; rfl
      rw [e5] at this
      exact this
    simp only [r_seq, r_ex, r_set, r_setN, r_drop, r_ret, r_if, r_frz, r_frzS, r_next, r_op, r_fun1, r_call, r_callN, r_cons, r_nil, r_var, r_c, r_bl, r_tr, r_not, r_andB, r_orB, r_andV, r_notV, r_ifE, r_chain, r_lst, r_tup, r_sz, r_own, r_def, r_seqOf, r_lc, r_app, r_fld, r_meth, r_peek, r_enum, szOk, blOf, truD, seqOf, wipeS, lfts, bndo, bnde, getz, getS, setz, setS, List.map_cons, List.map_nil, List.cons_append, List.nil_append, List.replicate, List.length_cons, List.length_nil, if_true, gInt, gTuple, gLen, Nat.reduceAdd, Nat.reduceLeDiff, giName, r_orV, r_slT, r_slL, r_part, r_noPart, gAdd_int, gSub_int, gLt_int, gLe_int, gGt_int, gGe_int, gNeg_int, gEq_int, gNe_int, gMod_int, gDiv_int, gMul_r, ixL0, ixL1, ixL2, ixL3, ixL4, ixL5, ixL6, ixL7, ixL8, ixL9, ixL10, ixL11, ixL12, ixL13, ixT0, ixT1, ixT2, ixT3, ixT4, ixT5, ixT6, ixT7, ixT8, ixT9, ixT10, and_self, Int.cast_ofNat_Int, Int.reduceEq, decide_true, decide_false, Bool.not_true, Bool.not_false, nums_length, isi_ii, gAbs_int, Int.reduceAdd, Int.reduceSub, Int.reduceMul, Int.reduceNeg, Int.reduceLT, Int.reduceLE, r_ixO, r_trO, r_pop, r_rev, r_opN, r_ext, r_setIx, r_ch3, r_star, starOf, r_lc2, r_revT, r_notT, Option.map_some, List.isEmpty_cons, List.isEmpty_nil, hk, hlen, row]
theorem turns_rng {base last p : Int} {n : Nat} (hp : 1 ≤ p) (hp2 : p < 1073741824) (hl : last = base + p + n * p) : gRngC [.int (base + p), .int last, .int p] = some ((List.range n).map fun k : Nat => .int (base + p + k * p)) := by
  unfold gRngC
  dsimp only
  rw [if_pos ⟨by omega, hp2⟩]
  have e : stepN (base + p) last p = n := by
    unfold stepN
    rw [hl]
    cases n with
    | zero => rw [if_neg (by rw [show ((0 : Nat) : Int) * p = 0 by rw [Int.natCast_zero, Int.zero_mul]]; omega)]
    | succ n =>
      have hn : 0 ≤ (n : Int) * p := Int.mul_nonneg (by omega) (by omega)
      have e1 : ((n + 1 : Nat) : Int) * p = n * p + p := by rw [Int.natCast_add, Int.add_mul]; show _ + 1 * p = _; rw [Int.one_mul]
      rw [if_pos (by omega), e1, show base + p + (n * p + p) - (base + p) - 1 = (p - 1) + n * p by omega, Int.add_mul_ediv_right _ _ (by omega), Int.ediv_eq_zero_of_lt (by omega) (by omega)]
      omega
  rw [e]
  rfl
theorem turns_row (c : Cl) (o p start stop base last : Int) (l : List Seg) (S8 : List D) (n : Nat) :
    lc2F (giName 9) fYes (fSeqOf (fVar 5)) [10, 11] (giTup [10, 11]) fYes (fTup (fCons (fop gAdd (fVar 10) (fVar 9)) (fCons (fop gAdd (fVar 11) (fVar 9)) fNil))) [.d (.tup [.int o, .int p, .tup (spsD l)]), .d (.int start), .d (.int stop), .d (.int o), .d (.int p), .d (.tup (spsD l)), .d (.int base), .d (.int last), .own S8, .no, .no, .no] ((List.range n).map fun k : Nat => .int (base + p + k * p)) = some (spsD (blk p l n (base + p))) := by
  have h := lc2F_flat (gi := giName 9) (gi1 := giTup [10, 11]) (fi1 := fSeqOf (fVar 5)) (vs1 := [10, 11]) (fe := fTup (fCons (fop gAdd (fVar 10) (fVar 9)) (fCons (fop gAdd (fVar 11) (fVar 9)) fNil)))
    (sw := [.d (.tup [.int o, .int p, .tup (spsD l)]), .d (.int start), .d (.int stop), .d (.int o), .d (.int p), .d (.tup (spsD l)), .d (.int base), .d (.int last), .own S8, .no, .no, .no])
    (fun k : Nat => D.int (base + p + k * p))
    (fun k : Nat => [.d (.tup [.int o, .int p, .tup (spsD l)]), .d (.int start), .d (.int stop), .d (.int o), .d (.int p), .d (.tup (spsD l)), .d (.int base), .d (.int last), .own S8, .d (.int (base + p + k * p)), .no, .no])
    (fun (_ : Nat) (s : Seg) => spD s)
    (fun (k : Nat) (s : Seg) => [.d (.tup [.int o, .int p, .tup (spsD l)]), .d (.int start), .d (.int stop), .d (.int o), .d (.int p), .d (.tup (spsD l)), .d (.int base), .d (.int last), .own S8, .d (.int (base + p + k * p)), .d (.int s.1), .d (.int s.2)])
    (fun (k : Nat) (s : Seg) => spD (s.1 + (base + p + k * p), s.2 + (base + p + k * p)))
    (fun _ => l) (List.range n) fun k _ => ⟨rfl, by simp only [r_seq, r_ex, r_set, r_setN, r_drop, r_ret, r_if, r_frz, r_frzS, r_next, r_op, r_fun1, r_call, r_callN, r_cons, r_nil, r_var, r_c, r_bl, r_tr, r_not, r_andB, r_orB, r_andV, r_notV, r_ifE, r_chain, r_lst, r_tup, r_sz, r_own, r_def, r_seqOf, r_lc, r_app, r_fld, r_meth, r_peek, r_enum, szOk, blOf, truD, seqOf, wipeS, lfts, bndo, bnde, getz, getS, setz, setS, List.map_cons, List.map_nil, List.cons_append, List.nil_append, List.replicate, List.length_cons, List.length_nil, if_true, gInt, gTuple, gLen, Nat.reduceAdd, Nat.reduceLeDiff, giName, r_orV, r_slT, r_slL, r_part, r_noPart, gAdd_int, gSub_int, gLt_int, gLe_int, gGt_int, gGe_int, gNeg_int, gEq_int, gNe_int, gMod_int, gDiv_int, gMul_r, ixL0, ixL1, ixL2, ixL3, ixL4, ixL5, ixL6, ixL7, ixL8, ixL9, ixL10, ixL11, ixL12, ixL13, ixT0, ixT1, ixT2, ixT3, ixT4, ixT5, ixT6, ixT7, ixT8, ixT9, ixT10, and_self, Int.cast_ofNat_Int, Int.reduceEq, decide_true, decide_false, Bool.not_true, Bool.not_false, nums_length, isi_ii, gAbs_int, Int.reduceAdd, Int.reduceSub, Int.reduceMul, Int.reduceNeg, Int.reduceLT, Int.reduceLE, r_ixO, r_trO, r_pop, r_rev, r_opN, r_ext, r_setIx, r_ch3, r_star, starOf, r_lc2, r_revT, r_notT, Option.map_some, List.isEmpty_cons, List.isEmpty_nil] <;> rfl, fun s _ => ⟨rfl, by simp only [r_seq, r_ex, r_set, r_setN, r_drop, r_ret, r_if, r_frz, r_frzS, r_next, r_op, r_fun1, r_call, r_callN, r_cons, r_nil, r_var, r_c, r_bl, r_tr, r_not, r_andB, r_orB, r_andV, r_notV, r_ifE, r_chain, r_lst, r_tup, r_sz, r_own, r_def, r_seqOf, r_lc, r_app, r_fld, r_meth, r_peek, r_enum, szOk, blOf, truD, seqOf, wipeS, lfts, bndo, bnde, getz, getS, setz, setS, List.map_cons, List.map_nil, List.cons_append, List.nil_append, List.replicate, List.length_cons, List.length_nil, if_true, gInt, gTuple, gLen, Nat.reduceAdd, Nat.reduceLeDiff, giName, r_orV, r_slT, r_slL, r_part, r_noPart, gAdd_int, gSub_int, gLt_int, gLe_int, gGt_int, gGe_int, gNeg_int, gEq_int, gNe_int, gMod_int, gDiv_int, gMul_r, ixL0, ixL1, ixL2, ixL3, ixL4, ixL5, ixL6, ixL7, ixL8, ixL9, ixL10, ixL11, ixL12, ixL13, ixT0, ixT1, ixT2, ixT3, ixT4, ixT5, ixT6, ixT7, ixT8, ixT9, ixT10, and_self, Int.cast_ofNat_Int, Int.reduceEq, decide_true, decide_false, Bool.not_true, Bool.not_false, nums_length, isi_ii, gAbs_int, Int.reduceAdd, Int.reduceSub, Int.reduceMul, Int.reduceNeg, Int.reduceLT, Int.reduceLE, r_ixO, r_trO, r_pop, r_rev, r_opN, r_ext, r_setIx, r_ch3, r_star, starOf, r_lc2, r_revT, r_notT, Option.map_some, List.isEmpty_cons, List.isEmpty_nil, spD]⟩⟩
  rw [h]
  have e : (List.range n).flatMap (fun k : Nat => l.map fun s => spD (s.1 + (base + p + k * p), s.2 + (base + p + k * p))) = spsD ((List.range n).flatMap fun k : Nat => shiftS (base + p + k * p) l) := by
    unfold spsD
    rw [List.map_flatMap]
    congr 1
    funext k
    unfold shiftS
    rw [List.map_map]
    rfl
  rw [e, blk_flat]
theorem at_turned (c : Cl) (o p start stop : Int) (l : List Seg) (w : Wh p l) (hp2 : p < 1073741824) (hb : ∀ n : Nat, (n : Int) * p ≤ stop - start → (n + 2) * l.length ≤ 89000) :
    ∃ r, G_turned c [.tup [.int o, .int p, .tup (spsD l)], .int start, .int stop] = some (.ok (.tup (spsD r))) ∧ TidyF start r ∧ (∀ s ∈ r, s.2 ≤ stop) ∧ (∀ t, hitS r t = (decide (start ≤ t) && (decide (t < stop) && cyc o p l t))) ∧ r.length ≤ 89000 := by
  have hp := w.p1
  by_cases h1 : stop ≤ start
  · refine ⟨[], ?_, trivial, fun s hs => absurd hs List.not_mem_nil, fun t => ?_, by simp only [List.length_nil]; omega⟩
    · refine def_rt ?_
      show F_turned c [.d (.tup [.int o, .int p, .tup (spsD l)]), .d (.int start), .d (.int stop), .no, .no, .no, .no, .no, .no, .no, .no, .no] = _
      unfold F_turned
      simp only [r_seq, r_ex, r_set, r_setN, r_drop, r_ret, r_if, r_frz, r_frzS, r_next, r_op, r_fun1, r_call, r_callN, r_cons, r_nil, r_var, r_c, r_bl, r_tr, r_not, r_andB, r_orB, r_andV, r_notV, r_ifE, r_chain, r_lst, r_tup, r_sz, r_own, r_def, r_seqOf, r_lc, r_app, r_fld, r_meth, r_peek, r_enum, szOk, blOf, truD, seqOf, wipeS, lfts, bndo, bnde, getz, getS, setz, setS, List.map_cons, List.map_nil, List.cons_append, List.nil_append, List.replicate, List.length_cons, List.length_nil, if_true, gInt, gTuple, gLen, Nat.reduceAdd, Nat.reduceLeDiff, giName, r_orV, r_slT, r_slL, r_part, r_noPart, gAdd_int, gSub_int, gLt_int, gLe_int, gGt_int, gGe_int, gNeg_int, gEq_int, gNe_int, gMod_int, gDiv_int, gMul_r, ixL0, ixL1, ixL2, ixL3, ixL4, ixL5, ixL6, ixL7, ixL8, ixL9, ixL10, ixL11, ixL12, ixL13, ixT0, ixT1, ixT2, ixT3, ixT4, ixT5, ixT6, ixT7, ixT8, ixT9, ixT10, and_self, Int.cast_ofNat_Int, Int.reduceEq, decide_true, decide_false, Bool.not_true, Bool.not_false, nums_length, isi_ii, gAbs_int, Int.reduceAdd, Int.reduceSub, Int.reduceMul, Int.reduceNeg, Int.reduceLT, Int.reduceLE, r_ixO, r_trO, r_pop, r_rev, r_opN, r_ext, r_setIx, r_ch3, r_star, starOf, r_lc2, r_revT, r_notT, Option.map_some, List.isEmpty_cons, List.isEmpty_nil, r_setT, giTup, giNames, h1] <;> rfl
    · rw [hit_nil]
      by_cases q : start ≤ t
      · rw [decide_eq_false (show ¬ t < stop by omega), Bool.false_and, Bool.and_false]
      · rw [decide_eq_false q, Bool.false_and]
  have h1' : start < stop := by omega
  cases l with
  | nil =>
    refine ⟨[], ?_, trivial, fun s hs => absurd hs List.not_mem_nil, fun t => ?_, by simp only [List.length_nil]; omega⟩
    · refine def_rt ?_
      show F_turned c [.d (.tup [.int o, .int p, .tup []]), .d (.int start), .d (.int stop), .no, .no, .no, .no, .no, .no, .no, .no, .no] = _
      unfold F_turned
      simp only [r_seq, r_ex, r_set, r_setN, r_drop, r_ret, r_if, r_frz, r_frzS, r_next, r_op, r_fun1, r_call, r_callN, r_cons, r_nil, r_var, r_c, r_bl, r_tr, r_not, r_andB, r_orB, r_andV, r_notV, r_ifE, r_chain, r_lst, r_tup, r_sz, r_own, r_def, r_seqOf, r_lc, r_app, r_fld, r_meth, r_peek, r_enum, szOk, blOf, truD, seqOf, wipeS, lfts, bndo, bnde, getz, getS, setz, setS, List.map_cons, List.map_nil, List.cons_append, List.nil_append, List.replicate, List.length_cons, List.length_nil, if_true, gInt, gTuple, gLen, Nat.reduceAdd, Nat.reduceLeDiff, giName, r_orV, r_slT, r_slL, r_part, r_noPart, gAdd_int, gSub_int, gLt_int, gLe_int, gGt_int, gGe_int, gNeg_int, gEq_int, gNe_int, gMod_int, gDiv_int, gMul_r, ixL0, ixL1, ixL2, ixL3, ixL4, ixL5, ixL6, ixL7, ixL8, ixL9, ixL10, ixL11, ixL12, ixL13, ixT0, ixT1, ixT2, ixT3, ixT4, ixT5, ixT6, ixT7, ixT8, ixT9, ixT10, and_self, Int.cast_ofNat_Int, Int.reduceEq, decide_true, decide_false, Bool.not_true, Bool.not_false, nums_length, isi_ii, gAbs_int, Int.reduceAdd, Int.reduceSub, Int.reduceMul, Int.reduceNeg, Int.reduceLT, Int.reduceLE, r_ixO, r_trO, r_pop, r_rev, r_opN, r_ext, r_setIx, r_ch3, r_star, starOf, r_lc2, r_revT, r_notT, Option.map_some, List.isEmpty_cons, List.isEmpty_nil, r_setT, giTup, giNames, h1] <;> rfl
    · rw [hit_nil]
      unfold cyc
      rw [hit_nil, Bool.and_false, Bool.and_false]
  | cons s0 r0 =>
  by_cases hf : s0 :: r0 = [(0, p)]
  · refine ⟨[(start, stop)], ?_, ⟨Int.le_refl _, h1', trivial⟩, fun s hs => by rw [List.mem_singleton.mp hs]; exact Int.le_refl _, fun t => ?_, by simp only [List.length_cons, List.length_nil]; omega⟩
    · refine def_rt ?_
      show F_turned c [.d (.tup [.int o, .int p, .tup (spsD (s0 :: r0))]), .d (.int start), .d (.int stop), .no, .no, .no, .no, .no, .no, .no, .no, .no] = _
      unfold F_turned
      have e := at_isfull c o p (s0 :: r0)
      rw [decide_eq_true hf] at e
      rw [show spsD (s0 :: r0) = spD s0 :: spsD r0 from rfl] at *
      simp only [r_seq, r_ex, r_set, r_setN, r_drop, r_ret, r_if, r_frz, r_frzS, r_next, r_op, r_fun1, r_call, r_callN, r_cons, r_nil, r_var, r_c, r_bl, r_tr, r_not, r_andB, r_orB, r_andV, r_notV, r_ifE, r_chain, r_lst, r_tup, r_sz, r_own, r_def, r_seqOf, r_lc, r_app, r_fld, r_meth, r_peek, r_enum, szOk, blOf, truD, seqOf, wipeS, lfts, bndo, bnde, getz, getS, setz, setS, List.map_cons, List.map_nil, List.cons_append, List.nil_append, List.replicate, List.length_cons, List.length_nil, if_true, gInt, gTuple, gLen, Nat.reduceAdd, Nat.reduceLeDiff, giName, r_orV, r_slT, r_slL, r_part, r_noPart, gAdd_int, gSub_int, gLt_int, gLe_int, gGt_int, gGe_int, gNeg_int, gEq_int, gNe_int, gMod_int, gDiv_int, gMul_r, ixL0, ixL1, ixL2, ixL3, ixL4, ixL5, ixL6, ixL7, ixL8, ixL9, ixL10, ixL11, ixL12, ixL13, ixT0, ixT1, ixT2, ixT3, ixT4, ixT5, ixT6, ixT7, ixT8, ixT9, ixT10, and_self, Int.cast_ofNat_Int, Int.reduceEq, decide_true, decide_false, Bool.not_true, Bool.not_false, nums_length, isi_ii, gAbs_int, Int.reduceAdd, Int.reduceSub, Int.reduceMul, Int.reduceNeg, Int.reduceLT, Int.reduceLE, r_ixO, r_trO, r_pop, r_rev, r_opN, r_ext, r_setIx, r_ch3, r_star, starOf, r_lc2, r_revT, r_notT, Option.map_some, List.isEmpty_cons, List.isEmpty_nil, r_setT, giTup, giNames, h1, e] <;> rfl
    · rw [hf]
      unfold cyc
      rw [hit_cons, hit_nil, hit_cons, hit_nil, Bool.or_false, Bool.or_false, (inS_iff (t := (t - o) % p) (s := (0, p))).mpr ⟨Int.emod_nonneg _ (by omega), Int.emod_lt_of_pos _ (by omega)⟩, Bool.and_true]
      rfl
  have ef := at_isfull c o p (s0 :: r0)
  rw [decide_eq_false hf] at ef
  obtain ⟨z, b1, b2, b3⟩ := base_of o p start hp
  obtain ⟨z', l1, l2, l3⟩ := base_of o p stop hp
  have m1 : gMod (.int (start - o)) (.int p) = some (.int ((start - o) % p)) := by rw [gMod_int (by omega)]
  have m2 : gMod (.int (stop - o)) (.int p) = some (.int ((stop - o) % p)) := by rw [gMod_int (by omega)]
  generalize (start - o) % p = x1 at *
  generalize (stop - o) % p = x2 at *
  obtain ⟨base, hbase⟩ : ∃ b, start - x1 = b := ⟨_, rfl⟩
  obtain ⟨last, hlast⟩ : ∃ b, stop - x2 = b := ⟨_, rfl⟩
  rw [hbase] at b1 b2 b3
  rw [hlast] at l1 l2 l3
  have hlen := hb 0 (by rw [Int.natCast_zero, Int.zero_mul]; omega)
  have hlen : (s0 :: r0).length ≤ 45000 := by omega
  have hT : Tidy (s0 :: r0) := ⟨0, w.td⟩
  by_cases hq : base = last
  · obtain ⟨u1, u2, u3, u4⟩ := cutG_ok (a := start - base) (b := stop - base) w.td
    have ul := cutG_len (start - base) (stop - base) (s0 :: r0)
    have t1 := shift_tidy base _ u2
    rw [Int.sub_add_cancel] at t1
    refine ⟨shiftS base (cutG (start - base) (stop - base) (s0 :: r0)), ?_, t1, shift_ends fun u hu => ?_, fun t => ?_, by rw [shift_len]; omega⟩
    · refine def_rt ?_
      show F_turned c [.d (.tup [.int o, .int p, .tup (spsD (s0 :: r0))]), .d (.int start), .d (.int stop), .no, .no, .no, .no, .no, .no, .no, .no, .no] = _
      unfold F_turned
      have e1 := at_cutT c (s0 :: r0) (start - base) (stop - base) hT (by omega)
      have e2 := at_moved c (cutG (start - base) (stop - base) (s0 :: r0)) base (by omega)
      rw [show spsD (s0 :: r0) = spD s0 :: spsD r0 from rfl] at *
      simp only [r_seq, r_ex, r_set, r_setN, r_drop, r_ret, r_if, r_frz, r_frzS, r_next, r_op, r_fun1, r_call, r_callN, r_cons, r_nil, r_var, r_c, r_bl, r_tr, r_not, r_andB, r_orB, r_andV, r_notV, r_ifE, r_chain, r_lst, r_tup, r_sz, r_own, r_def, r_seqOf, r_lc, r_app, r_fld, r_meth, r_peek, r_enum, szOk, blOf, truD, seqOf, wipeS, lfts, bndo, bnde, getz, getS, setz, setS, List.map_cons, List.map_nil, List.cons_append, List.nil_append, List.replicate, List.length_cons, List.length_nil, if_true, gInt, gTuple, gLen, Nat.reduceAdd, Nat.reduceLeDiff, giName, r_orV, r_slT, r_slL, r_part, r_noPart, gAdd_int, gSub_int, gLt_int, gLe_int, gGt_int, gGe_int, gNeg_int, gEq_int, gNe_int, gMod_int, gDiv_int, gMul_r, ixL0, ixL1, ixL2, ixL3, ixL4, ixL5, ixL6, ixL7, ixL8, ixL9, ixL10, ixL11, ixL12, ixL13, ixT0, ixT1, ixT2, ixT3, ixT4, ixT5, ixT6, ixT7, ixT8, ixT9, ixT10, and_self, Int.cast_ofNat_Int, Int.reduceEq, decide_true, decide_false, Bool.not_true, Bool.not_false, nums_length, isi_ii, gAbs_int, Int.reduceAdd, Int.reduceSub, Int.reduceMul, Int.reduceNeg, Int.reduceLT, Int.reduceLE, r_ixO, r_trO, r_pop, r_rev, r_opN, r_ext, r_setIx, r_ch3, r_star, starOf, r_lc2, r_revT, r_notT, Option.map_some, List.isEmpty_cons, List.isEmpty_nil, r_setT, giTup, giNames, h1, ef, m1, m2, hbase, hlast, hq] at *
      simp only [r_seq, r_ex, r_set, r_setN, r_drop, r_ret, r_if, r_frz, r_frzS, r_next, r_op, r_fun1, r_call, r_callN, r_cons, r_nil, r_var, r_c, r_bl, r_tr, r_not, r_andB, r_orB, r_andV, r_notV, r_ifE, r_chain, r_lst, r_tup, r_sz, r_own, r_def, r_seqOf, r_lc, r_app, r_fld, r_meth, r_peek, r_enum, szOk, blOf, truD, seqOf, wipeS, lfts, bndo, bnde, getz, getS, setz, setS, List.map_cons, List.map_nil, List.cons_append, List.nil_append, List.replicate, List.length_cons, List.length_nil, if_true, gInt, gTuple, gLen, Nat.reduceAdd, Nat.reduceLeDiff, giName, r_orV, r_slT, r_slL, r_part, r_noPart, gAdd_int, gSub_int, gLt_int, gLe_int, gGt_int, gGe_int, gNeg_int, gEq_int, gNe_int, gMod_int, gDiv_int, gMul_r, ixL0, ixL1, ixL2, ixL3, ixL4, ixL5, ixL6, ixL7, ixL8, ixL9, ixL10, ixL11, ixL12, ixL13, ixT0, ixT1, ixT2, ixT3, ixT4, ixT5, ixT6, ixT7, ixT8, ixT9, ixT10, and_self, Int.cast_ofNat_Int, Int.reduceEq, decide_true, decide_false, Bool.not_true, Bool.not_false, nums_length, isi_ii, gAbs_int, Int.reduceAdd, Int.reduceSub, Int.reduceMul, Int.reduceNeg, Int.reduceLT, Int.reduceLE, r_ixO, r_trO, r_pop, r_rev, r_opN, r_ext, r_setIx, r_ch3, r_star, starOf, r_lc2, r_revT, r_notT, Option.map_some, List.isEmpty_cons, List.isEmpty_nil, e1, e2]
    · have := (u3 u hu).2
      show u.2 + base ≤ stop
      omega
    · rw [shift_hit, u4]
      by_cases c1 : start ≤ t
      · by_cases c2 : t < stop
        · unfold cyc
          rw [emod_base b1 (by omega) (by omega), decide_eq_true (show start - base ≤ t - base by omega), decide_eq_true (show t - base < stop - base by omega), decide_eq_true c1, decide_eq_true c2]
        · rw [decide_eq_false (show ¬ t - base < stop - base by omega), decide_eq_false c2, Bool.false_and, Bool.false_and, Bool.and_false, Bool.and_false]
      · rw [decide_eq_false (show ¬ start - base ≤ t - base by omega), decide_eq_false c1, Bool.false_and, Bool.false_and]
  · -- whole turns in between
    have hzz : z < z' := by
      rcases Int.lt_or_le z z' with g | g
      · exact g
      · exfalso
        by_cases ge : z = z'
        · exact hq (by rw [b1, l1, ge])
        · have h5 : (z' + 1) * p ≤ z * p := Int.mul_le_mul_of_nonneg_right (by omega) (by omega)
          rw [Int.add_mul] at h5
          omega
    obtain ⟨n, hn⟩ : ∃ n : Nat, z' = z + 1 + n := ⟨(z' - z - 1).toNat, by omega⟩
    have hl : last = base + p + n * p := by rw [l1, b1, hn, Int.add_mul, Int.add_mul, Int.one_mul]; omega
    have hn2 := hb n (by omega)
    obtain ⟨j1, j2, j3⟩ := turn_join (n := n) w b1 b2 b3 hl l2 l3
    have ul := cutG_len (start - base) p (s0 :: r0)
    have vl := cutG_len 0 (stop - last) (s0 :: r0)
    have bl := blk_len p (s0 :: r0) n (base + p)
    have e1 := at_cutT c (s0 :: r0) (start - base) p hT (by omega)
    have e2 := at_moved c (cutG (start - base) p (s0 :: r0)) base (by omega)
    have e3 := at_cutT c (s0 :: r0) 0 (stop - last) hT (by omega)
    have e4 := at_moved c (cutG 0 (stop - last) (s0 :: r0)) last (by omega)
    have er := turns_rng hp hp2 hl
    have ew := turns_row c o p start stop base last (s0 :: r0) (spsD (shiftS base (cutG (start - base) p (s0 :: r0)))) n
    have k1 : (blk p (s0 :: r0) n (base + p)).length + 2 * (s0 :: r0).length ≤ 89000 := by
      rw [bl]
      rw [Nat.add_mul] at hn2
      exact hn2
    have tot : (shiftS base (cutG (start - base) p (s0 :: r0)) ++ (blk p (s0 :: r0) n (base + p) ++ shiftS last (cutG 0 (stop - last) (s0 :: r0)))).length ≤ 89000 := by
      rw [List.length_append, List.length_append, shift_len, shift_len]
      omega
    have n1 : (spsD (blk p (s0 :: r0) n (base + p))).length ≤ 100000 := by rw [spsD_len]; omega
    have n2 : (spsD (shiftS base (cutG (start - base) p (s0 :: r0)))).length + (spsD (blk p (s0 :: r0) n (base + p))).length ≤ 100000 := by rw [spsD_len, spsD_len, shift_len]; omega
    have n3 : (spsD (shiftS base (cutG (start - base) p (s0 :: r0))) ++ spsD (blk p (s0 :: r0) n (base + p))).length + (spsD (shiftS last (cutG 0 (stop - last) (s0 :: r0)))).length ≤ 100000 := by rw [List.length_append, spsD_len, spsD_len, spsD_len, shift_len, shift_len]; omega
    have i0 := gIx_hd (s := s0) (r := r0) (.tup (spsD (s0 :: r0))) (.inl rfl)
    have i1 := gIx_last (l := s0 :: r0) (.tup (spsD (s0 :: r0))) (.inl rfl) (List.cons_ne_nil _ _)
    have lend := w.le _ (List.getLast_mem (List.cons_ne_nil s0 r0))
    have ends := tidy_ends (s0 :: r0) 0 (List.cons_ne_nil _ _) w.td
    have emg := at_mergedL c _ (show (shiftS base (cutG (start - base) p (s0 :: r0)) ++ (blk p (s0 :: r0) n (base + p) ++ shiftS last (cutG 0 (stop - last) (s0 :: r0)))).length < 90000 by omega)
    have ecat : spsD (shiftS base (cutG (start - base) p (s0 :: r0))) ++ spsD (blk p (s0 :: r0) n (base + p)) ++ spsD (shiftS last (cutG 0 (stop - last) (s0 :: r0))) = spsD (shiftS base (cutG (start - base) p (s0 :: r0)) ++ (blk p (s0 :: r0) n (base + p) ++ shiftS last (cutG 0 (stop - last) (s0 :: r0)))) := by rw [spsD_app, spsD_app, List.append_assoc]
    have gl : ∀ xs : List D, gList [.tup xs] = some xs := fun _ => rfl
    have hbl : (base == last) = false := by simpa using hq
    have i0' : gIx (.tup (spsD (s0 :: r0))) (.int 0) = some (.tup [.int s0.1, .int s0.2]) := i0
    have i1' : gIx (.tup (spsD (s0 :: r0))) (.int (-1)) = some (.tup [.int ((s0 :: r0).getLast (List.cons_ne_nil _ _)).1, .int ((s0 :: r0).getLast (List.cons_ne_nil _ _)).2]) := i1
    rw [← ecat] at emg
    have hr1 : (spsD (s0 :: r0)).isEmpty = false := rfl
    by_cases hc : s0.1 = 0 ∧ ((s0 :: r0).getLast (List.cons_ne_nil _ _)).2 = p
    · obtain ⟨⟨y, mt⟩, mh⟩ := mergedS_ok j2
      have mb := row_bounds (a := start) (b := stop) mt.valid fun t ht => by
        rw [mh, j1, Bool.and_eq_true, Bool.and_eq_true] at ht
        exact ⟨of_decide_eq_true ht.1, of_decide_eq_true ht.2.1⟩
      refine ⟨_, ?_, mt.raise fun s hs => (mb s hs).1, fun s hs => (mb s hs).2, fun t => by rw [mh, j1], by have := mergedS_len (shiftS base (cutG (start - base) p (s0 :: r0)) ++ (blk p (s0 :: r0) n (base + p) ++ shiftS last (cutG 0 (stop - last) (s0 :: r0)))); omega⟩
      refine def_rt ?_
      show F_turned c [.d (.tup [.int o, .int p, .tup (spsD (s0 :: r0))]), .d (.int start), .d (.int stop), .no, .no, .no, .no, .no, .no, .no, .no, .no] = _
      unfold F_turned
      obtain ⟨hc1, hc2⟩ := hc
      generalize spsD (s0 :: r0) = L at *
      simp only [r_seq, r_ex, r_set, r_setN, r_drop, r_ret, r_if, r_frz, r_frzS, r_next, r_op, r_fun1, r_call, r_callN, r_cons, r_nil, r_var, r_c, r_bl, r_tr, r_not, r_andB, r_orB, r_andV, r_notV, r_ifE, r_chain, r_lst, r_tup, r_sz, r_own, r_def, r_seqOf, r_lc, r_app, r_fld, r_meth, r_peek, r_enum, szOk, blOf, truD, seqOf, wipeS, lfts, bndo, bnde, getz, getS, setz, setS, List.map_cons, List.map_nil, List.cons_append, List.nil_append, List.replicate, List.length_cons, List.length_nil, if_true, gInt, gTuple, gLen, Nat.reduceAdd, Nat.reduceLeDiff, giName, r_orV, r_slT, r_slL, r_part, r_noPart, gAdd_int, gSub_int, gLt_int, gLe_int, gGt_int, gGe_int, gNeg_int, gEq_int, gNe_int, gMod_int, gDiv_int, gMul_r, ixL0, ixL1, ixL2, ixL3, ixL4, ixL5, ixL6, ixL7, ixL8, ixL9, ixL10, ixL11, ixL12, ixL13, ixT0, ixT1, ixT2, ixT3, ixT4, ixT5, ixT6, ixT7, ixT8, ixT9, ixT10, and_self, Int.cast_ofNat_Int, Int.reduceEq, decide_true, decide_false, Bool.not_true, Bool.not_false, nums_length, isi_ii, gAbs_int, Int.reduceAdd, Int.reduceSub, Int.reduceMul, Int.reduceNeg, Int.reduceLT, Int.reduceLE, r_ixO, r_trO, r_pop, r_rev, r_opN, r_ext, r_setIx, r_ch3, r_star, starOf, r_lc2, r_revT, r_notT, Option.map_some, List.isEmpty_cons, List.isEmpty_nil, r_setT, giTup, giNames, h1, hr1, ef, m1, m2, hbase, hlast, hq, e1, e2, e3, e4, er, ew, gl, Option.bind_some, n1, n2, n3, i0', i1', hc1, hc2]
      simp only [r_seq, r_ex, r_set, r_setN, r_drop, r_ret, r_if, r_frz, r_frzS, r_next, r_op, r_fun1, r_call, r_callN, r_cons, r_nil, r_var, r_c, r_bl, r_tr, r_not, r_andB, r_orB, r_andV, r_notV, r_ifE, r_chain, r_lst, r_tup, r_sz, r_own, r_def, r_seqOf, r_lc, r_app, r_fld, r_meth, r_peek, r_enum, szOk, blOf, truD, seqOf, wipeS, lfts, bndo, bnde, getz, getS, setz, setS, List.map_cons, List.map_nil, List.cons_append, List.nil_append, List.replicate, List.length_cons, List.length_nil, if_true, gInt, gTuple, gLen, Nat.reduceAdd, Nat.reduceLeDiff, giName, r_orV, r_slT, r_slL, r_part, r_noPart, gAdd_int, gSub_int, gLt_int, gLe_int, gGt_int, gGe_int, gNeg_int, gEq_int, gNe_int, gMod_int, gDiv_int, gMul_r, ixL0, ixL1, ixL2, ixL3, ixL4, ixL5, ixL6, ixL7, ixL8, ixL9, ixL10, ixL11, ixL12, ixL13, ixT0, ixT1, ixT2, ixT3, ixT4, ixT5, ixT6, ixT7, ixT8, ixT9, ixT10, and_self, Int.cast_ofNat_Int, Int.reduceEq, decide_true, decide_false, Bool.not_true, Bool.not_false, nums_length, isi_ii, gAbs_int, Int.reduceAdd, Int.reduceSub, Int.reduceMul, Int.reduceNeg, Int.reduceLT, Int.reduceLE, r_ixO, r_trO, r_pop, r_rev, r_opN, r_ext, r_setIx, r_ch3, r_star, starOf, r_lc2, r_revT, r_notT, Option.map_some, List.isEmpty_cons, List.isEmpty_nil, emg]
    · have td : TidyF start (shiftS base (cutG (start - base) p (s0 :: r0)) ++ (blk p (s0 :: r0) n (base + p) ++ shiftS last (cutG 0 (stop - last) (s0 :: r0)))) := by
        by_cases g : s0.1 = 0
        · refine j3 0 (Int.le_refl _) (by omega) w.td fun s hs => ?_
          have := ends s hs
          have : ((s0 :: r0).getLast (List.cons_ne_nil _ _)).2 ≠ p := fun e => hc ⟨g, e⟩
          omega
        · refine j3 1 (by omega) (Int.le_refl _) (w.td.raise fun s hs => ?_) fun s hs => ?_
          · have h0 := w.td.1
            rcases List.mem_cons.mp hs with q | q
            · rw [q]; omega
            · have := w.td.2.2.starts s q
              have := w.td.2.1
              omega
          · have := w.le s hs
            omega
      have mb := row_bounds (a := start) (b := stop) td.valid fun t ht => by
        rw [j1, Bool.and_eq_true, Bool.and_eq_true] at ht
        exact ⟨of_decide_eq_true ht.1, of_decide_eq_true ht.2.1⟩
      refine ⟨_, ?_, td, fun s hs => (mb s hs).2, j1, by omega⟩
      refine def_rt ?_
      show F_turned c [.d (.tup [.int o, .int p, .tup (spsD (s0 :: r0))]), .d (.int start), .d (.int stop), .no, .no, .no, .no, .no, .no, .no, .no, .no] = _
      unfold F_turned
      rw [← ecat]
      generalize spsD (s0 :: r0) = L at *
      by_cases hc1 : s0.1 = 0
      · have hc2 : ((s0 :: r0).getLast (List.cons_ne_nil _ _)).2 ≠ p := fun e => hc ⟨hc1, e⟩
        simp only [r_seq, r_ex, r_set, r_setN, r_drop, r_ret, r_if, r_frz, r_frzS, r_next, r_op, r_fun1, r_call, r_callN, r_cons, r_nil, r_var, r_c, r_bl, r_tr, r_not, r_andB, r_orB, r_andV, r_notV, r_ifE, r_chain, r_lst, r_tup, r_sz, r_own, r_def, r_seqOf, r_lc, r_app, r_fld, r_meth, r_peek, r_enum, szOk, blOf, truD, seqOf, wipeS, lfts, bndo, bnde, getz, getS, setz, setS, List.map_cons, List.map_nil, List.cons_append, List.nil_append, List.replicate, List.length_cons, List.length_nil, if_true, gInt, gTuple, gLen, Nat.reduceAdd, Nat.reduceLeDiff, giName, r_orV, r_slT, r_slL, r_part, r_noPart, gAdd_int, gSub_int, gLt_int, gLe_int, gGt_int, gGe_int, gNeg_int, gEq_int, gNe_int, gMod_int, gDiv_int, gMul_r, ixL0, ixL1, ixL2, ixL3, ixL4, ixL5, ixL6, ixL7, ixL8, ixL9, ixL10, ixL11, ixL12, ixL13, ixT0, ixT1, ixT2, ixT3, ixT4, ixT5, ixT6, ixT7, ixT8, ixT9, ixT10, and_self, Int.cast_ofNat_Int, Int.reduceEq, decide_true, decide_false, Bool.not_true, Bool.not_false, nums_length, isi_ii, gAbs_int, Int.reduceAdd, Int.reduceSub, Int.reduceMul, Int.reduceNeg, Int.reduceLT, Int.reduceLE, r_ixO, r_trO, r_pop, r_rev, r_opN, r_ext, r_setIx, r_ch3, r_star, starOf, r_lc2, r_revT, r_notT, Option.map_some, List.isEmpty_cons, List.isEmpty_nil, r_setT, giTup, giNames, h1, hr1, ef, m1, m2, hbase, hlast, hq, e1, e2, e3, e4, er, ew, gl, Option.bind_some, n1, n2, n3, i0', i1', hc1, hc2]
      · simp only [r_seq, r_ex, r_set, r_setN, r_drop, r_ret, r_if, r_frz, r_frzS, r_next, r_op, r_fun1, r_call, r_callN, r_cons, r_nil, r_var, r_c, r_bl, r_tr, r_not, r_andB, r_orB, r_andV, r_notV, r_ifE, r_chain, r_lst, r_tup, r_sz, r_own, r_def, r_seqOf, r_lc, r_app, r_fld, r_meth, r_peek, r_enum, szOk, blOf, truD, seqOf, wipeS, lfts, bndo, bnde, getz, getS, setz, setS, List.map_cons, List.map_nil, List.cons_append, List.nil_append, List.replicate, List.length_cons, List.length_nil, if_true, gInt, gTuple, gLen, Nat.reduceAdd, Nat.reduceLeDiff, giName, r_orV, r_slT, r_slL, r_part, r_noPart, gAdd_int, gSub_int, gLt_int, gLe_int, gGt_int, gGe_int, gNeg_int, gEq_int, gNe_int, gMod_int, gDiv_int, gMul_r, ixL0, ixL1, ixL2, ixL3, ixL4, ixL5, ixL6, ixL7, ixL8, ixL9, ixL10, ixL11, ixL12, ixL13, ixT0, ixT1, ixT2, ixT3, ixT4, ixT5, ixT6, ixT7, ixT8, ixT9, ixT10, and_self, Int.cast_ofNat_Int, Int.reduceEq, decide_true, decide_false, Bool.not_true, Bool.not_false, nums_length, isi_ii, gAbs_int, Int.reduceAdd, Int.reduceSub, Int.reduceMul, Int.reduceNeg, Int.reduceLT, Int.reduceLE, r_ixO, r_trO, r_pop, r_rev, r_opN, r_ext, r_setIx, r_ch3, r_star, starOf, r_lc2, r_revT, r_notT, Option.map_some, List.isEmpty_cons, List.isEmpty_nil, r_setT, giTup, giNames, h1, hr1, ef, m1, m2, hbase, hlast, hq, e1, e2, e3, e4, er, ew, gl, Option.bind_some, n1, n2, n3, i0', i1', hc1]

/-! ### a wheel from another origin, the next instant of a wheel -/
theorem at_cycle_from (c : Cl) (o p start : Int) (l : List Seg) (w : Wh p l) (hp2 : p < 1073741824) (hb : l.length ≤ 29000) :
    ∃ r, G_cycle_from c [.tup [.int o, .int p, .tup (spsD l)], .int start] = some (.ok (.tup (spsD r))) ∧ Wh p r ∧ (∀ t, cyc start p r t = cyc o p l t) ∧ r.length ≤ 90000 ∧ (start = o → r = l) := by
  have hp := w.p1
  by_cases h : start = o
  · refine ⟨l, ?_, w, fun t => by rw [h], by omega, fun _ => rfl⟩
    refine def_rt ?_
    show F_cycle_from c [.d (.tup [.int o, .int p, .tup (spsD l)]), .d (.int start)] = _
    unfold F_cycle_from
    simp only [r_seq, r_ex, r_set, r_setN, r_drop, r_ret, r_if, r_frz, r_frzS, r_next, r_op, r_fun1, r_call, r_callN, r_cons, r_nil, r_var, r_c, r_bl, r_tr, r_not, r_andB, r_orB, r_andV, r_notV, r_ifE, r_chain, r_lst, r_tup, r_sz, r_own, r_def, r_seqOf, r_lc, r_app, r_fld, r_meth, r_peek, r_enum, szOk, blOf, truD, seqOf, wipeS, lfts, bndo, bnde, getz, getS, setz, setS, List.map_cons, List.map_nil, List.cons_append, List.nil_append, List.replicate, List.length_cons, List.length_nil, if_true, gInt, gTuple, gLen, Nat.reduceAdd, Nat.reduceLeDiff, giName, r_orV, r_slT, r_slL, r_part, r_noPart, gAdd_int, gSub_int, gLt_int, gLe_int, gGt_int, gGe_int, gNeg_int, gEq_int, gNe_int, gMod_int, gDiv_int, gMul_r, ixL0, ixL1, ixL2, ixL3, ixL4, ixL5, ixL6, ixL7, ixL8, ixL9, ixL10, ixL11, ixL12, ixL13, ixT0, ixT1, ixT2, ixT3, ixT4, ixT5, ixT6, ixT7, ixT8, ixT9, ixT10, and_self, Int.cast_ofNat_Int, Int.reduceEq, decide_true, decide_false, Bool.not_true, Bool.not_false, nums_length, isi_ii, gAbs_int, Int.reduceAdd, Int.reduceSub, Int.reduceMul, Int.reduceNeg, Int.reduceLT, Int.reduceLE, r_ixO, r_trO, r_pop, r_rev, r_opN, r_ext, r_setIx, r_ch3, r_star, starOf, r_lc2, r_revT, r_notT, Option.map_some, List.isEmpty_cons, List.isEmpty_nil, h]
  · obtain ⟨r, e, r1, r2, r3, r4⟩ := at_turned c o p start (start + p) l w hp2 fun n hn => by
      have : n ≤ 1 := by
        rcases Nat.lt_or_ge 1 n with g | g
        · have : (2 : Int) * p ≤ n * p := Int.mul_le_mul_of_nonneg_right (by omega) (by omega)
          omega
        · exact g
      have : (n + 2) * l.length ≤ 3 * l.length := Nat.mul_le_mul_right _ (by omega)
      omega
    have em := at_moved c r (-start) (by omega)
    refine ⟨shiftS (-start) r, ?_, ⟨hp, ?_, shift_ends fun u hu => ?_⟩, fun t => ?_, by rw [shift_len]; omega, fun g => absurd g h⟩
    · refine def_rt ?_
      show F_cycle_from c [.d (.tup [.int o, .int p, .tup (spsD l)]), .d (.int start)] = _
      unfold F_cycle_from
      simp only [r_seq, r_ex, r_set, r_setN, r_drop, r_ret, r_if, r_frz, r_frzS, r_next, r_op, r_fun1, r_call, r_callN, r_cons, r_nil, r_var, r_c, r_bl, r_tr, r_not, r_andB, r_orB, r_andV, r_notV, r_ifE, r_chain, r_lst, r_tup, r_sz, r_own, r_def, r_seqOf, r_lc, r_app, r_fld, r_meth, r_peek, r_enum, szOk, blOf, truD, seqOf, wipeS, lfts, bndo, bnde, getz, getS, setz, setS, List.map_cons, List.map_nil, List.cons_append, List.nil_append, List.replicate, List.length_cons, List.length_nil, if_true, gInt, gTuple, gLen, Nat.reduceAdd, Nat.reduceLeDiff, giName, r_orV, r_slT, r_slL, r_part, r_noPart, gAdd_int, gSub_int, gLt_int, gLe_int, gGt_int, gGe_int, gNeg_int, gEq_int, gNe_int, gMod_int, gDiv_int, gMul_r, ixL0, ixL1, ixL2, ixL3, ixL4, ixL5, ixL6, ixL7, ixL8, ixL9, ixL10, ixL11, ixL12, ixL13, ixT0, ixT1, ixT2, ixT3, ixT4, ixT5, ixT6, ixT7, ixT8, ixT9, ixT10, and_self, Int.cast_ofNat_Int, Int.reduceEq, decide_true, decide_false, Bool.not_true, Bool.not_false, nums_length, isi_ii, gAbs_int, Int.reduceAdd, Int.reduceSub, Int.reduceMul, Int.reduceNeg, Int.reduceLT, Int.reduceLE, r_ixO, r_trO, r_pop, r_rev, r_opN, r_ext, r_setIx, r_ch3, r_star, starOf, r_lc2, r_revT, r_notT, Option.map_some, List.isEmpty_cons, List.isEmpty_nil, h, e, em]
    · have := shift_tidy (-start) _ r1
      rw [Int.add_right_neg] at this
      exact this
    · have := r2 u hu
      show u.2 + -start ≤ p
      omega
    · unfold cyc
      have m0 := Int.emod_nonneg (t - start) (show p ≠ 0 by omega)
      have m1 := Int.emod_lt_of_pos (t - start) (show 0 < p by omega)
      have h3 := Int.mul_ediv_add_emod (t - start) p
      rw [Int.mul_comm] at h3
      rw [shift_hit, r3, decide_eq_true (show start ≤ (t - start) % p - -start by omega), decide_eq_true (show (t - start) % p - -start < start + p by omega), Bool.true_and, Bool.true_and]
      have := cyc_turn o p ((t - start) / p) ((t - start) % p - -start) l
      rw [← this, show (t - start) % p - -start + (t - start) / p * p = t by omega]
      rfl

/-! ### the last difference of two rows, of two wheels -/
theorem spsD_rev (l : List Seg) : (spsD l).reverse = spsD l.reverse := by unfold spsD; rw [List.map_reverse]
theorem lu_loop (S0 S1 : Sl) : ∀ (r q : List Seg) (y2 y3 : Sl),
    loopF (giTup [2, 3]) (fSeq (fIfS (fBl (fop gNe (fop gIx (fVar 2) (fC (.int 1))) (fop gIx (fVar 3) (fC (.int 1))))) (fRet (fop gSub (fcall gMax (fCons (fop gIx (fVar 2) (fC (.int 1))) (fCons (fop gIx (fVar 3) (fC (.int 1))) fNil))) (fC (.int 1)))) fNext) (fIfS (fBl (fop gNe (fop gIx (fVar 2) (fC (.int 0))) (fop gIx (fVar 3) (fC (.int 0))))) (fRet (fop gSub (fcall gMax (fCons (fop gIx (fVar 2) (fC (.int 0))) (fCons (fop gIx (fVar 3) (fC (.int 0))) fNil))) (fC (.int 1)))) fNext)) (zipD (spsD r) (spsD q)) [S0, S1, y2, y3, .no, .no] = some (.rt (.int (luR r q))) ∨
    ∃ y2' y3' : Sl, loopF (giTup [2, 3]) (fSeq (fIfS (fBl (fop gNe (fop gIx (fVar 2) (fC (.int 1))) (fop gIx (fVar 3) (fC (.int 1))))) (fRet (fop gSub (fcall gMax (fCons (fop gIx (fVar 2) (fC (.int 1))) (fCons (fop gIx (fVar 3) (fC (.int 1))) fNil))) (fC (.int 1)))) fNext) (fIfS (fBl (fop gNe (fop gIx (fVar 2) (fC (.int 0))) (fop gIx (fVar 3) (fC (.int 0))))) (fRet (fop gSub (fcall gMax (fCons (fop gIx (fVar 2) (fC (.int 0))) (fCons (fop gIx (fVar 3) (fC (.int 0))) fNil))) (fC (.int 1)))) fNext)) (zipD (spsD r) (spsD q)) [S0, S1, y2, y3, .no, .no] = some (.nx [S0, S1, y2', y3', .no, .no]) ∧
      (r = q ∨ (∃ w v z, r = w ∧ q = w ++ v :: z ∧ luR r q = v.2 - 1) ∨ (∃ w u z, r = w ++ u :: z ∧ q = w ∧ luR r q = u.2 - 1))
  | [], [], y2, y3 => .inr ⟨y2, y3, rfl, .inl rfl⟩
  | [], v :: q, y2, y3 => .inr ⟨y2, y3, rfl, .inr (.inl ⟨[], v, q, rfl, rfl, rfl⟩)⟩
  | u :: r, [], y2, y3 => .inr ⟨y2, y3, rfl, .inr (.inr ⟨[], u, r, rfl, rfl, rfl⟩)⟩
  | u :: r, v :: q, y2, y3 => by
    have e0 : zipD (spsD (u :: r)) (spsD (v :: q)) = D.tup [spD u, spD v] :: zipD (spsD r) (spsD q) := rfl
    rw [e0, loopC]
    by_cases h2 : u.2 = v.2
    · by_cases h1 : u.1 = v.1
      · have el : luR (u :: r) (v :: q) = luR r q := by
          show (if u.2 ≠ v.2 then _ else if u.1 ≠ v.1 then _ else luR r q) = _
          rw [if_neg (fun h => h h2), if_neg (fun h => h h1)]
        have huv : u = v := Prod.ext h1 h2
        rw [el]
        rcases lu_loop S0 S1 r q (.d (spD u)) (.d (spD v)) with g | ⟨y2', y3', g, k⟩
        · left
          rw [← g]
          simp only [spD, giTup, giNames]
          simp only [r_seq, r_ex, r_set, r_setN, r_drop, r_ret, r_if, r_frz, r_frzS, r_next, r_op, r_fun1, r_call, r_callN, r_cons, r_nil, r_var, r_c, r_bl, r_tr, r_not, r_andB, r_orB, r_andV, r_notV, r_ifE, r_chain, r_lst, r_tup, r_sz, r_own, r_def, r_seqOf, r_lc, r_app, r_fld, r_meth, r_peek, r_enum, szOk, blOf, truD, seqOf, wipeS, lfts, bndo, bnde, getz, getS, setz, setS, List.map_cons, List.map_nil, List.cons_append, List.nil_append, List.replicate, List.length_cons, List.length_nil, if_true, gInt, gTuple, gLen, Nat.reduceAdd, Nat.reduceLeDiff, giName, r_orV, r_slT, r_slL, r_part, r_noPart, gAdd_int, gSub_int, gLt_int, gLe_int, gGt_int, gGe_int, gNeg_int, gEq_int, gNe_int, gMod_int, gDiv_int, gMul_r, ixL0, ixL1, ixL2, ixL3, ixL4, ixL5, ixL6, ixL7, ixL8, ixL9, ixL10, ixL11, ixL12, ixL13, ixT0, ixT1, ixT2, ixT3, ixT4, ixT5, ixT6, ixT7, ixT8, ixT9, ixT10, and_self, Int.cast_ofNat_Int, Int.reduceEq, decide_true, decide_false, Bool.not_true, Bool.not_false, nums_length, isi_ii, gAbs_int, Int.reduceAdd, Int.reduceSub, Int.reduceMul, Int.reduceNeg, Int.reduceLT, Int.reduceLE, r_ixO, r_trO, r_pop, r_rev, r_opN, r_ext, r_setIx, r_ch3, r_star, starOf, r_lc2, r_revT, r_notT, Option.map_some, List.isEmpty_cons, List.isEmpty_nil, h1, h2, gNe_int, gEq_int] <;> rfl
        · right
          refine ⟨y2', y3', ?_, ?_⟩
          · rw [← g]
            simp only [spD, giTup, giNames]
            simp only [r_seq, r_ex, r_set, r_setN, r_drop, r_ret, r_if, r_frz, r_frzS, r_next, r_op, r_fun1, r_call, r_callN, r_cons, r_nil, r_var, r_c, r_bl, r_tr, r_not, r_andB, r_orB, r_andV, r_notV, r_ifE, r_chain, r_lst, r_tup, r_sz, r_own, r_def, r_seqOf, r_lc, r_app, r_fld, r_meth, r_peek, r_enum, szOk, blOf, truD, seqOf, wipeS, lfts, bndo, bnde, getz, getS, setz, setS, List.map_cons, List.map_nil, List.cons_append, List.nil_append, List.replicate, List.length_cons, List.length_nil, if_true, gInt, gTuple, gLen, Nat.reduceAdd, Nat.reduceLeDiff, giName, r_orV, r_slT, r_slL, r_part, r_noPart, gAdd_int, gSub_int, gLt_int, gLe_int, gGt_int, gGe_int, gNeg_int, gEq_int, gNe_int, gMod_int, gDiv_int, gMul_r, ixL0, ixL1, ixL2, ixL3, ixL4, ixL5, ixL6, ixL7, ixL8, ixL9, ixL10, ixL11, ixL12, ixL13, ixT0, ixT1, ixT2, ixT3, ixT4, ixT5, ixT6, ixT7, ixT8, ixT9, ixT10, and_self, Int.cast_ofNat_Int, Int.reduceEq, decide_true, decide_false, Bool.not_true, Bool.not_false, nums_length, isi_ii, gAbs_int, Int.reduceAdd, Int.reduceSub, Int.reduceMul, Int.reduceNeg, Int.reduceLT, Int.reduceLE, r_ixO, r_trO, r_pop, r_rev, r_opN, r_ext, r_setIx, r_ch3, r_star, starOf, r_lc2, r_revT, r_notT, Option.map_some, List.isEmpty_cons, List.isEmpty_nil, h1, h2, gNe_int, gEq_int] <;> rfl
          · rcases k with k | ⟨w, x, z, k1, k2, k3⟩ | ⟨w, x, z, k1, k2, k3⟩
            · exact .inl (by rw [huv, k])
            · exact .inr (.inl ⟨v :: w, x, z, by rw [huv, k1], by rw [k2]; rfl, k3⟩)
            · exact .inr (.inr ⟨v :: w, x, z, by rw [huv, k1]; rfl, by rw [k2], k3⟩)
      · left
        have el : luR (u :: r) (v :: q) = (if v.1 > u.1 then v.1 else u.1) - 1 := by
          show (if u.2 ≠ v.2 then _ else if u.1 ≠ v.1 then _ else luR r q) = _
          rw [if_neg (fun h => h h2), if_pos h1]
        rw [el]
        simp only [spD, giTup, giNames]
        simp only [r_seq, r_ex, r_set, r_setN, r_drop, r_ret, r_if, r_frz, r_frzS, r_next, r_op, r_fun1, r_call, r_callN, r_cons, r_nil, r_var, r_c, r_bl, r_tr, r_not, r_andB, r_orB, r_andV, r_notV, r_ifE, r_chain, r_lst, r_tup, r_sz, r_own, r_def, r_seqOf, r_lc, r_app, r_fld, r_meth, r_peek, r_enum, szOk, blOf, truD, seqOf, wipeS, lfts, bndo, bnde, getz, getS, setz, setS, List.map_cons, List.map_nil, List.cons_append, List.nil_append, List.replicate, List.length_cons, List.length_nil, if_true, gInt, gTuple, gLen, Nat.reduceAdd, Nat.reduceLeDiff, giName, r_orV, r_slT, r_slL, r_part, r_noPart, gAdd_int, gSub_int, gLt_int, gLe_int, gGt_int, gGe_int, gNeg_int, gEq_int, gNe_int, gMod_int, gDiv_int, gMul_r, ixL0, ixL1, ixL2, ixL3, ixL4, ixL5, ixL6, ixL7, ixL8, ixL9, ixL10, ixL11, ixL12, ixL13, ixT0, ixT1, ixT2, ixT3, ixT4, ixT5, ixT6, ixT7, ixT8, ixT9, ixT10, and_self, Int.cast_ofNat_Int, Int.reduceEq, decide_true, decide_false, Bool.not_true, Bool.not_false, nums_length, isi_ii, gAbs_int, Int.reduceAdd, Int.reduceSub, Int.reduceMul, Int.reduceNeg, Int.reduceLT, Int.reduceLE, r_ixO, r_trO, r_pop, r_rev, r_opN, r_ext, r_setIx, r_ch3, r_star, starOf, r_lc2, r_revT, r_notT, Option.map_some, List.isEmpty_cons, List.isEmpty_nil, h1, h2, gNe_int, gEq_int, gMax0] <;> rfl
    · left
      have el : luR (u :: r) (v :: q) = (if v.2 > u.2 then v.2 else u.2) - 1 := by
        show (if u.2 ≠ v.2 then _ else _) = _
        rw [if_pos h2]
      rw [el]
      simp only [spD, giTup, giNames]
      simp only [r_seq, r_ex, r_set, r_setN, r_drop, r_ret, r_if, r_frz, r_frzS, r_next, r_op, r_fun1, r_call, r_callN, r_cons, r_nil, r_var, r_c, r_bl, r_tr, r_not, r_andB, r_orB, r_andV, r_notV, r_ifE, r_chain, r_lst, r_tup, r_sz, r_own, r_def, r_seqOf, r_lc, r_app, r_fld, r_meth, r_peek, r_enum, szOk, blOf, truD, seqOf, wipeS, lfts, bndo, bnde, getz, getS, setz, setS, List.map_cons, List.map_nil, List.cons_append, List.nil_append, List.replicate, List.length_cons, List.length_nil, if_true, gInt, gTuple, gLen, Nat.reduceAdd, Nat.reduceLeDiff, giName, r_orV, r_slT, r_slL, r_part, r_noPart, gAdd_int, gSub_int, gLt_int, gLe_int, gGt_int, gGe_int, gNeg_int, gEq_int, gNe_int, gMod_int, gDiv_int, gMul_r, ixL0, ixL1, ixL2, ixL3, ixL4, ixL5, ixL6, ixL7, ixL8, ixL9, ixL10, ixL11, ixL12, ixL13, ixT0, ixT1, ixT2, ixT3, ixT4, ixT5, ixT6, ixT7, ixT8, ixT9, ixT10, and_self, Int.cast_ofNat_Int, Int.reduceEq, decide_true, decide_false, Bool.not_true, Bool.not_false, nums_length, isi_ii, gAbs_int, Int.reduceAdd, Int.reduceSub, Int.reduceMul, Int.reduceNeg, Int.reduceLT, Int.reduceLE, r_ixO, r_trO, r_pop, r_rev, r_opN, r_ext, r_setIx, r_ch3, r_star, starOf, r_lc2, r_revT, r_notT, Option.map_some, List.isEmpty_cons, List.isEmpty_nil, h2, gNe_int, gEq_int, gMax0] <;> rfl
theorem at_unlike (c : Cl) (l m : List Seg) (hne : l ≠ m) : G_last_unlike c [.tup (spsD l), .tup (spsD m)] = some (.ok (.int (luR l.reverse m.reverse))) := by
  refine def_rt ?_
  show F_last_unlike c [.d (.tup (spsD l)), .d (.tup (spsD m)), .no, .no, .no, .no] = _
  unfold F_last_unlike
  have hz : ∀ a b : List D, gZip [.tup a, .tup b] = some (zipD a b) := fun _ _ => rfl
  have hm := gMin0
  have hl1 := gLen_sps (l := l) (.tup (spsD l)) (.inl rfl)
  have hl2 := gLen_sps (l := m) (.tup (spsD m)) (.inl rfl)
  have hs1 := spsD_len l
  have hs2 := spsD_len m
  rcases lu_loop (.d (.tup (spsD l))) (.d (.tup (spsD m))) l.reverse m.reverse .no .no with g | ⟨y2, y3, g, k⟩
  · refine st_rt ?_
    rw [← g]
    simp only [r_seq, r_ex, r_set, r_setN, r_drop, r_ret, r_if, r_frz, r_frzS, r_next, r_op, r_fun1, r_call, r_callN, r_cons, r_nil, r_var, r_c, r_bl, r_tr, r_not, r_andB, r_orB, r_andV, r_notV, r_ifE, r_chain, r_lst, r_tup, r_sz, r_own, r_def, r_seqOf, r_lc, r_app, r_fld, r_meth, r_peek, r_enum, szOk, blOf, truD, seqOf, wipeS, lfts, bndo, bnde, getz, getS, setz, setS, List.map_cons, List.map_nil, List.cons_append, List.nil_append, List.replicate, List.length_cons, List.length_nil, if_true, gInt, gTuple, gLen, Nat.reduceAdd, Nat.reduceLeDiff, giName, r_orV, r_slT, r_slL, r_part, r_noPart, gAdd_int, gSub_int, gLt_int, gLe_int, gGt_int, gGe_int, gNeg_int, gEq_int, gNe_int, gMod_int, gDiv_int, gMul_r, ixL0, ixL1, ixL2, ixL3, ixL4, ixL5, ixL6, ixL7, ixL8, ixL9, ixL10, ixL11, ixL12, ixL13, ixT0, ixT1, ixT2, ixT3, ixT4, ixT5, ixT6, ixT7, ixT8, ixT9, ixT10, and_self, Int.cast_ofNat_Int, Int.reduceEq, decide_true, decide_false, Bool.not_true, Bool.not_false, nums_length, isi_ii, gAbs_int, Int.reduceAdd, Int.reduceSub, Int.reduceMul, Int.reduceNeg, Int.reduceLT, Int.reduceLE, r_ixO, r_trO, r_pop, r_rev, r_opN, r_ext, r_setIx, r_ch3, r_star, starOf, r_lc2, r_revT, r_notT, Option.map_some, List.isEmpty_cons, List.isEmpty_nil, r_for, spsD_rev, hz]
  · refine st (s' := [.d (.tup (spsD l)), .d (.tup (spsD m)), y2, y3, .no, .no]) ?_ ?_
    · rw [← g]
      simp only [r_seq, r_ex, r_set, r_setN, r_drop, r_ret, r_if, r_frz, r_frzS, r_next, r_op, r_fun1, r_call, r_callN, r_cons, r_nil, r_var, r_c, r_bl, r_tr, r_not, r_andB, r_orB, r_andV, r_notV, r_ifE, r_chain, r_lst, r_tup, r_sz, r_own, r_def, r_seqOf, r_lc, r_app, r_fld, r_meth, r_peek, r_enum, szOk, blOf, truD, seqOf, wipeS, lfts, bndo, bnde, getz, getS, setz, setS, List.map_cons, List.map_nil, List.cons_append, List.nil_append, List.replicate, List.length_cons, List.length_nil, if_true, gInt, gTuple, gLen, Nat.reduceAdd, Nat.reduceLeDiff, giName, r_orV, r_slT, r_slL, r_part, r_noPart, gAdd_int, gSub_int, gLt_int, gLe_int, gGt_int, gGe_int, gNeg_int, gEq_int, gNe_int, gMod_int, gDiv_int, gMul_r, ixL0, ixL1, ixL2, ixL3, ixL4, ixL5, ixL6, ixL7, ixL8, ixL9, ixL10, ixL11, ixL12, ixL13, ixT0, ixT1, ixT2, ixT3, ixT4, ixT5, ixT6, ixT7, ixT8, ixT9, ixT10, and_self, Int.cast_ofNat_Int, Int.reduceEq, decide_true, decide_false, Bool.not_true, Bool.not_false, nums_length, isi_ii, gAbs_int, Int.reduceAdd, Int.reduceSub, Int.reduceMul, Int.reduceNeg, Int.reduceLT, Int.reduceLE, r_ixO, r_trO, r_pop, r_rev, r_opN, r_ext, r_setIx, r_ch3, r_star, starOf, r_lc2, r_revT, r_notT, Option.map_some, List.isEmpty_cons, List.isEmpty_nil, r_for, spsD_rev, hz]
    · rcases k with k | ⟨w, v, z, k1, k2, k3⟩ | ⟨w, u, z, k1, k2, k3⟩
      · exact absurd (List.reverse_inj.mp k) hne
      · have e2 : m = z.reverse ++ v :: w.reverse := by
          have := congrArg List.reverse k2
          rw [List.reverse_reverse, List.reverse_append, List.reverse_cons, List.append_assoc] at this
          exact this
        have n1 : l.length = w.length := by rw [← k1, List.length_reverse]
        have n2 : m.length = w.length + z.length + 1 := by rw [e2, List.length_append, List.length_cons, List.length_reverse, List.length_reverse]; omega
        have ix : gIx (.tup (spsD m)) (.int (z.length : Nat)) = some (.tup [.int v.1, .int v.2]) := gIx_sps (s := v) _ (.inl rfl) (by rw [e2, List.getElem?_append_right (by rw [List.length_reverse]; exact Nat.le_refl _), List.length_reverse, Nat.sub_self]; rfl)
        rw [k3]
        have en : ((m.length : Nat) : Int) - ((l.length : Nat) : Int) - 1 = ((z.length : Nat) : Int) := by omega
        have c1 : ¬ (((m.length : Nat) : Int) < ((l.length : Nat) : Int)) := by omega
        generalize spsD l = L at *
        generalize spsD m = M at *
        simp only [r_seq, r_ex, r_set, r_setN, r_drop, r_ret, r_if, r_frz, r_frzS, r_next, r_op, r_fun1, r_call, r_callN, r_cons, r_nil, r_var, r_c, r_bl, r_tr, r_not, r_andB, r_orB, r_andV, r_notV, r_ifE, r_chain, r_lst, r_tup, r_sz, r_own, r_def, r_seqOf, r_lc, r_app, r_fld, r_meth, r_peek, r_enum, szOk, blOf, truD, seqOf, wipeS, lfts, bndo, bnde, getz, getS, setz, setS, List.map_cons, List.map_nil, List.cons_append, List.nil_append, List.replicate, List.length_cons, List.length_nil, if_true, gInt, gTuple, gLen, Nat.reduceAdd, Nat.reduceLeDiff, giName, r_orV, r_slT, r_slL, r_part, r_noPart, gAdd_int, gSub_int, gLt_int, gLe_int, gGt_int, gGe_int, gNeg_int, gEq_int, gNe_int, gMod_int, gDiv_int, gMul_r, ixL0, ixL1, ixL2, ixL3, ixL4, ixL5, ixL6, ixL7, ixL8, ixL9, ixL10, ixL11, ixL12, ixL13, ixT0, ixT1, ixT2, ixT3, ixT4, ixT5, ixT6, ixT7, ixT8, ixT9, ixT10, and_self, Int.cast_ofNat_Int, Int.reduceEq, decide_true, decide_false, Bool.not_true, Bool.not_false, nums_length, isi_ii, gAbs_int, Int.reduceAdd, Int.reduceSub, Int.reduceMul, Int.reduceNeg, Int.reduceLT, Int.reduceLE, r_ixO, r_trO, r_pop, r_rev, r_opN, r_ext, r_setIx, r_ch3, r_star, starOf, r_lc2, r_revT, r_notT, Option.map_some, List.isEmpty_cons, List.isEmpty_nil, hs1, hs2, hm, c1, if_false, Int.lt_irrefl, en, ix]
      · have e2 : l = z.reverse ++ u :: w.reverse := by
          have := congrArg List.reverse k1
          rw [List.reverse_reverse, List.reverse_append, List.reverse_cons, List.append_assoc] at this
          exact this
        have n1 : m.length = w.length := by rw [← k2, List.length_reverse]
        have n2 : l.length = w.length + z.length + 1 := by rw [e2, List.length_append, List.length_cons, List.length_reverse, List.length_reverse]; omega
        have ix : gIx (.tup (spsD l)) (.int (z.length : Nat)) = some (.tup [.int u.1, .int u.2]) := gIx_sps (s := u) _ (.inl rfl) (by rw [e2, List.getElem?_append_right (by rw [List.length_reverse]; exact Nat.le_refl _), List.length_reverse, Nat.sub_self]; rfl)
        rw [k3]
        have en : ((l.length : Nat) : Int) - ((m.length : Nat) : Int) - 1 = ((z.length : Nat) : Int) := by omega
        have c1 : (((m.length : Nat) : Int) < ((l.length : Nat) : Int)) := by omega
        generalize spsD l = L at *
        generalize spsD m = M at *
        simp only [r_seq, r_ex, r_set, r_setN, r_drop, r_ret, r_if, r_frz, r_frzS, r_next, r_op, r_fun1, r_call, r_callN, r_cons, r_nil, r_var, r_c, r_bl, r_tr, r_not, r_andB, r_orB, r_andV, r_notV, r_ifE, r_chain, r_lst, r_tup, r_sz, r_own, r_def, r_seqOf, r_lc, r_app, r_fld, r_meth, r_peek, r_enum, szOk, blOf, truD, seqOf, wipeS, lfts, bndo, bnde, getz, getS, setz, setS, List.map_cons, List.map_nil, List.cons_append, List.nil_append, List.replicate, List.length_cons, List.length_nil, if_true, gInt, gTuple, gLen, Nat.reduceAdd, Nat.reduceLeDiff, giName, r_orV, r_slT, r_slL, r_part, r_noPart, gAdd_int, gSub_int, gLt_int, gLe_int, gGt_int, gGe_int, gNeg_int, gEq_int, gNe_int, gMod_int, gDiv_int, gMul_r, ixL0, ixL1, ixL2, ixL3, ixL4, ixL5, ixL6, ixL7, ixL8, ixL9, ixL10, ixL11, ixL12, ixL13, ixT0, ixT1, ixT2, ixT3, ixT4, ixT5, ixT6, ixT7, ixT8, ixT9, ixT10, and_self, Int.cast_ofNat_Int, Int.reduceEq, decide_true, decide_false, Bool.not_true, Bool.not_false, nums_length, isi_ii, gAbs_int, Int.reduceAdd, Int.reduceSub, Int.reduceMul, Int.reduceNeg, Int.reduceLT, Int.reduceLE, r_ixO, r_trO, r_pop, r_rev, r_opN, r_ext, r_setIx, r_ch3, r_star, starOf, r_lc2, r_revT, r_notT, Option.map_some, List.isEmpty_cons, List.isEmpty_nil, hs1, hs2, hm, c1, if_true, en, ix]
def dbl : Nat → Int
  | 0 => 0
  | k + 1 => 2 * dbl k + 1
theorem dbl_0 : ∀ k, 0 ≤ dbl k
  | 0 => Int.le_refl _
  | k + 1 => by have := dbl_0 k; show 0 ≤ 2 * dbl k + 1; omega
theorem ld_loop (c : Cl) (o1 p1 o2 p2 : Int) (l1 l2 : List Seg) (w1 : Wh p1 l1) (w2 : Wh p2 l2) (h1 : p1 < 1073741824) (h2 : p2 < 1073741824) (a stop : Int) (hb1 : ∀ n : Nat, (n : Int) * p1 ≤ stop - a → (n + 2) * l1.length ≤ 89000) (hb2 : ∀ n : Nat, (n : Int) * p2 ≤ stop - a → (n + 2) * l2.length ≤ 89000)
    (X Y : D) (hX : X = .tup [.int o1, .int p1, .tup (spsD l1)]) (hY : Y = .tup [.int o2, .int p2, .tup (spsD l2)]) (k : Nat) : ∀ (size stop' : Int) (y5 y6 y7 : Sl) (fuel : Nat), 1 ≤ size → stop' ≤ stop → stop' - a ≤ size * dbl k → k < fuel → (∀ t, stop' ≤ t → t < stop → cyc o1 p1 l1 t = cyc o2 p2 l2 t) →
    (∃ s', whileF (fBl (fop gLt (fVar 2) (fVar 3))) (fSeq (fSet 5 (fcall gMax (fCons (fVar 2) (fCons (fop gSub (fVar 3) (fVar 4)) fNil)))) (fSeq (fSet 6 (fOwn 3 (G_turned c) (fCons (fVar 0) (fCons (fVar 5) (fCons (fVar 3) fNil))))) (fSeq (fSet 7 (fOwn 3 (G_turned c) (fCons (fVar 1) (fCons (fVar 5) (fCons (fVar 3) fNil))))) (fSeq (fIfS (fBl (fop gNe (fVar 6) (fVar 7))) (fRet (fOwn 2 (G_last_unlike c) (fCons (fVar 6) (fCons (fVar 7) fNil)))) fNext) (fSeq (fSet 3 (fVar 5)) (fSet 4 (fop gMul (fVar 4) (fC (.int 2))))))))) fuel [.d X, .d Y, .d (.int a), .d (.int stop'), .d (.int size), y5, y6, y7] = some (.nx s') ∧ ∀ t, a ≤ t → t < stop → cyc o1 p1 l1 t = cyc o2 p2 l2 t) ∨
    (∃ d : Int, whileF (fBl (fop gLt (fVar 2) (fVar 3))) (fSeq (fSet 5 (fcall gMax (fCons (fVar 2) (fCons (fop gSub (fVar 3) (fVar 4)) fNil)))) (fSeq (fSet 6 (fOwn 3 (G_turned c) (fCons (fVar 0) (fCons (fVar 5) (fCons (fVar 3) fNil))))) (fSeq (fSet 7 (fOwn 3 (G_turned c) (fCons (fVar 1) (fCons (fVar 5) (fCons (fVar 3) fNil))))) (fSeq (fIfS (fBl (fop gNe (fVar 6) (fVar 7))) (fRet (fOwn 2 (G_last_unlike c) (fCons (fVar 6) (fCons (fVar 7) fNil)))) fNext) (fSeq (fSet 3 (fVar 5)) (fSet 4 (fop gMul (fVar 4) (fC (.int 2))))))))) fuel [.d X, .d Y, .d (.int a), .d (.int stop'), .d (.int size), y5, y6, y7] = some (.rt (.int d)) ∧ a ≤ d ∧ d < stop ∧ cyc o1 p1 l1 d ≠ cyc o2 p2 l2 d ∧ ∀ t, d < t → t < stop → cyc o1 p1 l1 t = cyc o2 p2 l2 t) := by
  induction k with
  | zero =>
    intro size stop' y5 y6 y7 fuel hs hst hk hf heq
    obtain ⟨f, rfl⟩ : ∃ f, fuel = f + 1 := ⟨fuel - 1, by omega⟩
    have hk' : stop' - a ≤ size * 0 := hk
    rw [Int.mul_zero] at hk'
    have c1 : ¬ a < stop' := by omega
    refine .inl ⟨[.d X, .d Y, .d (.int a), .d (.int stop'), .d (.int size), y5, y6, y7], ?_, fun t ht1 ht2 => heq t (by omega) ht2⟩
    rw [while_one']
    simp only [r_seq, r_ex, r_set, r_setN, r_drop, r_ret, r_if, r_frz, r_frzS, r_next, r_op, r_fun1, r_call, r_callN, r_cons, r_nil, r_var, r_c, r_bl, r_tr, r_not, r_andB, r_orB, r_andV, r_notV, r_ifE, r_chain, r_lst, r_tup, r_sz, r_own, r_def, r_seqOf, r_lc, r_app, r_fld, r_meth, r_peek, r_enum, szOk, blOf, truD, seqOf, wipeS, lfts, bndo, bnde, getz, getS, setz, setS, List.map_cons, List.map_nil, List.cons_append, List.nil_append, List.replicate, List.length_cons, List.length_nil, if_true, gInt, gTuple, gLen, Nat.reduceAdd, Nat.reduceLeDiff, giName, r_orV, r_slT, r_slL, r_part, r_noPart, gAdd_int, gSub_int, gLt_int, gLe_int, gGt_int, gGe_int, gNeg_int, gEq_int, gNe_int, gMod_int, gDiv_int, gMul_r, ixL0, ixL1, ixL2, ixL3, ixL4, ixL5, ixL6, ixL7, ixL8, ixL9, ixL10, ixL11, ixL12, ixL13, ixT0, ixT1, ixT2, ixT3, ixT4, ixT5, ixT6, ixT7, ixT8, ixT9, ixT10, and_self, Int.cast_ofNat_Int, Int.reduceEq, decide_true, decide_false, Bool.not_true, Bool.not_false, nums_length, isi_ii, gAbs_int, Int.reduceAdd, Int.reduceSub, Int.reduceMul, Int.reduceNeg, Int.reduceLT, Int.reduceLE, r_ixO, r_trO, r_pop, r_rev, r_opN, r_ext, r_setIx, r_ch3, r_star, starOf, r_lc2, r_revT, r_notT, Option.map_some, List.isEmpty_cons, List.isEmpty_nil, c1]
  | succ k ih =>
    intro size stop' y5 y6 y7 fuel hs hst hk hf heq
    obtain ⟨f, rfl⟩ : ∃ f, fuel = f + 1 := ⟨fuel - 1, by omega⟩
    by_cases c1 : a < stop'
    · have hk' : stop' - a ≤ size * (2 * dbl k + 1) := hk
      rw [Int.mul_add, Int.mul_one, ← Int.mul_assoc] at hk'
      have h0 : 0 ≤ size * 2 * dbl k := Int.mul_nonneg (by omega) (dbl_0 k)
      obtain ⟨low, elow, q1, q2, q3⟩ : ∃ low, gMax [.int a, .int (stop' - size)] = some (.int low) ∧ a ≤ low ∧ low < stop' ∧ low - a ≤ size * 2 * dbl k := by
        refine ⟨_, gMax0 _ _, ?_, ?_, ?_⟩ <;> split <;> omega
      obtain ⟨r1, e1, t1, b1, x1, n1⟩ := at_turned c o1 p1 low stop' l1 w1 h1 fun n hn => hb1 n (by omega)
      obtain ⟨r2, e2, t2, b2, x2, n2⟩ := at_turned c o2 p2 low stop' l2 w2 h2 fun n hn => hb2 n (by omega)
      rw [← hX] at e1
      rw [← hY] at e2
      have en := gNe_Tsps r1 r2
      by_cases hr : r1 = r2
      · have same : ∀ t, low ≤ t → t < stop' → cyc o1 p1 l1 t = cyc o2 p2 l2 t := fun t ht1 ht2 => by
          have y1 := x1 t
          have y2 := x2 t
          rw [decide_eq_true ht1, decide_eq_true ht2, Bool.true_and, Bool.true_and] at y1 y2
          rw [← y1, ← y2, hr]
        have emul : gMul (.int size) (.int 2) = some (.int (size * 2)) := gMul_r (by decide) (by decide)
        have go : whileF (fBl (fop gLt (fVar 2) (fVar 3))) (fSeq (fSet 5 (fcall gMax (fCons (fVar 2) (fCons (fop gSub (fVar 3) (fVar 4)) fNil)))) (fSeq (fSet 6 (fOwn 3 (G_turned c) (fCons (fVar 0) (fCons (fVar 5) (fCons (fVar 3) fNil))))) (fSeq (fSet 7 (fOwn 3 (G_turned c) (fCons (fVar 1) (fCons (fVar 5) (fCons (fVar 3) fNil))))) (fSeq (fIfS (fBl (fop gNe (fVar 6) (fVar 7))) (fRet (fOwn 2 (G_last_unlike c) (fCons (fVar 6) (fCons (fVar 7) fNil)))) fNext) (fSeq (fSet 3 (fVar 5)) (fSet 4 (fop gMul (fVar 4) (fC (.int 2))))))))) (f + 1) [.d X, .d Y, .d (.int a), .d (.int stop'), .d (.int size), y5, y6, y7] = whileF (fBl (fop gLt (fVar 2) (fVar 3))) (fSeq (fSet 5 (fcall gMax (fCons (fVar 2) (fCons (fop gSub (fVar 3) (fVar 4)) fNil)))) (fSeq (fSet 6 (fOwn 3 (G_turned c) (fCons (fVar 0) (fCons (fVar 5) (fCons (fVar 3) fNil))))) (fSeq (fSet 7 (fOwn 3 (G_turned c) (fCons (fVar 1) (fCons (fVar 5) (fCons (fVar 3) fNil))))) (fSeq (fIfS (fBl (fop gNe (fVar 6) (fVar 7))) (fRet (fOwn 2 (G_last_unlike c) (fCons (fVar 6) (fCons (fVar 7) fNil)))) fNext) (fSeq (fSet 3 (fVar 5)) (fSet 4 (fop gMul (fVar 4) (fC (.int 2))))))))) f [.d X, .d Y, .d (.int a), .d (.int low), .d (.int (size * 2)), .d (.int low), .d (.tup (spsD r1)), .d (.tup (spsD r2))] := by
          rw [while_one']
          rw [decide_eq_true hr] at en
          simp only [r_seq, r_ex, r_set, r_setN, r_drop, r_ret, r_if, r_frz, r_frzS, r_next, r_op, r_fun1, r_call, r_callN, r_cons, r_nil, r_var, r_c, r_bl, r_tr, r_not, r_andB, r_orB, r_andV, r_notV, r_ifE, r_chain, r_lst, r_tup, r_sz, r_own, r_def, r_seqOf, r_lc, r_app, r_fld, r_meth, r_peek, r_enum, szOk, blOf, truD, seqOf, wipeS, lfts, bndo, bnde, getz, getS, setz, setS, List.map_cons, List.map_nil, List.cons_append, List.nil_append, List.replicate, List.length_cons, List.length_nil, if_true, gInt, gTuple, gLen, Nat.reduceAdd, Nat.reduceLeDiff, giName, r_orV, r_slT, r_slL, r_part, r_noPart, gAdd_int, gSub_int, gLt_int, gLe_int, gGt_int, gGe_int, gNeg_int, gEq_int, gNe_int, gMod_int, gDiv_int, gMul_r, ixL0, ixL1, ixL2, ixL3, ixL4, ixL5, ixL6, ixL7, ixL8, ixL9, ixL10, ixL11, ixL12, ixL13, ixT0, ixT1, ixT2, ixT3, ixT4, ixT5, ixT6, ixT7, ixT8, ixT9, ixT10, and_self, Int.cast_ofNat_Int, Int.reduceEq, decide_true, decide_false, Bool.not_true, Bool.not_false, nums_length, isi_ii, gAbs_int, Int.reduceAdd, Int.reduceSub, Int.reduceMul, Int.reduceNeg, Int.reduceLT, Int.reduceLE, r_ixO, r_trO, r_pop, r_rev, r_opN, r_ext, r_setIx, r_ch3, r_star, starOf, r_lc2, r_revT, r_notT, Option.map_some, List.isEmpty_cons, List.isEmpty_nil, c1, elow, e1, e2, en, emul]
        rw [go]
        exact ih (size * 2) low _ _ _ f (by omega) (by omega) q3 (by omega) fun t ht1 ht2 => by
          by_cases g : t < stop'
          · exact same t ht1 g
          · exact heq t (by omega) ht2
      · obtain ⟨d1, d2⟩ := lu_rows t1 t2 hr
        have eu := at_unlike c r1 r2 hr
        generalize luR r1.reverse r2.reverse = d at *
        have hin : low ≤ d ∧ d < stop' := by
          rw [x1, x2] at d1
          by_cases g1 : low ≤ d
          · by_cases g2 : d < stop'
            · exact ⟨g1, g2⟩
            · rw [decide_eq_false g2, Bool.false_and, Bool.and_false, Bool.false_and, Bool.and_false] at d1
              exact absurd rfl d1
          · rw [decide_eq_false g1, Bool.false_and, Bool.false_and] at d1
            exact absurd rfl d1
        refine .inr ⟨d, ?_, by omega, by omega, ?_, fun t ht1 ht2 => ?_⟩
        · rw [while_one']
          rw [decide_eq_false hr] at en
          simp only [r_seq, r_ex, r_set, r_setN, r_drop, r_ret, r_if, r_frz, r_frzS, r_next, r_op, r_fun1, r_call, r_callN, r_cons, r_nil, r_var, r_c, r_bl, r_tr, r_not, r_andB, r_orB, r_andV, r_notV, r_ifE, r_chain, r_lst, r_tup, r_sz, r_own, r_def, r_seqOf, r_lc, r_app, r_fld, r_meth, r_peek, r_enum, szOk, blOf, truD, seqOf, wipeS, lfts, bndo, bnde, getz, getS, setz, setS, List.map_cons, List.map_nil, List.cons_append, List.nil_append, List.replicate, List.length_cons, List.length_nil, if_true, gInt, gTuple, gLen, Nat.reduceAdd, Nat.reduceLeDiff, giName, r_orV, r_slT, r_slL, r_part, r_noPart, gAdd_int, gSub_int, gLt_int, gLe_int, gGt_int, gGe_int, gNeg_int, gEq_int, gNe_int, gMod_int, gDiv_int, gMul_r, ixL0, ixL1, ixL2, ixL3, ixL4, ixL5, ixL6, ixL7, ixL8, ixL9, ixL10, ixL11, ixL12, ixL13, ixT0, ixT1, ixT2, ixT3, ixT4, ixT5, ixT6, ixT7, ixT8, ixT9, ixT10, and_self, Int.cast_ofNat_Int, Int.reduceEq, decide_true, decide_false, Bool.not_true, Bool.not_false, nums_length, isi_ii, gAbs_int, Int.reduceAdd, Int.reduceSub, Int.reduceMul, Int.reduceNeg, Int.reduceLT, Int.reduceLE, r_ixO, r_trO, r_pop, r_rev, r_opN, r_ext, r_setIx, r_ch3, r_star, starOf, r_lc2, r_revT, r_notT, Option.map_some, List.isEmpty_cons, List.isEmpty_nil, c1, elow, e1, e2, en, eu]
        · rw [x1, x2, decide_eq_true hin.1, decide_eq_true hin.2, Bool.true_and, Bool.true_and] at d1
          rw [Bool.true_and, Bool.true_and] at d1
          exact d1
        · by_cases g : t < stop'
          · have y1 := x1 t
            have y2 := x2 t
            rw [decide_eq_true (show low ≤ t by omega), decide_eq_true g, Bool.true_and, Bool.true_and] at y1 y2
            rw [← y1, ← y2, d2 t ht1]
          · exact heq t (by omega) ht2
    · refine .inl ⟨[.d X, .d Y, .d (.int a), .d (.int stop'), .d (.int size), y5, y6, y7], ?_, fun t ht1 ht2 => heq t (by omega) ht2⟩
      rw [while_one']
      simp only [r_seq, r_ex, r_set, r_setN, r_drop, r_ret, r_if, r_frz, r_frzS, r_next, r_op, r_fun1, r_call, r_callN, r_cons, r_nil, r_var, r_c, r_bl, r_tr, r_not, r_andB, r_orB, r_andV, r_notV, r_ifE, r_chain, r_lst, r_tup, r_sz, r_own, r_def, r_seqOf, r_lc, r_app, r_fld, r_meth, r_peek, r_enum, szOk, blOf, truD, seqOf, wipeS, lfts, bndo, bnde, getz, getS, setz, setS, List.map_cons, List.map_nil, List.cons_append, List.nil_append, List.replicate, List.length_cons, List.length_nil, if_true, gInt, gTuple, gLen, Nat.reduceAdd, Nat.reduceLeDiff, giName, r_orV, r_slT, r_slL, r_part, r_noPart, gAdd_int, gSub_int, gLt_int, gLe_int, gGt_int, gGe_int, gNeg_int, gEq_int, gNe_int, gMod_int, gDiv_int, gMul_r, ixL0, ixL1, ixL2, ixL3, ixL4, ixL5, ixL6, ixL7, ixL8, ixL9, ixL10, ixL11, ixL12, ixL13, ixT0, ixT1, ixT2, ixT3, ixT4, ixT5, ixT6, ixT7, ixT8, ixT9, ixT10, and_self, Int.cast_ofNat_Int, Int.reduceEq, decide_true, decide_false, Bool.not_true, Bool.not_false, nums_length, isi_ii, gAbs_int, Int.reduceAdd, Int.reduceSub, Int.reduceMul, Int.reduceNeg, Int.reduceLT, Int.reduceLE, r_ixO, r_trO, r_pop, r_rev, r_opN, r_ext, r_setIx, r_ch3, r_star, starOf, r_lc2, r_revT, r_notT, Option.map_some, List.isEmpty_cons, List.isEmpty_nil, c1]
theorem at_lastdiff (c : Cl) (o1 p1 o2 p2 : Int) (l1 l2 : List Seg) (w1 : Wh p1 l1) (w2 : Wh p2 l2) (h1 : p1 < 1073741824) (h2 : p2 < 1073741824) (start stop a : Int) (ha : gMax [.int start, .int (stop - p1 - p2)] = some (.int a)) (hb1 : ∀ n : Nat, (n : Int) * p1 ≤ stop - a → (n + 2) * l1.length ≤ 89000) (hb2 : ∀ n : Nat, (n : Int) * p2 ≤ stop - a → (n + 2) * l2.length ≤ 89000)
    (k : Nat) (hk : stop - a ≤ dbl k) (hk2 : k < 200000) :
    (G_last_difference c [.tup [.int o1, .int p1, .tup (spsD l1)], .tup [.int o2, .int p2, .tup (spsD l2)], .int start, .int stop] = some (.ok .non) ∧ ∀ t, a ≤ t → t < stop → cyc o1 p1 l1 t = cyc o2 p2 l2 t) ∨
    (∃ d : Int, G_last_difference c [.tup [.int o1, .int p1, .tup (spsD l1)], .tup [.int o2, .int p2, .tup (spsD l2)], .int start, .int stop] = some (.ok (.int d)) ∧ a ≤ d ∧ d < stop ∧ cyc o1 p1 l1 d ≠ cyc o2 p2 l2 d ∧ ∀ t, d < t → t < stop → cyc o1 p1 l1 t = cyc o2 p2 l2 t) := by
  obtain ⟨X, hX⟩ : ∃ X, X = D.tup [.int o1, .int p1, .tup (spsD l1)] := ⟨_, rfl⟩
  obtain ⟨Y, hY⟩ : ∃ X, X = D.tup [.int o2, .int p2, .tup (spsD l2)] := ⟨_, rfl⟩
  have i1 : gIx X (.int 1) = some (.int p1) := by rw [hX]; rfl
  have i2 : gIx Y (.int 1) = some (.int p2) := by rw [hY]; rfl
  rw [← hX, ← hY]
  have L := ld_loop c o1 p1 o2 p2 l1 l2 w1 w2 h1 h2 a stop hb1 hb2 X Y hX hY k 1 stop .no .no .no 200000 (Int.le_refl _) (Int.le_refl _) (by rw [Int.one_mul]; exact hk) hk2 fun t q1 q2 => absurd q2 (by omega)
  have pre : ∀ r, (fSeq (fWhile (fun _ => 200000) (fBl (fop gLt (fVar 2) (fVar 3))) (fSeq (fSet 5 (fcall gMax (fCons (fVar 2) (fCons (fop gSub (fVar 3) (fVar 4)) fNil)))) (fSeq (fSet 6 (fOwn 3 (G_turned c) (fCons (fVar 0) (fCons (fVar 5) (fCons (fVar 3) fNil))))) (fSeq (fSet 7 (fOwn 3 (G_turned c) (fCons (fVar 1) (fCons (fVar 5) (fCons (fVar 3) fNil))))) (fSeq (fIfS (fBl (fop gNe (fVar 6) (fVar 7))) (fRet (fOwn 2 (G_last_unlike c) (fCons (fVar 6) (fCons (fVar 7) fNil)))) fNext) (fSeq (fSet 3 (fVar 5)) (fSet 4 (fop gMul (fVar 4) (fC (.int 2)))))))))) (fRet (fC .non))) [.d X, .d Y, .d (.int a), .d (.int stop), .d (.int 1), .no, .no, .no] = r → F_last_difference c [.d X, .d Y, .d (.int start), .d (.int stop), .no, .no, .no, .no] = r := fun r hr => by
    unfold F_last_difference
    refine st (s' := [.d X, .d Y, .d (.int a), .d (.int stop), .no, .no, .no, .no]) (by simp only [r_seq, r_ex, r_set, r_setN, r_drop, r_ret, r_if, r_frz, r_frzS, r_next, r_op, r_fun1, r_call, r_callN, r_cons, r_nil, r_var, r_c, r_bl, r_tr, r_not, r_andB, r_orB, r_andV, r_notV, r_ifE, r_chain, r_lst, r_tup, r_sz, r_own, r_def, r_seqOf, r_lc, r_app, r_fld, r_meth, r_peek, r_enum, szOk, blOf, truD, seqOf, wipeS, lfts, bndo, bnde, getz, getS, setz, setS, List.map_cons, List.map_nil, List.cons_append, List.nil_append, List.replicate, List.length_cons, List.length_nil, if_true, gInt, gTuple, gLen, Nat.reduceAdd, Nat.reduceLeDiff, giName, r_orV, r_slT, r_slL, r_part, r_noPart, gAdd_int, gSub_int, gLt_int, gLe_int, gGt_int, gGe_int, gNeg_int, gEq_int, gNe_int, gMod_int, gDiv_int, gMul_r, ixL0, ixL1, ixL2, ixL3, ixL4, ixL5, ixL6, ixL7, ixL8, ixL9, ixL10, ixL11, ixL12, ixL13, ixT0, ixT1, ixT2, ixT3, ixT4, ixT5, ixT6, ixT7, ixT8, ixT9, ixT10, and_self, Int.cast_ofNat_Int, Int.reduceEq, decide_true, decide_false, Bool.not_true, Bool.not_false, nums_length, isi_ii, gAbs_int, Int.reduceAdd, Int.reduceSub, Int.reduceMul, Int.reduceNeg, Int.reduceLT, Int.reduceLE, r_ixO, r_trO, r_pop, r_rev, r_opN, r_ext, r_setIx, r_ch3, r_star, starOf, r_lc2, r_revT, r_notT, Option.map_some, List.isEmpty_cons, List.isEmpty_nil, i1, i2, ha]) ?_
    refine st (s' := [.d X, .d Y, .d (.int a), .d (.int stop), .d (.int 1), .no, .no, .no]) (by simp only [r_seq, r_ex, r_set, r_setN, r_drop, r_ret, r_if, r_frz, r_frzS, r_next, r_op, r_fun1, r_call, r_callN, r_cons, r_nil, r_var, r_c, r_bl, r_tr, r_not, r_andB, r_orB, r_andV, r_notV, r_ifE, r_chain, r_lst, r_tup, r_sz, r_own, r_def, r_seqOf, r_lc, r_app, r_fld, r_meth, r_peek, r_enum, szOk, blOf, truD, seqOf, wipeS, lfts, bndo, bnde, getz, getS, setz, setS, List.map_cons, List.map_nil, List.cons_append, List.nil_append, List.replicate, List.length_cons, List.length_nil, if_true, gInt, gTuple, gLen, Nat.reduceAdd, Nat.reduceLeDiff, giName, r_orV, r_slT, r_slL, r_part, r_noPart, gAdd_int, gSub_int, gLt_int, gLe_int, gGt_int, gGe_int, gNeg_int, gEq_int, gNe_int, gMod_int, gDiv_int, gMul_r, ixL0, ixL1, ixL2, ixL3, ixL4, ixL5, ixL6, ixL7, ixL8, ixL9, ixL10, ixL11, ixL12, ixL13, ixT0, ixT1, ixT2, ixT3, ixT4, ixT5, ixT6, ixT7, ixT8, ixT9, ixT10, and_self, Int.cast_ofNat_Int, Int.reduceEq, decide_true, decide_false, Bool.not_true, Bool.not_false, nums_length, isi_ii, gAbs_int, Int.reduceAdd, Int.reduceSub, Int.reduceMul, Int.reduceNeg, Int.reduceLT, Int.reduceLE, r_ixO, r_trO, r_pop, r_rev, r_opN, r_ext, r_setIx, r_ch3, r_star, starOf, r_lc2, r_revT, r_notT, Option.map_some, List.isEmpty_cons, List.isEmpty_nil]) ?_
    exact hr
  rcases L with ⟨s', e, g⟩ | ⟨d, e, g⟩
  · refine .inl ⟨def_rt (pre _ ?_), g⟩
    refine st (s' := s') e ?_
    simp only [r_seq, r_ex, r_set, r_setN, r_drop, r_ret, r_if, r_frz, r_frzS, r_next, r_op, r_fun1, r_call, r_callN, r_cons, r_nil, r_var, r_c, r_bl, r_tr, r_not, r_andB, r_orB, r_andV, r_notV, r_ifE, r_chain, r_lst, r_tup, r_sz, r_own, r_def, r_seqOf, r_lc, r_app, r_fld, r_meth, r_peek, r_enum, szOk, blOf, truD, seqOf, wipeS, lfts, bndo, bnde, getz, getS, setz, setS, List.map_cons, List.map_nil, List.cons_append, List.nil_append, List.replicate, List.length_cons, List.length_nil, if_true, gInt, gTuple, gLen, Nat.reduceAdd, Nat.reduceLeDiff, giName, r_orV, r_slT, r_slL, r_part, r_noPart, gAdd_int, gSub_int, gLt_int, gLe_int, gGt_int, gGe_int, gNeg_int, gEq_int, gNe_int, gMod_int, gDiv_int, gMul_r, ixL0, ixL1, ixL2, ixL3, ixL4, ixL5, ixL6, ixL7, ixL8, ixL9, ixL10, ixL11, ixL12, ixL13, ixT0, ixT1, ixT2, ixT3, ixT4, ixT5, ixT6, ixT7, ixT8, ixT9, ixT10, and_self, Int.cast_ofNat_Int, Int.reduceEq, decide_true, decide_false, Bool.not_true, Bool.not_false, nums_length, isi_ii, gAbs_int, Int.reduceAdd, Int.reduceSub, Int.reduceMul, Int.reduceNeg, Int.reduceLT, Int.reduceLE, r_ixO, r_trO, r_pop, r_rev, r_opN, r_ext, r_setIx, r_ch3, r_star, starOf, r_lc2, r_revT, r_notT, Option.map_some, List.isEmpty_cons, List.isEmpty_nil]
  · exact .inr ⟨d, def_rt (pre _ (st_rt e)), g⟩

/-! ### the shortest turn of a row that goes round -/
theorem gEq_sp (x y : Seg) : gEq (spD x) (spD y) = some (.bl (decide (x = y))) := by
  have d1 := dpD_sp x
  have d2 := dpD_sp y
  have inst : Decidable (spD x = spD y) := if h : x = y then isTrue (by rw [h]) else isFalse fun e => h (spD_inj e)
  rw [gEq_ok (okD_sp x) (okD_sp y) (by omega) (by omega)]
  exact congrArg (fun b => some (D.bl b)) (decide_eq_decide.mpr ⟨spD_inj, fun e => by rw [e]⟩)
theorem gNe_sp (x y : Seg) : gNe (spD x) (spD y) = some (.bl (!decide (x = y))) := gNe_of (gEq_sp x y)
def bsI (bs : List Nat) : List Int := bs.map Int.ofNat
theorem bsI_get {bs : List Nat} {k : Nat} (h : k < bs.length) : gIx (.lst (nums (bsI bs))) (.int (k : Nat)) = some (.int (bs.getD k 0 : Nat)) := by
  rw [gIx_lints (by omega) (by unfold bsI; rw [List.length_map]; omega)]
  unfold bsI
  rw [Int.toNat_natCast, List.getD_eq_getElem?_getD, List.getD_eq_getElem?_getD, List.getElem?_map, List.getElem?_eq_getElem h]
  rfl
theorem bsI_last {bs : List Nat} {b : Nat} : gIx (.lst (nums (bsI (bs ++ [b])))) (.int (-1)) = some (.int (b : Nat)) := by
  have e : nums (bsI (bs ++ [b])) = nums (bsI bs) ++ [.int (b : Nat)] := by unfold nums bsI; rw [List.map_append, List.map_append]; rfl
  rw [e]
  exact atI_last
theorem bsI_app (bs : List Nat) (b : Nat) : nums (bsI bs) ++ [.int (b : Nat)] = nums (bsI (bs ++ [b])) := by unfold nums bsI; rw [List.map_append, List.map_append]; rfl
theorem bsI_len (bs : List Nat) : (nums (bsI bs)).length = bs.length := by rw [nums_length]; exact List.length_map ..
abbrev ofR (l : List Seg) : Nat → Seg := fun j => l.getD j (0, 0)
theorem gIx_of {l : List Seg} {j : Nat} (x : D) (hx : x = .tup (spsD l) ∨ x = .lst (spsD l)) (h : j < l.length) : gIx x (.int (j : Nat)) = some (spD (ofR l j)) := gIx_sps x hx (by
  show l[j]? = some (l.getD j (0, 0))
  rw [List.getD_eq_getElem?_getD, List.getElem?_eq_getElem h]
  rfl)
theorem kmp_while (l : List Seg) (bs : List Nat) (i : Nat) (hi : i < l.length) (hn : l.length ≤ 100000) (hlen : bs.length = i) (hb : ∀ j, j < i → MaxBd (ofR l) (j + 1) (bs.getD j 0)) (k0 : Nat) (hw : Way (ofR l) i k0) :
    ∃ k : Nat, whileF (fAndB (fBl (fop gGt (fVar 3) (fC (.int 0)))) (fBl (fop gNe (fop gIx (fVar 0) (fVar 3)) (fop gIx (fVar 0) (fVar 2))))) (fSet 3 (fPeek 1 (fop gIx (fVar 1) (fop gSub (fVar 3) (fC (.int 1)))))) 200000 [.d (.lst (spsD l)), .own (nums (bsI bs)), .d (.int (i : Nat)), .d (.int (k0 : Nat)), .no] = some (.nx [.d (.lst (spsD l)), .own (nums (bsI bs)), .d (.int (i : Nat)), .d (.int (k : Nat)), .no]) ∧ Way (ofR l) i k ∧ (k = 0 ∨ ofR l k = ofR l i) := by
  have ei := gIx_of (.lst (spsD l)) (.inr rfl) hi
  have step : ∀ k : Nat, Way (ofR l) i k → (k = 0 ∨ ofR l k = ofR l i) ∨ (0 < k ∧ ofR l k ≠ ofR l i) := fun k _ => by
    by_cases q : ofR l k = ofR l i
    · exact .inl (.inr q)
    · by_cases g : k = 0
      · exact .inl (.inl g)
      · exact .inr ⟨by omega, q⟩
  obtain ⟨s', e1, ⟨k, rfl, w⟩, e3⟩ := while_rel (t := (fAndB (fBl (fop gGt (fVar 3) (fC (.int 0)))) (fBl (fop gNe (fop gIx (fVar 0) (fVar 3)) (fop gIx (fVar 0) (fVar 2)))))) (b := (fSet 3 (fPeek 1 (fop gIx (fVar 1) (fop gSub (fVar 3) (fC (.int 1)))))))
    (fun s => ∃ k : Nat, s = [.d (.lst (spsD l)), .own (nums (bsI bs)), .d (.int (i : Nat)), .d (.int (k : Nat)), .no] ∧ Way (ofR l) i k)
    (fun (s : PS1) => match (s[3]? : Option Sl) with
      | some (.d (.int k)) => k.toNat
      | _ => 0) (fun s ⟨k, hs, w⟩ => by
      subst hs
      have hk := w.1.1
      have ek := gIx_of (.lst (spsD l)) (.inr rfl) (show k < l.length by omega)
      have en := gNe_sp (ofR l k) (ofR l i)
      rcases step k w with (g | g) | ⟨g1, g2⟩
      · left
        subst g
        simp only [r_seq, r_ex, r_set, r_setN, r_drop, r_ret, r_if, r_frz, r_frzS, r_next, r_op, r_fun1, r_call, r_callN, r_cons, r_nil, r_var, r_c, r_bl, r_tr, r_not, r_andB, r_orB, r_andV, r_notV, r_ifE, r_chain, r_lst, r_tup, r_sz, r_own, r_def, r_seqOf, r_lc, r_app, r_fld, r_meth, r_peek, r_enum, szOk, blOf, truD, seqOf, wipeS, lfts, bndo, bnde, getz, getS, setz, setS, List.map_cons, List.map_nil, List.cons_append, List.nil_append, List.replicate, List.length_cons, List.length_nil, if_true, gInt, gTuple, gLen, Nat.reduceAdd, Nat.reduceLeDiff, giName, r_orV, r_slT, r_slL, r_part, r_noPart, gAdd_int, gSub_int, gLt_int, gLe_int, gGt_int, gGe_int, gNeg_int, gEq_int, gNe_int, gMod_int, gDiv_int, gMul_r, ixL0, ixL1, ixL2, ixL3, ixL4, ixL5, ixL6, ixL7, ixL8, ixL9, ixL10, ixL11, ixL12, ixL13, ixT0, ixT1, ixT2, ixT3, ixT4, ixT5, ixT6, ixT7, ixT8, ixT9, ixT10, and_self, Int.cast_ofNat_Int, Int.reduceEq, decide_true, decide_false, Bool.not_true, Bool.not_false, nums_length, isi_ii, gAbs_int, Int.reduceAdd, Int.reduceSub, Int.reduceMul, Int.reduceNeg, Int.reduceLT, Int.reduceLE, r_ixO, r_trO, r_pop, r_rev, r_opN, r_ext, r_setIx, r_ch3, r_star, starOf, r_lc2, r_revT, r_notT, Option.map_some, List.isEmpty_cons, List.isEmpty_nil, Int.natCast_zero, Int.lt_irrefl]
      · left
        rw [decide_eq_true g] at en
        by_cases h0 : (0 : Int) < (k : Int)
        · simp only [r_seq, r_ex, r_set, r_setN, r_drop, r_ret, r_if, r_frz, r_frzS, r_next, r_op, r_fun1, r_call, r_callN, r_cons, r_nil, r_var, r_c, r_bl, r_tr, r_not, r_andB, r_orB, r_andV, r_notV, r_ifE, r_chain, r_lst, r_tup, r_sz, r_own, r_def, r_seqOf, r_lc, r_app, r_fld, r_meth, r_peek, r_enum, szOk, blOf, truD, seqOf, wipeS, lfts, bndo, bnde, getz, getS, setz, setS, List.map_cons, List.map_nil, List.cons_append, List.nil_append, List.replicate, List.length_cons, List.length_nil, if_true, gInt, gTuple, gLen, Nat.reduceAdd, Nat.reduceLeDiff, giName, r_orV, r_slT, r_slL, r_part, r_noPart, gAdd_int, gSub_int, gLt_int, gLe_int, gGt_int, gGe_int, gNeg_int, gEq_int, gNe_int, gMod_int, gDiv_int, gMul_r, ixL0, ixL1, ixL2, ixL3, ixL4, ixL5, ixL6, ixL7, ixL8, ixL9, ixL10, ixL11, ixL12, ixL13, ixT0, ixT1, ixT2, ixT3, ixT4, ixT5, ixT6, ixT7, ixT8, ixT9, ixT10, and_self, Int.cast_ofNat_Int, Int.reduceEq, decide_true, decide_false, Bool.not_true, Bool.not_false, nums_length, isi_ii, gAbs_int, Int.reduceAdd, Int.reduceSub, Int.reduceMul, Int.reduceNeg, Int.reduceLT, Int.reduceLE, r_ixO, r_trO, r_pop, r_rev, r_opN, r_ext, r_setIx, r_ch3, r_star, starOf, r_lc2, r_revT, r_notT, Option.map_some, List.isEmpty_cons, List.isEmpty_nil, h0, ek, ei, en]
        · simp only [r_seq, r_ex, r_set, r_setN, r_drop, r_ret, r_if, r_frz, r_frzS, r_next, r_op, r_fun1, r_call, r_callN, r_cons, r_nil, r_var, r_c, r_bl, r_tr, r_not, r_andB, r_orB, r_andV, r_notV, r_ifE, r_chain, r_lst, r_tup, r_sz, r_own, r_def, r_seqOf, r_lc, r_app, r_fld, r_meth, r_peek, r_enum, szOk, blOf, truD, seqOf, wipeS, lfts, bndo, bnde, getz, getS, setz, setS, List.map_cons, List.map_nil, List.cons_append, List.nil_append, List.replicate, List.length_cons, List.length_nil, if_true, gInt, gTuple, gLen, Nat.reduceAdd, Nat.reduceLeDiff, giName, r_orV, r_slT, r_slL, r_part, r_noPart, gAdd_int, gSub_int, gLt_int, gLe_int, gGt_int, gGe_int, gNeg_int, gEq_int, gNe_int, gMod_int, gDiv_int, gMul_r, ixL0, ixL1, ixL2, ixL3, ixL4, ixL5, ixL6, ixL7, ixL8, ixL9, ixL10, ixL11, ixL12, ixL13, ixT0, ixT1, ixT2, ixT3, ixT4, ixT5, ixT6, ixT7, ixT8, ixT9, ixT10, and_self, Int.cast_ofNat_Int, Int.reduceEq, decide_true, decide_false, Bool.not_true, Bool.not_false, nums_length, isi_ii, gAbs_int, Int.reduceAdd, Int.reduceSub, Int.reduceMul, Int.reduceNeg, Int.reduceLT, Int.reduceLE, r_ixO, r_trO, r_pop, r_rev, r_opN, r_ext, r_setIx, r_ch3, r_star, starOf, r_lc2, r_revT, r_notT, Option.map_some, List.isEmpty_cons, List.isEmpty_nil, h0]
      · right
        have h0 : (0 : Int) < (k : Int) := by omega
        rw [decide_eq_false g2] at en
        have ib := bsI_get (bs := bs) (k := k - 1) (by omega)
        have ec : (k : Int) - 1 = ((k - 1 : Nat) : Int) := by omega
        have hm := hb (k - 1) (by omega)
        rw [show k - 1 + 1 = k by omega] at hm
        have := hm.1.1
        refine ⟨[.d (.lst (spsD l)), .own (nums (bsI bs)), .d (.int (i : Nat)), .d (.int (bs.getD (k - 1) 0 : Nat)), .no], by simp only [r_seq, r_ex, r_set, r_setN, r_drop, r_ret, r_if, r_frz, r_frzS, r_next, r_op, r_fun1, r_call, r_callN, r_cons, r_nil, r_var, r_c, r_bl, r_tr, r_not, r_andB, r_orB, r_andV, r_notV, r_ifE, r_chain, r_lst, r_tup, r_sz, r_own, r_def, r_seqOf, r_lc, r_app, r_fld, r_meth, r_peek, r_enum, szOk, blOf, truD, seqOf, wipeS, lfts, bndo, bnde, getz, getS, setz, setS, List.map_cons, List.map_nil, List.cons_append, List.nil_append, List.replicate, List.length_cons, List.length_nil, if_true, gInt, gTuple, gLen, Nat.reduceAdd, Nat.reduceLeDiff, giName, r_orV, r_slT, r_slL, r_part, r_noPart, gAdd_int, gSub_int, gLt_int, gLe_int, gGt_int, gGe_int, gNeg_int, gEq_int, gNe_int, gMod_int, gDiv_int, gMul_r, ixL0, ixL1, ixL2, ixL3, ixL4, ixL5, ixL6, ixL7, ixL8, ixL9, ixL10, ixL11, ixL12, ixL13, ixT0, ixT1, ixT2, ixT3, ixT4, ixT5, ixT6, ixT7, ixT8, ixT9, ixT10, and_self, Int.cast_ofNat_Int, Int.reduceEq, decide_true, decide_false, Bool.not_true, Bool.not_false, nums_length, isi_ii, gAbs_int, Int.reduceAdd, Int.reduceSub, Int.reduceMul, Int.reduceNeg, Int.reduceLT, Int.reduceLE, r_ixO, r_trO, r_pop, r_rev, r_opN, r_ext, r_setIx, r_ch3, r_star, starOf, r_lc2, r_revT, r_notT, Option.map_some, List.isEmpty_cons, List.isEmpty_nil, h0, ek, ei, en], by simp only [r_seq, r_ex, r_set, r_setN, r_drop, r_ret, r_if, r_frz, r_frzS, r_next, r_op, r_fun1, r_call, r_callN, r_cons, r_nil, r_var, r_c, r_bl, r_tr, r_not, r_andB, r_orB, r_andV, r_notV, r_ifE, r_chain, r_lst, r_tup, r_sz, r_own, r_def, r_seqOf, r_lc, r_app, r_fld, r_meth, r_peek, r_enum, szOk, blOf, truD, seqOf, wipeS, lfts, bndo, bnde, getz, getS, setz, setS, List.map_cons, List.map_nil, List.cons_append, List.nil_append, List.replicate, List.length_cons, List.length_nil, if_true, gInt, gTuple, gLen, Nat.reduceAdd, Nat.reduceLeDiff, giName, r_orV, r_slT, r_slL, r_part, r_noPart, gAdd_int, gSub_int, gLt_int, gLe_int, gGt_int, gGe_int, gNeg_int, gEq_int, gNe_int, gMod_int, gDiv_int, gMul_r, ixL0, ixL1, ixL2, ixL3, ixL4, ixL5, ixL6, ixL7, ixL8, ixL9, ixL10, ixL11, ixL12, ixL13, ixT0, ixT1, ixT2, ixT3, ixT4, ixT5, ixT6, ixT7, ixT8, ixT9, ixT10, and_self, Int.cast_ofNat_Int, Int.reduceEq, decide_true, decide_false, Bool.not_true, Bool.not_false, nums_length, isi_ii, gAbs_int, Int.reduceAdd, Int.reduceSub, Int.reduceMul, Int.reduceNeg, Int.reduceLT, Int.reduceLE, r_ixO, r_trO, r_pop, r_rev, r_opN, r_ext, r_setIx, r_ch3, r_star, starOf, r_lc2, r_revT, r_notT, Option.map_some, List.isEmpty_cons, List.isEmpty_nil, ec, ib, scalD], ⟨_, rfl, way_next w g1 g2 hm⟩, ?_⟩
        show ((bs.getD (k - 1) 0 : Nat) : Int).toNat < ((k : Nat) : Int).toNat
        omega) 200000 [.d (.lst (spsD l)), .own (nums (bsI bs)), .d (.int (i : Nat)), .d (.int (k0 : Nat)), .no] ⟨k0, rfl, hw⟩ (by
      show ((k0 : Nat) : Int).toNat < 200000
      have := hw.1.1
      omega)
  refine ⟨k, e1, w, ?_⟩
  rcases step k w with g | ⟨g1, g2⟩
  · exact g
  · have hk := w.1.1
    have ek := gIx_of (.lst (spsD l)) (.inr rfl) (show k < l.length by omega)
    have en := gNe_sp (ofR l k) (ofR l i)
    rw [decide_eq_false g2] at en
    have h0 : (0 : Int) < (k : Int) := by omega
    simp only [r_seq, r_ex, r_set, r_setN, r_drop, r_ret, r_if, r_frz, r_frzS, r_next, r_op, r_fun1, r_call, r_callN, r_cons, r_nil, r_var, r_c, r_bl, r_tr, r_not, r_andB, r_orB, r_andV, r_notV, r_ifE, r_chain, r_lst, r_tup, r_sz, r_own, r_def, r_seqOf, r_lc, r_app, r_fld, r_meth, r_peek, r_enum, szOk, blOf, truD, seqOf, wipeS, lfts, bndo, bnde, getz, getS, setz, setS, List.map_cons, List.map_nil, List.cons_append, List.nil_append, List.replicate, List.length_cons, List.length_nil, if_true, gInt, gTuple, gLen, Nat.reduceAdd, Nat.reduceLeDiff, giName, r_orV, r_slT, r_slL, r_part, r_noPart, gAdd_int, gSub_int, gLt_int, gLe_int, gGt_int, gGe_int, gNeg_int, gEq_int, gNe_int, gMod_int, gDiv_int, gMul_r, ixL0, ixL1, ixL2, ixL3, ixL4, ixL5, ixL6, ixL7, ixL8, ixL9, ixL10, ixL11, ixL12, ixL13, ixT0, ixT1, ixT2, ixT3, ixT4, ixT5, ixT6, ixT7, ixT8, ixT9, ixT10, and_self, Int.cast_ofNat_Int, Int.reduceEq, decide_true, decide_false, Bool.not_true, Bool.not_false, nums_length, isi_ii, gAbs_int, Int.reduceAdd, Int.reduceSub, Int.reduceMul, Int.reduceNeg, Int.reduceLT, Int.reduceLE, r_ixO, r_trO, r_pop, r_rev, r_opN, r_ext, r_setIx, r_ch3, r_star, starOf, r_lc2, r_revT, r_notT, Option.map_some, List.isEmpty_cons, List.isEmpty_nil, h0, ek, ei, en] at e3
    cases e3
theorem kmp_loop (l : List Seg) (m : Nat) (hm : l.length = m + 1) (hn : l.length ≤ 100000) : ∃ s', loopF (giName 2) (fSeq (fSet 3 (fPeek 1 (fop gIx (fVar 1) (fun1 gNeg (fC (.int 1)))))) (fSeq (fWhile (fun _ => 200000) (fAndB (fBl (fop gGt (fVar 3) (fC (.int 0)))) (fBl (fop gNe (fop gIx (fVar 0) (fVar 3)) (fop gIx (fVar 0) (fVar 2))))) (fSet 3 (fPeek 1 (fop gIx (fVar 1) (fop gSub (fVar 3) (fC (.int 1))))))) (fApp 1 (fIf (fBl (fop gEq (fop gIx (fVar 0) (fVar 3)) (fop gIx (fVar 0) (fVar 2)))) (fop gAdd (fVar 3) (fC (.int 1))) (fC (.int 0)))))) ((List.range m).map fun k => .int (1 + (k : Nat))) [.d (.lst (spsD l)), .own (nums (bsI [0])), .no, .no, .no] = some (.nx s') ∧ ∃ (bs : List Nat) (y z : Sl), s' = [.d (.lst (spsD l)), .own (nums (bsI bs)), y, z, .no] ∧ bs.length = m + 1 ∧ ∀ j, j < m + 1 → MaxBd (ofR l) (j + 1) (bs.getD j 0) := by
  refine loop_rng (fun k => .int (1 + (k : Nat))) m (fun i s => ∃ (bs : List Nat) (y z : Sl), s = [.d (.lst (spsD l)), .own (nums (bsI bs)), y, z, .no] ∧ bs.length = i + 1 ∧ ∀ j, j < i + 1 → MaxBd (ofR l) (j + 1) (bs.getD j 0)) _ ?_ ⟨[0], .no, .no, rfl, rfl, fun j hj => ?_⟩
  · rintro i s hi ⟨bs, y, z, rfl, h1, h2⟩
    have e1 : (1 : Int) + (i : Nat) = ((i + 1 : Nat) : Int) := by omega
    rw [e1]
    obtain ⟨bs', b, eb⟩ : ∃ bs' b, bs = bs' ++ [b] := ⟨bs.dropLast, bs.getLast (fun e => by rw [e] at h1; cases h1), (List.dropLast_concat_getLast _).symm⟩
    have hb' : bs'.length = i := by rw [eb, List.length_append] at h1; exact Nat.succ.inj h1
    have hgb : bs.getD i 0 = b := by rw [eb, List.getD_eq_getElem?_getD, List.getElem?_append_right (by omega), hb', Nat.sub_self]; rfl
    have hlast : gIx (.lst (nums (bsI bs))) (.int (-1)) = some (.int (b : Nat)) := by rw [eb]; exact bsI_last
    have hw := way_first (hgb ▸ h2 i (by omega))
    obtain ⟨k, w1, w2, w3⟩ := kmp_while l bs (i + 1) (by omega) hn h1 h2 b hw
    have hk := w2.1.1
    have ek := gIx_of (.lst (spsD l)) (.inr rfl) (show k < l.length by omega)
    have ei := gIx_of (.lst (spsD l)) (.inr rfl) (show i + 1 < l.length by omega)
    have eq := gEq_sp (ofR l k) (ofR l (i + 1))
    have hlen : (bsI bs).length < 100000 := by unfold bsI; rw [List.length_map]; omega
    obtain ⟨b', hb1, hb2⟩ : ∃ b' : Nat, MaxBd (ofR l) (i + 1 + 1) b' ∧ (if ofR l k = ofR l (i + 1) then k + 1 else 0) = b' := by
      by_cases q : ofR l k = ofR l (i + 1)
      · rw [if_pos q]; exact ⟨_, way_yes w2 q, rfl⟩
      · rw [if_neg q]
        have : k = 0 := w3.resolve_right q
        subst this
        exact ⟨_, way_no w2 q, rfl⟩
    refine ⟨_, [.d (.lst (spsD l)), .own (nums (bsI (bs ++ [b']))), .d (.int ((i + 1 : Nat) : Int)), .d (.int (k : Nat)), .no], rfl, ?_, bs ++ [b'], _, _, rfl, by rw [List.length_append, h1]; rfl, fun j hj => ?_⟩
    · rw [← bsI_app]
      refine st (by simp (disch := omega) only [r_seq, r_ex, r_set, r_setN, r_drop, r_ret, r_if, r_frz, r_frzS, r_next, r_op, r_fun1, r_call, r_callN, r_cons, r_nil, r_var, r_c, r_bl, r_tr, r_not, r_andB, r_orB, r_andV, r_notV, r_ifE, r_chain, r_lst, r_tup, r_sz, r_own, r_def, r_seqOf, r_lc, r_app, r_fld, r_meth, r_peek, r_enum, szOk, blOf, truD, seqOf, wipeS, lfts, bndo, bnde, getz, getS, setz, setS, List.map_cons, List.map_nil, List.cons_append, List.nil_append, List.replicate, List.length_cons, List.length_nil, if_true, gInt, gTuple, gLen, Nat.reduceAdd, Nat.reduceLeDiff, giName, r_orV, r_slT, r_slL, r_part, r_noPart, gAdd_int, gSub_int, gLt_int, gLe_int, gGt_int, gGe_int, gNeg_int, gEq_int, gNe_int, gMod_int, gDiv_int, gMul_r, ixL0, ixL1, ixL2, ixL3, ixL4, ixL5, ixL6, ixL7, ixL8, ixL9, ixL10, ixL11, ixL12, ixL13, ixT0, ixT1, ixT2, ixT3, ixT4, ixT5, ixT6, ixT7, ixT8, ixT9, ixT10, and_self, Int.cast_ofNat_Int, Int.reduceEq, decide_true, decide_false, Bool.not_true, Bool.not_false, nums_length, isi_ii, gAbs_int, Int.reduceAdd, Int.reduceSub, Int.reduceMul, Int.reduceNeg, Int.reduceLT, Int.reduceLE, r_ixO, r_trO, r_pop, r_rev, r_opN, r_ext, r_setIx, r_ch3, r_star, starOf, r_lc2, r_revT, r_notT, Option.map_some, List.isEmpty_cons, List.isEmpty_nil, hlast, scalD] <;> rfl) ?_
      refine st w1 ?_
      by_cases q : ofR l k = ofR l (i + 1)
      · rw [decide_eq_true q] at eq
        rw [if_pos q] at hb2
        subst hb2
        simp only [r_seq, r_ex, r_set, r_setN, r_drop, r_ret, r_if, r_frz, r_frzS, r_next, r_op, r_fun1, r_call, r_callN, r_cons, r_nil, r_var, r_c, r_bl, r_tr, r_not, r_andB, r_orB, r_andV, r_notV, r_ifE, r_chain, r_lst, r_tup, r_sz, r_own, r_def, r_seqOf, r_lc, r_app, r_fld, r_meth, r_peek, r_enum, szOk, blOf, truD, seqOf, wipeS, lfts, bndo, bnde, getz, getS, setz, setS, List.map_cons, List.map_nil, List.cons_append, List.nil_append, List.replicate, List.length_cons, List.length_nil, if_true, gInt, gTuple, gLen, Nat.reduceAdd, Nat.reduceLeDiff, giName, r_orV, r_slT, r_slL, r_part, r_noPart, gAdd_int, gSub_int, gLt_int, gLe_int, gGt_int, gGe_int, gNeg_int, gEq_int, gNe_int, gMod_int, gDiv_int, gMul_r, ixL0, ixL1, ixL2, ixL3, ixL4, ixL5, ixL6, ixL7, ixL8, ixL9, ixL10, ixL11, ixL12, ixL13, ixT0, ixT1, ixT2, ixT3, ixT4, ixT5, ixT6, ixT7, ixT8, ixT9, ixT10, and_self, Int.cast_ofNat_Int, Int.reduceEq, decide_true, decide_false, Bool.not_true, Bool.not_false, nums_length, isi_ii, gAbs_int, Int.reduceAdd, Int.reduceSub, Int.reduceMul, Int.reduceNeg, Int.reduceLT, Int.reduceLE, r_ixO, r_trO, r_pop, r_rev, r_opN, r_ext, r_setIx, r_ch3, r_star, starOf, r_lc2, r_revT, r_notT, Option.map_some, List.isEmpty_cons, List.isEmpty_nil, ek, ei, eq, hlen] <;> rfl
      · rw [decide_eq_false q] at eq
        rw [if_neg q] at hb2
        subst hb2
        simp only [r_seq, r_ex, r_set, r_setN, r_drop, r_ret, r_if, r_frz, r_frzS, r_next, r_op, r_fun1, r_call, r_callN, r_cons, r_nil, r_var, r_c, r_bl, r_tr, r_not, r_andB, r_orB, r_andV, r_notV, r_ifE, r_chain, r_lst, r_tup, r_sz, r_own, r_def, r_seqOf, r_lc, r_app, r_fld, r_meth, r_peek, r_enum, szOk, blOf, truD, seqOf, wipeS, lfts, bndo, bnde, getz, getS, setz, setS, List.map_cons, List.map_nil, List.cons_append, List.nil_append, List.replicate, List.length_cons, List.length_nil, if_true, gInt, gTuple, gLen, Nat.reduceAdd, Nat.reduceLeDiff, giName, r_orV, r_slT, r_slL, r_part, r_noPart, gAdd_int, gSub_int, gLt_int, gLe_int, gGt_int, gGe_int, gNeg_int, gEq_int, gNe_int, gMod_int, gDiv_int, gMul_r, ixL0, ixL1, ixL2, ixL3, ixL4, ixL5, ixL6, ixL7, ixL8, ixL9, ixL10, ixL11, ixL12, ixL13, ixT0, ixT1, ixT2, ixT3, ixT4, ixT5, ixT6, ixT7, ixT8, ixT9, ixT10, and_self, Int.cast_ofNat_Int, Int.reduceEq, decide_true, decide_false, Bool.not_true, Bool.not_false, nums_length, isi_ii, gAbs_int, Int.reduceAdd, Int.reduceSub, Int.reduceMul, Int.reduceNeg, Int.reduceLT, Int.reduceLE, r_ixO, r_trO, r_pop, r_rev, r_opN, r_ext, r_setIx, r_ch3, r_star, starOf, r_lc2, r_revT, r_notT, Option.map_some, List.isEmpty_cons, List.isEmpty_nil, ek, ei, eq, hlen] <;> rfl
    · by_cases q : j < i + 1
      · rw [List.getD_eq_getElem?_getD, List.getElem?_append_left (by omega), ← List.getD_eq_getElem?_getD]
        exact h2 j q
      · have : j = i + 1 := by omega
        subst this
        rw [List.getD_eq_getElem?_getD, List.getElem?_append_right (by omega), h1, Nat.sub_self]
        exact hb1
  · have : j = 0 := by omega
    subst this
    exact ⟨bd_zero (by omega), fun c hc => by have := hc.1; omega⟩
theorem at_shortest (c : Cl) (l : List Seg) (hn : l.length ≤ 100000) (h0 : l ≠ []) : ∃ b, MaxBd (ofR l) l.length b ∧ G_shortest_turn c [.lst (spsD l)] = some (.ok (.int (turnOf l.length b : Nat))) := by
  obtain ⟨m, hm⟩ : ∃ m, l.length = m + 1 := ⟨l.length - 1, by have := List.length_pos_iff.mpr h0; omega⟩
  obtain ⟨s', e1, bs, y, z, rfl, h1, h2⟩ := kmp_loop l m hm hn
  obtain ⟨bs', b, eb⟩ : ∃ bs' b, bs = bs' ++ [b] := ⟨bs.dropLast, bs.getLast (fun e => by rw [e] at h1; cases h1), (List.dropLast_concat_getLast _).symm⟩
  have hb' : bs'.length = m := by rw [eb, List.length_append] at h1; exact Nat.succ.inj h1
  have hgb : bs.getD m 0 = b := by rw [eb, List.getD_eq_getElem?_getD, List.getElem?_append_right (by omega), hb', Nat.sub_self]; rfl
  have hlast : gIx (.lst (nums (bsI bs))) (.int (-1)) = some (.int (b : Nat)) := by rw [eb]; exact bsI_last
  have hM : MaxBd (ofR l) l.length b := by rw [hm]; exact hgb ▸ h2 m (by omega)
  have hbl := hM.1.1
  refine ⟨b, hM, def_rt ?_⟩
  show F_shortest_turn c [.d (.lst (spsD l)), .no, .no, .no, .no] = _
  unfold F_shortest_turn
  have er := gRng2 (n := m) (by omega)
  have es := spsD_len l
  have em : ((l.length : Nat) : Int) = ((m : Nat) : Int) + 1 := by omega
  refine st (s' := [.d (.lst (spsD l)), .own (nums (bsI [0])), .no, .no, .no]) (by simp only [r_seq, r_ex, r_set, r_setN, r_drop, r_ret, r_if, r_frz, r_frzS, r_next, r_op, r_fun1, r_call, r_callN, r_cons, r_nil, r_var, r_c, r_bl, r_tr, r_not, r_andB, r_orB, r_andV, r_notV, r_ifE, r_chain, r_lst, r_tup, r_sz, r_own, r_def, r_seqOf, r_lc, r_app, r_fld, r_meth, r_peek, r_enum, szOk, blOf, truD, seqOf, wipeS, lfts, bndo, bnde, getz, getS, setz, setS, List.map_cons, List.map_nil, List.cons_append, List.nil_append, List.replicate, List.length_cons, List.length_nil, if_true, gInt, gTuple, gLen, Nat.reduceAdd, Nat.reduceLeDiff, giName, r_orV, r_slT, r_slL, r_part, r_noPart, gAdd_int, gSub_int, gLt_int, gLe_int, gGt_int, gGe_int, gNeg_int, gEq_int, gNe_int, gMod_int, gDiv_int, gMul_r, ixL0, ixL1, ixL2, ixL3, ixL4, ixL5, ixL6, ixL7, ixL8, ixL9, ixL10, ixL11, ixL12, ixL13, ixT0, ixT1, ixT2, ixT3, ixT4, ixT5, ixT6, ixT7, ixT8, ixT9, ixT10, and_self, Int.cast_ofNat_Int, Int.reduceEq, decide_true, decide_false, Bool.not_true, Bool.not_false, nums_length, isi_ii, gAbs_int, Int.reduceAdd, Int.reduceSub, Int.reduceMul, Int.reduceNeg, Int.reduceLT, Int.reduceLE, r_ixO, r_trO, r_pop, r_rev, r_opN, r_ext, r_setIx, r_ch3, r_star, starOf, r_lc2, r_revT, r_notT, Option.map_some, List.isEmpty_cons, List.isEmpty_nil] <;> rfl) ?_
  refine st (s' := [.d (.lst (spsD l)), .own (nums (bsI bs)), y, z, .no]) ?_ ?_
  · generalize spsD l = L at *
    simp only [r_seq, r_ex, r_set, r_setN, r_drop, r_ret, r_if, r_frz, r_frzS, r_next, r_op, r_fun1, r_call, r_callN, r_cons, r_nil, r_var, r_c, r_bl, r_tr, r_not, r_andB, r_orB, r_andV, r_notV, r_ifE, r_chain, r_lst, r_tup, r_sz, r_own, r_def, r_seqOf, r_lc, r_app, r_fld, r_meth, r_peek, r_enum, szOk, blOf, truD, seqOf, wipeS, lfts, bndo, bnde, getz, getS, setz, setS, List.map_cons, List.map_nil, List.cons_append, List.nil_append, List.replicate, List.length_cons, List.length_nil, if_true, gInt, gTuple, gLen, Nat.reduceAdd, Nat.reduceLeDiff, giName, r_orV, r_slT, r_slL, r_part, r_noPart, gAdd_int, gSub_int, gLt_int, gLe_int, gGt_int, gGe_int, gNeg_int, gEq_int, gNe_int, gMod_int, gDiv_int, gMul_r, ixL0, ixL1, ixL2, ixL3, ixL4, ixL5, ixL6, ixL7, ixL8, ixL9, ixL10, ixL11, ixL12, ixL13, ixT0, ixT1, ixT2, ixT3, ixT4, ixT5, ixT6, ixT7, ixT8, ixT9, ixT10, and_self, Int.cast_ofNat_Int, Int.reduceEq, decide_true, decide_false, Bool.not_true, Bool.not_false, nums_length, isi_ii, gAbs_int, Int.reduceAdd, Int.reduceSub, Int.reduceMul, Int.reduceNeg, Int.reduceLT, Int.reduceLE, r_ixO, r_trO, r_pop, r_rev, r_opN, r_ext, r_setIx, r_ch3, r_star, starOf, r_lc2, r_revT, r_notT, Option.map_some, List.isEmpty_cons, List.isEmpty_nil, r_for, es, em, er]
    exact e1
  · have ed : ((l.length : Nat) : Int) - ((b : Nat) : Int) = ((l.length - b : Nat) : Int) := by omega
    have emd : gMod (.int ((l.length : Nat) : Int)) (.int ((l.length - b : Nat) : Int)) = some (.int ((l.length % (l.length - b) : Nat) : Int)) := by rw [gMod_int (by omega)]; rfl
    generalize spsD l = L at *
    refine st (s' := [.d (.lst L), .own (nums (bsI bs)), y, z, .d (.int ((l.length - b : Nat) : Int))]) (by simp only [r_seq, r_ex, r_set, r_setN, r_drop, r_ret, r_if, r_frz, r_frzS, r_next, r_op, r_fun1, r_call, r_callN, r_cons, r_nil, r_var, r_c, r_bl, r_tr, r_not, r_andB, r_orB, r_andV, r_notV, r_ifE, r_chain, r_lst, r_tup, r_sz, r_own, r_def, r_seqOf, r_lc, r_app, r_fld, r_meth, r_peek, r_enum, szOk, blOf, truD, seqOf, wipeS, lfts, bndo, bnde, getz, getS, setz, setS, List.map_cons, List.map_nil, List.cons_append, List.nil_append, List.replicate, List.length_cons, List.length_nil, if_true, gInt, gTuple, gLen, Nat.reduceAdd, Nat.reduceLeDiff, giName, r_orV, r_slT, r_slL, r_part, r_noPart, gAdd_int, gSub_int, gLt_int, gLe_int, gGt_int, gGe_int, gNeg_int, gEq_int, gNe_int, gMod_int, gDiv_int, gMul_r, ixL0, ixL1, ixL2, ixL3, ixL4, ixL5, ixL6, ixL7, ixL8, ixL9, ixL10, ixL11, ixL12, ixL13, ixT0, ixT1, ixT2, ixT3, ixT4, ixT5, ixT6, ixT7, ixT8, ixT9, ixT10, and_self, Int.cast_ofNat_Int, Int.reduceEq, decide_true, decide_false, Bool.not_true, Bool.not_false, nums_length, isi_ii, gAbs_int, Int.reduceAdd, Int.reduceSub, Int.reduceMul, Int.reduceNeg, Int.reduceLT, Int.reduceLE, r_ixO, r_trO, r_pop, r_rev, r_opN, r_ext, r_setIx, r_ch3, r_star, starOf, r_lc2, r_revT, r_notT, Option.map_some, List.isEmpty_cons, List.isEmpty_nil, es, hlast, scalD, ed]) ?_
    unfold turnOf
    by_cases q : l.length % (l.length - b) = 0
    · have q2 : ((l.length % (l.length - b) : Nat) : Int) = 0 := by omega
      rw [if_pos q]
      simp only [r_seq, r_ex, r_set, r_setN, r_drop, r_ret, r_if, r_frz, r_frzS, r_next, r_op, r_fun1, r_call, r_callN, r_cons, r_nil, r_var, r_c, r_bl, r_tr, r_not, r_andB, r_orB, r_andV, r_notV, r_ifE, r_chain, r_lst, r_tup, r_sz, r_own, r_def, r_seqOf, r_lc, r_app, r_fld, r_meth, r_peek, r_enum, szOk, blOf, truD, seqOf, wipeS, lfts, bndo, bnde, getz, getS, setz, setS, List.map_cons, List.map_nil, List.cons_append, List.nil_append, List.replicate, List.length_cons, List.length_nil, if_true, gInt, gTuple, gLen, Nat.reduceAdd, Nat.reduceLeDiff, giName, r_orV, r_slT, r_slL, r_part, r_noPart, gAdd_int, gSub_int, gLt_int, gLe_int, gGt_int, gGe_int, gNeg_int, gEq_int, gNe_int, gMod_int, gDiv_int, gMul_r, ixL0, ixL1, ixL2, ixL3, ixL4, ixL5, ixL6, ixL7, ixL8, ixL9, ixL10, ixL11, ixL12, ixL13, ixT0, ixT1, ixT2, ixT3, ixT4, ixT5, ixT6, ixT7, ixT8, ixT9, ixT10, and_self, Int.cast_ofNat_Int, Int.reduceEq, decide_true, decide_false, Bool.not_true, Bool.not_false, nums_length, isi_ii, gAbs_int, Int.reduceAdd, Int.reduceSub, Int.reduceMul, Int.reduceNeg, Int.reduceLT, Int.reduceLE, r_ixO, r_trO, r_pop, r_rev, r_opN, r_ext, r_setIx, r_ch3, r_star, starOf, r_lc2, r_revT, r_notT, Option.map_some, List.isEmpty_cons, List.isEmpty_nil, es, emd, q2]
    · have q2 : ¬ ((l.length % (l.length - b) : Nat) : Int) = 0 := by omega
      rw [if_neg q]
      simp only [r_seq, r_ex, r_set, r_setN, r_drop, r_ret, r_if, r_frz, r_frzS, r_next, r_op, r_fun1, r_call, r_callN, r_cons, r_nil, r_var, r_c, r_bl, r_tr, r_not, r_andB, r_orB, r_andV, r_notV, r_ifE, r_chain, r_lst, r_tup, r_sz, r_own, r_def, r_seqOf, r_lc, r_app, r_fld, r_meth, r_peek, r_enum, szOk, blOf, truD, seqOf, wipeS, lfts, bndo, bnde, getz, getS, setz, setS, List.map_cons, List.map_nil, List.cons_append, List.nil_append, List.replicate, List.length_cons, List.length_nil, if_true, gInt, gTuple, gLen, Nat.reduceAdd, Nat.reduceLeDiff, giName, r_orV, r_slT, r_slL, r_part, r_noPart, gAdd_int, gSub_int, gLt_int, gLe_int, gGt_int, gGe_int, gNeg_int, gEq_int, gNe_int, gMod_int, gDiv_int, gMul_r, ixL0, ixL1, ixL2, ixL3, ixL4, ixL5, ixL6, ixL7, ixL8, ixL9, ixL10, ixL11, ixL12, ixL13, ixT0, ixT1, ixT2, ixT3, ixT4, ixT5, ixT6, ixT7, ixT8, ixT9, ixT10, and_self, Int.cast_ofNat_Int, Int.reduceEq, decide_true, decide_false, Bool.not_true, Bool.not_false, nums_length, isi_ii, gAbs_int, Int.reduceAdd, Int.reduceSub, Int.reduceMul, Int.reduceNeg, Int.reduceLT, Int.reduceLE, r_ixO, r_trO, r_pop, r_rev, r_opN, r_ext, r_setIx, r_ch3, r_star, starOf, r_lc2, r_revT, r_notT, Option.map_some, List.isEmpty_cons, List.isEmpty_nil, es, emd, q2]

/-! ### the least period of a cycle -/
theorem sIx_1 (n : Nat) : HT.sIx (n + 1) 0 (some 1) = 1 := by
  have := HT.sIx_nat (n + 1) 0 1
  rw [Nat.min_eq_left (by omega)] at this
  exact this
theorem sIx_m1 (n : Nat) : HT.sIx (n + 1) (n + 1) (some (-1)) = n := by
  unfold HT.sIx
  simp
  try omega
theorem cutD_mid (s : D) (r : List D) : FL.cutD (s :: r) (some 1) (some (-1)) = r.dropLast := by
  unfold FL.cutD
  rw [List.length_cons, sIx_1, sIx_m1, List.drop_one, List.tail_cons, List.dropLast_eq_take]
theorem cutD_tail (s : D) (r : List D) : FL.cutD (s :: r) (some 1) none = r := by
  unfold FL.cutD
  rw [List.length_cons, sIx_1, List.drop_one, List.tail_cons]
  exact List.take_of_length_le (Nat.le_of_eq rfl)
theorem at_runs (c : Cl) (p : Int) (l : List Seg) (h : l ≠ []) (hn : l.length ≤ 90000) : G_runs c [.int p, .tup (spsD l)] = some (.ok (.tup (spsD (runsS p l)))) := by
  cases l with
  | nil => exact absurd rfl h
  | cons s r =>
    refine def_rt ?_
    show F_runs c [.d (.int p), .d (.tup (spsD (s :: r)))] = _
    unfold F_runs
    have i0 : gIx (.tup (spsD (s :: r))) (.int 0) = some (.tup [.int s.1, .int s.2]) := gIx_hd _ (.inl rfl)
    have i1 : gIx (.tup (spsD (s :: r))) (.int (-1)) = some (.tup [.int ((s :: r).getLast (List.cons_ne_nil _ _)).1, .int ((s :: r).getLast (List.cons_ne_nil _ _)).2]) := gIx_last _ (.inl rfl) (List.cons_ne_nil _ _)
    have ec : FL.cutD (spsD (s :: r)) (some 1) (some (-1)) = spsD r.dropLast := by
      show FL.cutD (spD s :: spsD r) (some 1) (some (-1)) = _
      rw [cutD_mid]
      unfold spsD
      rw [List.map_dropLast]
    by_cases q1 : s.1 > 0
    · have e : runsS p (s :: r) = s :: r := if_pos (.inl q1)
      rw [e]
      have q1' : (0 : Int) < s.1 := q1
      generalize spsD (s :: r) = L at *
      simp only [r_seq, r_ex, r_set, r_setN, r_drop, r_ret, r_if, r_frz, r_frzS, r_next, r_op, r_fun1, r_call, r_callN, r_cons, r_nil, r_var, r_c, r_bl, r_tr, r_not, r_andB, r_orB, r_andV, r_notV, r_ifE, r_chain, r_lst, r_tup, r_sz, r_own, r_def, r_seqOf, r_lc, r_app, r_fld, r_meth, r_peek, r_enum, szOk, blOf, truD, seqOf, wipeS, lfts, bndo, bnde, getz, getS, setz, setS, List.map_cons, List.map_nil, List.cons_append, List.nil_append, List.replicate, List.length_cons, List.length_nil, if_true, gInt, gTuple, gLen, Nat.reduceAdd, Nat.reduceLeDiff, giName, r_orV, r_slT, r_slL, r_part, r_noPart, gAdd_int, gSub_int, gLt_int, gLe_int, gGt_int, gGe_int, gNeg_int, gEq_int, gNe_int, gMod_int, gDiv_int, gMul_r, ixL0, ixL1, ixL2, ixL3, ixL4, ixL5, ixL6, ixL7, ixL8, ixL9, ixL10, ixL11, ixL12, ixL13, ixT0, ixT1, ixT2, ixT3, ixT4, ixT5, ixT6, ixT7, ixT8, ixT9, ixT10, and_self, Int.cast_ofNat_Int, Int.reduceEq, decide_true, decide_false, Bool.not_true, Bool.not_false, nums_length, isi_ii, gAbs_int, Int.reduceAdd, Int.reduceSub, Int.reduceMul, Int.reduceNeg, Int.reduceLT, Int.reduceLE, r_ixO, r_trO, r_pop, r_rev, r_opN, r_ext, r_setIx, r_ch3, r_star, starOf, r_lc2, r_revT, r_notT, Option.map_some, List.isEmpty_cons, List.isEmpty_nil, i0, i1, q1']
    · have q1' : ¬ (0 : Int) < s.1 := q1
      by_cases q2 : ((s :: r).getLast (by simp)).2 < p
      · have e : runsS p (s :: r) = s :: r := if_pos (.inr q2)
        rw [e]
        generalize spsD (s :: r) = L at *
        simp only [r_seq, r_ex, r_set, r_setN, r_drop, r_ret, r_if, r_frz, r_frzS, r_next, r_op, r_fun1, r_call, r_callN, r_cons, r_nil, r_var, r_c, r_bl, r_tr, r_not, r_andB, r_orB, r_andV, r_notV, r_ifE, r_chain, r_lst, r_tup, r_sz, r_own, r_def, r_seqOf, r_lc, r_app, r_fld, r_meth, r_peek, r_enum, szOk, blOf, truD, seqOf, wipeS, lfts, bndo, bnde, getz, getS, setz, setS, List.map_cons, List.map_nil, List.cons_append, List.nil_append, List.replicate, List.length_cons, List.length_nil, if_true, gInt, gTuple, gLen, Nat.reduceAdd, Nat.reduceLeDiff, giName, r_orV, r_slT, r_slL, r_part, r_noPart, gAdd_int, gSub_int, gLt_int, gLe_int, gGt_int, gGe_int, gNeg_int, gEq_int, gNe_int, gMod_int, gDiv_int, gMul_r, ixL0, ixL1, ixL2, ixL3, ixL4, ixL5, ixL6, ixL7, ixL8, ixL9, ixL10, ixL11, ixL12, ixL13, ixT0, ixT1, ixT2, ixT3, ixT4, ixT5, ixT6, ixT7, ixT8, ixT9, ixT10, and_self, Int.cast_ofNat_Int, Int.reduceEq, decide_true, decide_false, Bool.not_true, Bool.not_false, nums_length, isi_ii, gAbs_int, Int.reduceAdd, Int.reduceSub, Int.reduceMul, Int.reduceNeg, Int.reduceLT, Int.reduceLE, r_ixO, r_trO, r_pop, r_rev, r_opN, r_ext, r_setIx, r_ch3, r_star, starOf, r_lc2, r_revT, r_notT, Option.map_some, List.isEmpty_cons, List.isEmpty_nil, i0, i1, q1', q2]
      · have e : runsS p (s :: r) = r.dropLast ++ [(((s :: r).getLast (by simp)).1, p + s.2)] := if_neg (by omega)
        have hz : (spsD r.dropLast ++ [D.tup [.int ((s :: r).getLast (List.cons_ne_nil _ _)).1, .int (p + s.2)]]).length ≤ 100000 := by
          rw [List.length_append, spsD_len, List.length_dropLast]
          simp only [List.length_cons, List.length_nil] at hn ⊢
          omega
        rw [e, spsD_app]
        generalize spsD (s :: r) = L at *
        simp only [r_seq, r_ex, r_set, r_setN, r_drop, r_ret, r_if, r_frz, r_frzS, r_next, r_op, r_fun1, r_call, r_callN, r_cons, r_nil, r_var, r_c, r_bl, r_tr, r_not, r_andB, r_orB, r_andV, r_notV, r_ifE, r_chain, r_lst, r_tup, r_sz, r_own, r_def, r_seqOf, r_lc, r_app, r_fld, r_meth, r_peek, r_enum, szOk, blOf, truD, seqOf, wipeS, lfts, bndo, bnde, getz, getS, setz, setS, List.map_cons, List.map_nil, List.cons_append, List.nil_append, List.replicate, List.length_cons, List.length_nil, if_true, gInt, gTuple, gLen, Nat.reduceAdd, Nat.reduceLeDiff, giName, r_orV, r_slT, r_slL, r_part, r_noPart, gAdd_int, gSub_int, gLt_int, gLe_int, gGt_int, gGe_int, gNeg_int, gEq_int, gNe_int, gMod_int, gDiv_int, gMul_r, ixL0, ixL1, ixL2, ixL3, ixL4, ixL5, ixL6, ixL7, ixL8, ixL9, ixL10, ixL11, ixL12, ixL13, ixT0, ixT1, ixT2, ixT3, ixT4, ixT5, ixT6, ixT7, ixT8, ixT9, ixT10, and_self, Int.cast_ofNat_Int, Int.reduceEq, decide_true, decide_false, Bool.not_true, Bool.not_false, nums_length, isi_ii, gAbs_int, Int.reduceAdd, Int.reduceSub, Int.reduceMul, Int.reduceNeg, Int.reduceLT, Int.reduceLE, r_ixO, r_trO, r_pop, r_rev, r_opN, r_ext, r_setIx, r_ch3, r_star, starOf, r_lc2, r_revT, r_notT, Option.map_some, List.isEmpty_cons, List.isEmpty_nil, i0, i1, q1', q2, ec, hz] <;> rfl
theorem zipD_zip : ∀ (R : List Seg) (T : List Int), zipD (spsD R) (nums T) = (R.zip T).map fun x => .tup [spD x.1, .int x.2]
  | [], _ => rfl
  | _ :: _, [] => rfl
  | s :: R, t :: T => congrArg (D.tup [spD s, .int t] :: ·) (zipD_zip R T)
def startsS (p s0 : Int) (R : List Seg) : List Int := R.map (·.1) ++ [s0 + p]
def stepsS (p s0 : Int) (R : List Seg) : List Seg := (R.zip (startsS p s0 R).tail).map fun x => (x.1.2 - x.1.1, x.2 - x.1.1)
theorem starts_sq {p s0 : Int} {R : List Seg} (w : Circ p s0 R) {i : Nat} (h : i ≤ R.length) : (startsS p s0 R)[i]? = some (sq p R i) := by
  unfold startsS
  by_cases q : i < R.length
  · rw [List.getElem?_append_left (by rw [List.length_map]; exact q), List.getElem?_map, List.getElem?_eq_getElem q, sq_lt w q, List.getD_eq_getElem?_getD, List.getElem?_eq_getElem q]
    rfl
  · have e : i = R.length := by omega
    subst e
    rw [List.getElem?_append_right (by rw [List.length_map]; exact Nat.le_refl _), List.length_map, Nat.sub_self, sq_end w]
    rfl
theorem starts_len (p s0 : Int) (R : List Seg) : (startsS p s0 R).length = R.length + 1 := by unfold startsS; rw [List.length_append, List.length_map]; rfl
theorem steps_len (p s0 : Int) (R : List Seg) : (stepsS p s0 R).length = R.length := by
  unfold stepsS
  rw [List.length_map, List.length_zip, List.length_tail, starts_len]
  exact Nat.min_self _
theorem steps_of {p s0 : Int} {R : List Seg} (w : Circ p s0 R) {i : Nat} (h : i < R.length) : ofR (stepsS p s0 R) i = stp p R i := by
  have h1 := starts_sq w (i := i) (by omega)
  have h2 := starts_sq w (i := i + 1) (by omega)
  show (stepsS p s0 R).getD i (0, 0) = _
  unfold stepsS stp
  rw [List.getD_eq_getElem?_getD, List.getElem?_map]
  have hz : (R.zip (startsS p s0 R).tail)[i]? = some (R.getD i (0, 0), sq p R (i + 1)) := by
    rw [List.getElem?_zip_eq_some]
    refine ⟨?_, ?_⟩
    · rw [List.getD_eq_getElem?_getD, List.getElem?_eq_getElem h]
      rfl
    · rw [List.getElem?_tail]
      exact h2
  rw [hz, sq_lt w h]
  rfl
def Least (p : Int) (l : List Seg) (q : Int) : Prop := ∀ r : Int, 1 ≤ r → (∀ t, cyc 0 p l (t + r) = cyc 0 p l t) → q ≤ r
theorem at_least (c : Cl) (p : Int) (l : List Seg) (w : Wh p l) (hn : l.length ≤ 90000) : ∃ q, G_least_period c [.int p, .tup (spsD l)] = some (.ok (.int q)) ∧ Per p l q ∧ Least p l q := by
  have hp := w.p1
  cases l with
  | nil =>
    refine ⟨1, def_rt ?_, ⟨Int.le_refl _, hp, fun t => rfl⟩, fun r h _ => h⟩
    show F_least_period c [.d (.int p), .d (.tup []), .no, .no, .no, .no, .no, .no, .no] = _
    unfold F_least_period
    simp only [r_seq, r_ex, r_set, r_setN, r_drop, r_ret, r_if, r_frz, r_frzS, r_next, r_op, r_fun1, r_call, r_callN, r_cons, r_nil, r_var, r_c, r_bl, r_tr, r_not, r_andB, r_orB, r_andV, r_notV, r_ifE, r_chain, r_lst, r_tup, r_sz, r_own, r_def, r_seqOf, r_lc, r_app, r_fld, r_meth, r_peek, r_enum, szOk, blOf, truD, seqOf, wipeS, lfts, bndo, bnde, getz, getS, setz, setS, List.map_cons, List.map_nil, List.cons_append, List.nil_append, List.replicate, List.length_cons, List.length_nil, if_true, gInt, gTuple, gLen, Nat.reduceAdd, Nat.reduceLeDiff, giName, r_orV, r_slT, r_slL, r_part, r_noPart, gAdd_int, gSub_int, gLt_int, gLe_int, gGt_int, gGe_int, gNeg_int, gEq_int, gNe_int, gMod_int, gDiv_int, gMul_r, ixL0, ixL1, ixL2, ixL3, ixL4, ixL5, ixL6, ixL7, ixL8, ixL9, ixL10, ixL11, ixL12, ixL13, ixT0, ixT1, ixT2, ixT3, ixT4, ixT5, ixT6, ixT7, ixT8, ixT9, ixT10, and_self, Int.cast_ofNat_Int, Int.reduceEq, decide_true, decide_false, Bool.not_true, Bool.not_false, nums_length, isi_ii, gAbs_int, Int.reduceAdd, Int.reduceSub, Int.reduceMul, Int.reduceNeg, Int.reduceLT, Int.reduceLE, r_ixO, r_trO, r_pop, r_rev, r_opN, r_ext, r_setIx, r_ch3, r_star, starOf, r_lc2, r_revT, r_notT, Option.map_some, List.isEmpty_cons, List.isEmpty_nil] <;> rfl
  | cons s r =>
    have ef := at_isfull c 0 p (s :: r)
    have hr1 : (spsD (s :: r)).isEmpty = false := rfl
    by_cases hf : s :: r = [(0, p)]
    · refine ⟨1, def_rt ?_, ⟨Int.le_refl _, hp, fun t => ?_⟩, fun r h _ => h⟩
      · rw [decide_eq_true hf] at ef
        show F_least_period c [.d (.int p), .d (.tup (spsD (s :: r))), .no, .no, .no, .no, .no, .no, .no] = _
        unfold F_least_period
        generalize spsD (s :: r) = L at *
        simp only [r_seq, r_ex, r_set, r_setN, r_drop, r_ret, r_if, r_frz, r_frzS, r_next, r_op, r_fun1, r_call, r_callN, r_cons, r_nil, r_var, r_c, r_bl, r_tr, r_not, r_andB, r_orB, r_andV, r_notV, r_ifE, r_chain, r_lst, r_tup, r_sz, r_own, r_def, r_seqOf, r_lc, r_app, r_fld, r_meth, r_peek, r_enum, szOk, blOf, truD, seqOf, wipeS, lfts, bndo, bnde, getz, getS, setz, setS, List.map_cons, List.map_nil, List.cons_append, List.nil_append, List.replicate, List.length_cons, List.length_nil, if_true, gInt, gTuple, gLen, Nat.reduceAdd, Nat.reduceLeDiff, giName, r_orV, r_slT, r_slL, r_part, r_noPart, gAdd_int, gSub_int, gLt_int, gLe_int, gGt_int, gGe_int, gNeg_int, gEq_int, gNe_int, gMod_int, gDiv_int, gMul_r, ixL0, ixL1, ixL2, ixL3, ixL4, ixL5, ixL6, ixL7, ixL8, ixL9, ixL10, ixL11, ixL12, ixL13, ixT0, ixT1, ixT2, ixT3, ixT4, ixT5, ixT6, ixT7, ixT8, ixT9, ixT10, and_self, Int.cast_ofNat_Int, Int.reduceEq, decide_true, decide_false, Bool.not_true, Bool.not_false, nums_length, isi_ii, gAbs_int, Int.reduceAdd, Int.reduceSub, Int.reduceMul, Int.reduceNeg, Int.reduceLT, Int.reduceLE, r_ixO, r_trO, r_pop, r_rev, r_opN, r_ext, r_setIx, r_ch3, r_star, starOf, r_lc2, r_revT, r_notT, Option.map_some, List.isEmpty_cons, List.isEmpty_nil, hr1, ef]
      · have full : ∀ t, cyc 0 p (s :: r) t = true := fun t => by
          unfold cyc
          rw [hf]
          exact hit_iff.mpr ⟨(0, p), List.mem_cons_self .., Int.emod_nonneg _ (by omega), Int.emod_lt_of_pos _ (by omega)⟩
        rw [full, full]
    · obtain ⟨s0, W, hW⟩ := runs_ok w (List.cons_ne_nil _ _) hf
      have er := at_runs c p (s :: r) (List.cons_ne_nil _ _) hn
      have hRn : (runsS p (s :: r)).length ≤ 90001 := by
        have : ∀ x y : List Seg, (if s.1 > 0 ∨ (((s :: r).getLast (by simp)).2 < p) then s :: r else r.dropLast ++ [(((s :: r).getLast (by simp)).1, p + s.2)]).length ≤ 90001 := fun _ _ => by
          split
          · omega
          · rw [List.length_append, List.length_dropLast]
            simp only [List.length_cons, List.length_nil] at hn ⊢
            omega
        exact this [] []
      generalize runsS p (s :: r) = R at *
      have hSl := steps_len p s0 R
      have hne : stepsS p s0 R ≠ [] := fun e => by
        have := w.p1
        have := W.n0
        rw [e] at hSl
        simp only [List.length_nil] at hSl
        omega
      obtain ⟨b, hM, eT⟩ := at_shortest c (stepsS p s0 R) (by omega) hne
      obtain ⟨T1, T2, T3, T4⟩ := turn_rot hM.1
      rw [hSl] at T1 T3 T4 hM eT
      have hrot : Rot (stp p R) R.length (turnOf R.length b) := fun i => by
        rw [← steps_of W (Nat.mod_lt _ W.n0), ← steps_of W (Nat.mod_lt _ W.n0)]
        exact T1 i
      rw [hSl] at T2
      obtain ⟨q1, q2, _, q4⟩ := rot_per W hrot T2 T4
      have hmin : ∀ m, 0 < m → Rot (stp p R) R.length m → turnOf R.length b ≤ m := fun m m0 hr => turn_min hM (fun i => by
        have h1 := hr i
        rw [← steps_of W (Nat.mod_lt _ W.n0), ← steps_of W (Nat.mod_lt _ W.n0)] at h1
        exact h1) m0
      refine ⟨sq p R (turnOf R.length b) - s0, def_rt ?_, ⟨q1, q2, fun t => Bool.eq_iff_iff.mpr ?_⟩, fun r hr hper => rot_least W hmin r hr fun t => by rw [← hW, ← hW, hper]⟩
      · rw [decide_eq_false hf] at ef
        show F_least_period c [.d (.int p), .d (.tup (spsD (s :: r))), .no, .no, .no, .no, .no, .no, .no] = _
        unfold F_least_period
        refine st (s' := [.d (.int p), .d (.tup (spsD (s :: r))), .no, .no, .no, .no, .no, .no, .no]) ?_ ?_
        · generalize spsD (s :: r) = L at *
          simp only [r_seq, r_ex, r_set, r_setN, r_drop, r_ret, r_if, r_frz, r_frzS, r_next, r_op, r_fun1, r_call, r_callN, r_cons, r_nil, r_var, r_c, r_bl, r_tr, r_not, r_andB, r_orB, r_andV, r_notV, r_ifE, r_chain, r_lst, r_tup, r_sz, r_own, r_def, r_seqOf, r_lc, r_app, r_fld, r_meth, r_peek, r_enum, szOk, blOf, truD, seqOf, wipeS, lfts, bndo, bnde, getz, getS, setz, setS, List.map_cons, List.map_nil, List.cons_append, List.nil_append, List.replicate, List.length_cons, List.length_nil, if_true, gInt, gTuple, gLen, Nat.reduceAdd, Nat.reduceLeDiff, giName, r_orV, r_slT, r_slL, r_part, r_noPart, gAdd_int, gSub_int, gLt_int, gLe_int, gGt_int, gGe_int, gNeg_int, gEq_int, gNe_int, gMod_int, gDiv_int, gMul_r, ixL0, ixL1, ixL2, ixL3, ixL4, ixL5, ixL6, ixL7, ixL8, ixL9, ixL10, ixL11, ixL12, ixL13, ixT0, ixT1, ixT2, ixT3, ixT4, ixT5, ixT6, ixT7, ixT8, ixT9, ixT10, and_self, Int.cast_ofNat_Int, Int.reduceEq, decide_true, decide_false, Bool.not_true, Bool.not_false, nums_length, isi_ii, gAbs_int, Int.reduceAdd, Int.reduceSub, Int.reduceMul, Int.reduceNeg, Int.reduceLT, Int.reduceLE, r_ixO, r_trO, r_pop, r_rev, r_opN, r_ext, r_setIx, r_ch3, r_star, starOf, r_lc2, r_revT, r_notT, Option.map_some, List.isEmpty_cons, List.isEmpty_nil, hr1, ef]
        refine st (s' := [.d (.int p), .d (.tup (spsD (s :: r))), .d (.tup (spsD R)), .no, .no, .no, .no, .no, .no]) ?_ ?_
        · simp only [r_seq, r_ex, r_set, r_setN, r_drop, r_ret, r_if, r_frz, r_frzS, r_next, r_op, r_fun1, r_call, r_callN, r_cons, r_nil, r_var, r_c, r_bl, r_tr, r_not, r_andB, r_orB, r_andV, r_notV, r_ifE, r_chain, r_lst, r_tup, r_sz, r_own, r_def, r_seqOf, r_lc, r_app, r_fld, r_meth, r_peek, r_enum, szOk, blOf, truD, seqOf, wipeS, lfts, bndo, bnde, getz, getS, setz, setS, List.map_cons, List.map_nil, List.cons_append, List.nil_append, List.replicate, List.length_cons, List.length_nil, if_true, gInt, gTuple, gLen, Nat.reduceAdd, Nat.reduceLeDiff, giName, r_orV, r_slT, r_slL, r_part, r_noPart, gAdd_int, gSub_int, gLt_int, gLe_int, gGt_int, gGe_int, gNeg_int, gEq_int, gNe_int, gMod_int, gDiv_int, gMul_r, ixL0, ixL1, ixL2, ixL3, ixL4, ixL5, ixL6, ixL7, ixL8, ixL9, ixL10, ixL11, ixL12, ixL13, ixT0, ixT1, ixT2, ixT3, ixT4, ixT5, ixT6, ixT7, ixT8, ixT9, ixT10, and_self, Int.cast_ofNat_Int, Int.reduceEq, decide_true, decide_false, Bool.not_true, Bool.not_false, nums_length, isi_ii, gAbs_int, Int.reduceAdd, Int.reduceSub, Int.reduceMul, Int.reduceNeg, Int.reduceLT, Int.reduceLE, r_ixO, r_trO, r_pop, r_rev, r_opN, r_ext, r_setIx, r_ch3, r_star, starOf, r_lc2, r_revT, r_notT, Option.map_some, List.isEmpty_cons, List.isEmpty_nil, er]
        have hst : R.map (fun s => D.int s.1) = nums (R.map (·.1)) := by unfold nums; rw [List.map_map]; rfl
        have row1 : lcF (giTup [5, 6]) fYes (fVar 5) [.d (.int p), .d (.tup (spsD (s :: r))), .d (.tup (spsD R)), .no, .no, .no, .no, .no, .no] (spsD R) = some (nums (R.map (·.1))) := by
          have := lcF_all (gi := giTup [5, 6]) (fe := fVar 5) (sw := [.d (.int p), .d (.tup (spsD (s :: r))), .d (.tup (spsD R)), .no, .no, .no, .no, .no, .no]) spD (fun u => [.d (.int p), .d (.tup (spsD (s :: r))), .d (.tup (spsD R)), .no, .no, .d (.int u.1), .d (.int u.2), .no, .no]) (fun u => D.int u.1) R fun u hu => ⟨rfl, by simp only [r_seq, r_ex, r_set, r_setN, r_drop, r_ret, r_if, r_frz, r_frzS, r_next, r_op, r_fun1, r_call, r_callN, r_cons, r_nil, r_var, r_c, r_bl, r_tr, r_not, r_andB, r_orB, r_andV, r_notV, r_ifE, r_chain, r_lst, r_tup, r_sz, r_own, r_def, r_seqOf, r_lc, r_app, r_fld, r_meth, r_peek, r_enum, szOk, blOf, truD, seqOf, wipeS, lfts, bndo, bnde, getz, getS, setz, setS, List.map_cons, List.map_nil, List.cons_append, List.nil_append, List.replicate, List.length_cons, List.length_nil, if_true, gInt, gTuple, gLen, Nat.reduceAdd, Nat.reduceLeDiff, giName, r_orV, r_slT, r_slL, r_part, r_noPart, gAdd_int, gSub_int, gLt_int, gLe_int, gGt_int, gGe_int, gNeg_int, gEq_int, gNe_int, gMod_int, gDiv_int, gMul_r, ixL0, ixL1, ixL2, ixL3, ixL4, ixL5, ixL6, ixL7, ixL8, ixL9, ixL10, ixL11, ixL12, ixL13, ixT0, ixT1, ixT2, ixT3, ixT4, ixT5, ixT6, ixT7, ixT8, ixT9, ixT10, and_self, Int.cast_ofNat_Int, Int.reduceEq, decide_true, decide_false, Bool.not_true, Bool.not_false, nums_length, isi_ii, gAbs_int, Int.reduceAdd, Int.reduceSub, Int.reduceMul, Int.reduceNeg, Int.reduceLT, Int.reduceLE, r_ixO, r_trO, r_pop, r_rev, r_opN, r_ext, r_setIx, r_ch3, r_star, starOf, r_lc2, r_revT, r_notT, Option.map_some, List.isEmpty_cons, List.isEmpty_nil]⟩
          rw [hst] at this
          exact this
        have hRs := spsD_len R
        have hRl : R.length ≤ 100000 := by omega
        refine st (s' := [.d (.int p), .d (.tup (spsD (s :: r))), .d (.tup (spsD R)), .own (nums (R.map (·.1))), .no, .no, .no, .no, .no]) ?_ ?_
        · generalize spsD (s :: r) = L at *
          generalize spsD R = LR at *
          simp only [r_seq, r_ex, r_set, r_setN, r_drop, r_ret, r_if, r_frz, r_frzS, r_next, r_op, r_fun1, r_call, r_callN, r_cons, r_nil, r_var, r_c, r_bl, r_tr, r_not, r_andB, r_orB, r_andV, r_notV, r_ifE, r_chain, r_lst, r_tup, r_sz, r_own, r_def, r_seqOf, r_lc, r_app, r_fld, r_meth, r_peek, r_enum, szOk, blOf, truD, seqOf, wipeS, lfts, bndo, bnde, getz, getS, setz, setS, List.map_cons, List.map_nil, List.cons_append, List.nil_append, List.replicate, List.length_cons, List.length_nil, if_true, gInt, gTuple, gLen, Nat.reduceAdd, Nat.reduceLeDiff, giName, r_orV, r_slT, r_slL, r_part, r_noPart, gAdd_int, gSub_int, gLt_int, gLe_int, gGt_int, gGe_int, gNeg_int, gEq_int, gNe_int, gMod_int, gDiv_int, gMul_r, ixL0, ixL1, ixL2, ixL3, ixL4, ixL5, ixL6, ixL7, ixL8, ixL9, ixL10, ixL11, ixL12, ixL13, ixT0, ixT1, ixT2, ixT3, ixT4, ixT5, ixT6, ixT7, ixT8, ixT9, ixT10, and_self, Int.cast_ofNat_Int, Int.reduceEq, decide_true, decide_false, Bool.not_true, Bool.not_false, nums_length, isi_ii, gAbs_int, Int.reduceAdd, Int.reduceSub, Int.reduceMul, Int.reduceNeg, Int.reduceLT, Int.reduceLE, r_ixO, r_trO, r_pop, r_rev, r_opN, r_ext, r_setIx, r_ch3, r_star, starOf, r_lc2, r_revT, r_notT, Option.map_some, List.isEmpty_cons, List.isEmpty_nil, hRs, hRl, row1]
        have n0 := W.n0
        have i0 : gIx (.lst (nums (R.map (·.1)))) (.int 0) = some (.int s0) := by
          have := gIx_lints (l := R.map (·.1)) (i := 0) (Int.le_refl _) (by rw [List.length_map]; omega)
          rw [this]
          have e : (R.map (·.1)).getD (0 : Int).toNat 0 = s0 := by
            have h1 := starts_sq W (i := 0) (by omega)
            unfold startsS at h1
            rw [List.getElem?_append_left (by rw [List.length_map]; exact n0), sq_0 W] at h1
            show (R.map (·.1)).getD 0 0 = s0
            rw [List.getD_eq_getElem?_getD, h1]
            rfl
          rw [e]
        have hml : (R.map (·.1)).length < 100000 := by rw [List.length_map]; omega
        refine st (s' := [.d (.int p), .d (.tup (spsD (s :: r))), .d (.tup (spsD R)), .own (nums (startsS p s0 R)), .no, .no, .no, .no, .no]) ?_ ?_
        · have ea : nums (startsS p s0 R) = nums (R.map (·.1)) ++ [D.int (s0 + p)] := by unfold startsS nums; rw [List.map_append]; rfl
          rw [ea]
          generalize spsD (s :: r) = L at *
          generalize spsD R = LR at *
          generalize R.map (·.1) = RM at *
          simp only [r_seq, r_ex, r_set, r_setN, r_drop, r_ret, r_if, r_frz, r_frzS, r_next, r_op, r_fun1, r_call, r_callN, r_cons, r_nil, r_var, r_c, r_bl, r_tr, r_not, r_andB, r_orB, r_andV, r_notV, r_ifE, r_chain, r_lst, r_tup, r_sz, r_own, r_def, r_seqOf, r_lc, r_app, r_fld, r_meth, r_peek, r_enum, szOk, blOf, truD, seqOf, wipeS, lfts, bndo, bnde, getz, getS, setz, setS, List.map_cons, List.map_nil, List.cons_append, List.nil_append, List.replicate, List.length_cons, List.length_nil, if_true, gInt, gTuple, gLen, Nat.reduceAdd, Nat.reduceLeDiff, giName, r_orV, r_slT, r_slL, r_part, r_noPart, gAdd_int, gSub_int, gLt_int, gLe_int, gGt_int, gGe_int, gNeg_int, gEq_int, gNe_int, gMod_int, gDiv_int, gMul_r, ixL0, ixL1, ixL2, ixL3, ixL4, ixL5, ixL6, ixL7, ixL8, ixL9, ixL10, ixL11, ixL12, ixL13, ixT0, ixT1, ixT2, ixT3, ixT4, ixT5, ixT6, ixT7, ixT8, ixT9, ixT10, and_self, Int.cast_ofNat_Int, Int.reduceEq, decide_true, decide_false, Bool.not_true, Bool.not_false, nums_length, isi_ii, gAbs_int, Int.reduceAdd, Int.reduceSub, Int.reduceMul, Int.reduceNeg, Int.reduceLT, Int.reduceLE, r_ixO, r_trO, r_pop, r_rev, r_opN, r_ext, r_setIx, r_ch3, r_star, starOf, r_lc2, r_revT, r_notT, Option.map_some, List.isEmpty_cons, List.isEmpty_nil, i0, hml, scalD]
        have etl : FL.cutD (nums (startsS p s0 R)) (some 1) none = nums (startsS p s0 R).tail := by
          have hl := starts_len p s0 R
          cases e : startsS p s0 R with
          | nil => rw [e] at hl; simp only [List.length_nil] at hl; omega
          | cons x xs => exact cutD_tail _ _
        have hzip : gZipM [.tup (spsD R), .lst (nums (startsS p s0 R).tail)] = some ((R.zip (startsS p s0 R).tail).map fun x => .tup [spD x.1, .int x.2]) := congrArg some (zipD_zip _ _)
        have hzl : ((R.zip (startsS p s0 R).tail).map fun x : Seg × Int => D.tup [spD x.1, .int x.2]).length ≤ 100000 := by
          rw [List.length_map, List.length_zip]
          omega
        have row2 : lcF (giTup [7, 8]) fYes (fTup (fCons (fop gSub (fop gIx (fVar 7) (fC (.int 1))) (fop gIx (fVar 7) (fC (.int 0)))) (fCons (fop gSub (fVar 8) (fop gIx (fVar 7) (fC (.int 0)))) fNil))) [.d (.int p), .d (.tup (spsD (s :: r))), .d (.tup (spsD R)), .d (.lst (nums (startsS p s0 R))), .no, .no, .no, .no, .no] ((R.zip (startsS p s0 R).tail).map fun x => .tup [spD x.1, .int x.2]) = some (spsD (stepsS p s0 R)) := by
          have := lcF_all (gi := giTup [7, 8]) (fe := (fTup (fCons (fop gSub (fop gIx (fVar 7) (fC (.int 1))) (fop gIx (fVar 7) (fC (.int 0)))) (fCons (fop gSub (fVar 8) (fop gIx (fVar 7) (fC (.int 0)))) fNil)))) (sw := [.d (.int p), .d (.tup (spsD (s :: r))), .d (.tup (spsD R)), .d (.lst (nums (startsS p s0 R))), .no, .no, .no, .no, .no]) (fun x : Seg × Int => D.tup [spD x.1, .int x.2]) (fun x : Seg × Int => [.d (.int p), .d (.tup (spsD (s :: r))), .d (.tup (spsD R)), .d (.lst (nums (startsS p s0 R))), .no, .no, .no, .d (spD x.1), .d (.int x.2)]) (fun x : Seg × Int => spD (x.1.2 - x.1.1, x.2 - x.1.1)) (R.zip (startsS p s0 R).tail) fun x hx => ⟨rfl, by simp only [r_seq, r_ex, r_set, r_setN, r_drop, r_ret, r_if, r_frz, r_frzS, r_next, r_op, r_fun1, r_call, r_callN, r_cons, r_nil, r_var, r_c, r_bl, r_tr, r_not, r_andB, r_orB, r_andV, r_notV, r_ifE, r_chain, r_lst, r_tup, r_sz, r_own, r_def, r_seqOf, r_lc, r_app, r_fld, r_meth, r_peek, r_enum, szOk, blOf, truD, seqOf, wipeS, lfts, bndo, bnde, getz, getS, setz, setS, List.map_cons, List.map_nil, List.cons_append, List.nil_append, List.replicate, List.length_cons, List.length_nil, if_true, gInt, gTuple, gLen, Nat.reduceAdd, Nat.reduceLeDiff, giName, r_orV, r_slT, r_slL, r_part, r_noPart, gAdd_int, gSub_int, gLt_int, gLe_int, gGt_int, gGe_int, gNeg_int, gEq_int, gNe_int, gMod_int, gDiv_int, gMul_r, ixL0, ixL1, ixL2, ixL3, ixL4, ixL5, ixL6, ixL7, ixL8, ixL9, ixL10, ixL11, ixL12, ixL13, ixT0, ixT1, ixT2, ixT3, ixT4, ixT5, ixT6, ixT7, ixT8, ixT9, ixT10, and_self, Int.cast_ofNat_Int, Int.reduceEq, decide_true, decide_false, Bool.not_true, Bool.not_false, nums_length, isi_ii, gAbs_int, Int.reduceAdd, Int.reduceSub, Int.reduceMul, Int.reduceNeg, Int.reduceLT, Int.reduceLE, r_ixO, r_trO, r_pop, r_rev, r_opN, r_ext, r_setIx, r_ch3, r_star, starOf, r_lc2, r_revT, r_notT, Option.map_some, List.isEmpty_cons, List.isEmpty_nil, spD]⟩
          have e5 : (R.zip (startsS p s0 R).tail).map (fun x : Seg × Int => spD (x.1.2 - x.1.1, x.2 - x.1.1)) = spsD (stepsS p s0 R) := by unfold spsD stepsS; rw [List.map_map]; rfl
          rw [e5] at this
          exact this
        have hx0 : gIx (.lst (nums (startsS p s0 R))) (.int 0) = some (.int s0) := by
          have h1 := starts_sq W (i := 0) (by omega)
          rw [sq_0 W] at h1
          rw [gIx_lints (i := 0) (Int.le_refl _) (by rw [starts_len]; omega)]
          show some (D.int ((startsS p s0 R).getD 0 0)) = _
          rw [List.getD_eq_getElem?_getD, h1]
          rfl
        have hxT : gIx (.lst (nums (startsS p s0 R))) (.int ((turnOf R.length b : Nat) : Int)) = some (.int (sq p R (turnOf R.length b))) := by
          have h1 := starts_sq W T3
          rw [gIx_lints (by omega) (by rw [starts_len]; omega), Int.toNat_natCast, List.getD_eq_getElem?_getD, h1]
          rfl
        refine st (s' := [.d (.int p), .d (.tup (spsD (s :: r))), .d (.tup (spsD R)), .d (.lst (nums (startsS p s0 R))), .d (.lst (spsD (stepsS p s0 R))), .no, .no, .no, .no]) ?_ ?_
        · generalize spsD (s :: r) = L at *
          generalize spsD R = LR at *
          generalize spsD (stepsS p s0 R) = LS at *
          generalize nums (startsS p s0 R) = LN at *
          simp only [r_seq, r_ex, r_set, r_setN, r_drop, r_ret, r_if, r_frz, r_frzS, r_next, r_op, r_fun1, r_call, r_callN, r_cons, r_nil, r_var, r_c, r_bl, r_tr, r_not, r_andB, r_orB, r_andV, r_notV, r_ifE, r_chain, r_lst, r_tup, r_sz, r_own, r_def, r_seqOf, r_lc, r_app, r_fld, r_meth, r_peek, r_enum, szOk, blOf, truD, seqOf, wipeS, lfts, bndo, bnde, getz, getS, setz, setS, List.map_cons, List.map_nil, List.cons_append, List.nil_append, List.replicate, List.length_cons, List.length_nil, if_true, gInt, gTuple, gLen, Nat.reduceAdd, Nat.reduceLeDiff, giName, r_orV, r_slT, r_slL, r_part, r_noPart, gAdd_int, gSub_int, gLt_int, gLe_int, gGt_int, gGe_int, gNeg_int, gEq_int, gNe_int, gMod_int, gDiv_int, gMul_r, ixL0, ixL1, ixL2, ixL3, ixL4, ixL5, ixL6, ixL7, ixL8, ixL9, ixL10, ixL11, ixL12, ixL13, ixT0, ixT1, ixT2, ixT3, ixT4, ixT5, ixT6, ixT7, ixT8, ixT9, ixT10, and_self, Int.cast_ofNat_Int, Int.reduceEq, decide_true, decide_false, Bool.not_true, Bool.not_false, nums_length, isi_ii, gAbs_int, Int.reduceAdd, Int.reduceSub, Int.reduceMul, Int.reduceNeg, Int.reduceLT, Int.reduceLE, r_ixO, r_trO, r_pop, r_rev, r_opN, r_ext, r_setIx, r_ch3, r_star, starOf, r_lc2, r_revT, r_notT, Option.map_some, List.isEmpty_cons, List.isEmpty_nil, etl, hzip, hzl, row2]
        generalize spsD (s :: r) = L at *
        generalize spsD R = LR at *
        generalize spsD (stepsS p s0 R) = LS at *
        generalize nums (startsS p s0 R) = LN at *
        simp only [r_seq, r_ex, r_set, r_setN, r_drop, r_ret, r_if, r_frz, r_frzS, r_next, r_op, r_fun1, r_call, r_callN, r_cons, r_nil, r_var, r_c, r_bl, r_tr, r_not, r_andB, r_orB, r_andV, r_notV, r_ifE, r_chain, r_lst, r_tup, r_sz, r_own, r_def, r_seqOf, r_lc, r_app, r_fld, r_meth, r_peek, r_enum, szOk, blOf, truD, seqOf, wipeS, lfts, bndo, bnde, getz, getS, setz, setS, List.map_cons, List.map_nil, List.cons_append, List.nil_append, List.replicate, List.length_cons, List.length_nil, if_true, gInt, gTuple, gLen, Nat.reduceAdd, Nat.reduceLeDiff, giName, r_orV, r_slT, r_slL, r_part, r_noPart, gAdd_int, gSub_int, gLt_int, gLe_int, gGt_int, gGe_int, gNeg_int, gEq_int, gNe_int, gMod_int, gDiv_int, gMul_r, ixL0, ixL1, ixL2, ixL3, ixL4, ixL5, ixL6, ixL7, ixL8, ixL9, ixL10, ixL11, ixL12, ixL13, ixT0, ixT1, ixT2, ixT3, ixT4, ixT5, ixT6, ixT7, ixT8, ixT9, ixT10, and_self, Int.cast_ofNat_Int, Int.reduceEq, decide_true, decide_false, Bool.not_true, Bool.not_false, nums_length, isi_ii, gAbs_int, Int.reduceAdd, Int.reduceSub, Int.reduceMul, Int.reduceNeg, Int.reduceLT, Int.reduceLE, r_ixO, r_trO, r_pop, r_rev, r_opN, r_ext, r_setIx, r_ch3, r_star, starOf, r_lc2, r_revT, r_notT, Option.map_some, List.isEmpty_cons, List.isEmpty_nil, eT, hxT, hx0, scalD]
      · rw [hW, hW]
        exact q4 t

/-! ### the normal form -/
theorem isN_n : gIsN .non .non = some (.bl true) := (rfl)
theorem isN_i (x : Int) : gIsN (.int x) .non = some (.bl false) := (rfl)
theorem at_lastdiff0 (c : Cl) (X Y : D) (q : Int) (hq : 1 ≤ q) (h1 : gIx X (.int 1) = some (.int 0)) (h2 : gIx Y (.int 1) = some (.int q)) : G_last_difference c [X, Y, .int 0, .int 0] = some (.ok .non) := by
  refine def_rt ?_
  show F_last_difference c [.d X, .d Y, .d (.int 0), .d (.int 0), .no, .no, .no, .no] = _
  unfold F_last_difference fWhile
  have g : gMax [.int 0, .int (0 - q)] = some (.int 0) := by
    rw [gMax0, if_neg (by omega)]
  refine st (s' := [.d X, .d Y, .d (.int 0), .d (.int 0), .no, .no, .no, .no]) (by simp only [r_seq, r_ex, r_set, r_setN, r_drop, r_ret, r_if, r_frz, r_frzS, r_next, r_op, r_fun1, r_call, r_callN, r_cons, r_nil, r_var, r_c, r_bl, r_tr, r_not, r_andB, r_orB, r_andV, r_notV, r_ifE, r_chain, r_lst, r_tup, r_sz, r_own, r_def, r_seqOf, r_lc, r_app, r_fld, r_meth, r_peek, r_enum, szOk, blOf, truD, seqOf, wipeS, lfts, bndo, bnde, getz, getS, setz, setS, List.map_cons, List.map_nil, List.cons_append, List.nil_append, List.replicate, List.length_cons, List.length_nil, if_true, gInt, gTuple, gLen, Nat.reduceAdd, Nat.reduceLeDiff, giName, r_orV, r_slT, r_slL, r_part, r_noPart, gAdd_int, gSub_int, gLt_int, gLe_int, gGt_int, gGe_int, gNeg_int, gEq_int, gNe_int, gMod_int, gDiv_int, gMul_r, ixL0, ixL1, ixL2, ixL3, ixL4, ixL5, ixL6, ixL7, ixL8, ixL9, ixL10, ixL11, ixL12, ixL13, ixT0, ixT1, ixT2, ixT3, ixT4, ixT5, ixT6, ixT7, ixT8, ixT9, ixT10, and_self, Int.cast_ofNat_Int, Int.reduceEq, decide_true, decide_false, Bool.not_true, Bool.not_false, nums_length, isi_ii, gAbs_int, Int.reduceAdd, Int.reduceSub, Int.reduceMul, Int.reduceNeg, Int.reduceLT, Int.reduceLE, r_ixO, r_trO, r_pop, r_rev, r_opN, r_ext, r_setIx, r_ch3, r_star, starOf, r_lc2, r_revT, r_notT, Option.map_some, List.isEmpty_cons, List.isEmpty_nil, h1, h2, g]) ?_
  refine st (s' := [.d X, .d Y, .d (.int 0), .d (.int 0), .d (.int 1), .no, .no, .no]) (by simp only [r_seq, r_ex, r_set, r_setN, r_drop, r_ret, r_if, r_frz, r_frzS, r_next, r_op, r_fun1, r_call, r_callN, r_cons, r_nil, r_var, r_c, r_bl, r_tr, r_not, r_andB, r_orB, r_andV, r_notV, r_ifE, r_chain, r_lst, r_tup, r_sz, r_own, r_def, r_seqOf, r_lc, r_app, r_fld, r_meth, r_peek, r_enum, szOk, blOf, truD, seqOf, wipeS, lfts, bndo, bnde, getz, getS, setz, setS, List.map_cons, List.map_nil, List.cons_append, List.nil_append, List.replicate, List.length_cons, List.length_nil, if_true, gInt, gTuple, gLen, Nat.reduceAdd, Nat.reduceLeDiff, giName, r_orV, r_slT, r_slL, r_part, r_noPart, gAdd_int, gSub_int, gLt_int, gLe_int, gGt_int, gGe_int, gNeg_int, gEq_int, gNe_int, gMod_int, gDiv_int, gMul_r, ixL0, ixL1, ixL2, ixL3, ixL4, ixL5, ixL6, ixL7, ixL8, ixL9, ixL10, ixL11, ixL12, ixL13, ixT0, ixT1, ixT2, ixT3, ixT4, ixT5, ixT6, ixT7, ixT8, ixT9, ixT10, and_self, Int.cast_ofNat_Int, Int.reduceEq, decide_true, decide_false, Bool.not_true, Bool.not_false, nums_length, isi_ii, gAbs_int, Int.reduceAdd, Int.reduceSub, Int.reduceMul, Int.reduceNeg, Int.reduceLT, Int.reduceLE, r_ixO, r_trO, r_pop, r_rev, r_opN, r_ext, r_setIx, r_ch3, r_star, starOf, r_lc2, r_revT, r_notT, Option.map_some, List.isEmpty_cons, List.isEmpty_nil]) ?_
  refine st (s' := [.d X, .d Y, .d (.int 0), .d (.int 0), .d (.int 1), .no, .no, .no]) ?_ ?_
  · rw [while_one']
    simp only [r_seq, r_ex, r_set, r_setN, r_drop, r_ret, r_if, r_frz, r_frzS, r_next, r_op, r_fun1, r_call, r_callN, r_cons, r_nil, r_var, r_c, r_bl, r_tr, r_not, r_andB, r_orB, r_andV, r_notV, r_ifE, r_chain, r_lst, r_tup, r_sz, r_own, r_def, r_seqOf, r_lc, r_app, r_fld, r_meth, r_peek, r_enum, szOk, blOf, truD, seqOf, wipeS, lfts, bndo, bnde, getz, getS, setz, setS, List.map_cons, List.map_nil, List.cons_append, List.nil_append, List.replicate, List.length_cons, List.length_nil, if_true, gInt, gTuple, gLen, Nat.reduceAdd, Nat.reduceLeDiff, giName, r_orV, r_slT, r_slL, r_part, r_noPart, gAdd_int, gSub_int, gLt_int, gLe_int, gGt_int, gGe_int, gNeg_int, gEq_int, gNe_int, gMod_int, gDiv_int, gMul_r, ixL0, ixL1, ixL2, ixL3, ixL4, ixL5, ixL6, ixL7, ixL8, ixL9, ixL10, ixL11, ixL12, ixL13, ixT0, ixT1, ixT2, ixT3, ixT4, ixT5, ixT6, ixT7, ixT8, ixT9, ixT10, and_self, Int.cast_ofNat_Int, Int.reduceEq, decide_true, decide_false, Bool.not_true, Bool.not_false, nums_length, isi_ii, gAbs_int, Int.reduceAdd, Int.reduceSub, Int.reduceMul, Int.reduceNeg, Int.reduceLT, Int.reduceLE, r_ixO, r_trO, r_pop, r_rev, r_opN, r_ext, r_setIx, r_ch3, r_star, starOf, r_lc2, r_revT, r_notT, Option.map_some, List.isEmpty_cons, List.isEmpty_nil, Int.lt_irrefl]
  · simp only [r_seq, r_ex, r_set, r_setN, r_drop, r_ret, r_if, r_frz, r_frzS, r_next, r_op, r_fun1, r_call, r_callN, r_cons, r_nil, r_var, r_c, r_bl, r_tr, r_not, r_andB, r_orB, r_andV, r_notV, r_ifE, r_chain, r_lst, r_tup, r_sz, r_own, r_def, r_seqOf, r_lc, r_app, r_fld, r_meth, r_peek, r_enum, szOk, blOf, truD, seqOf, wipeS, lfts, bndo, bnde, getz, getS, setz, setS, List.map_cons, List.map_nil, List.cons_append, List.nil_append, List.replicate, List.length_cons, List.length_nil, if_true, gInt, gTuple, gLen, Nat.reduceAdd, Nat.reduceLeDiff, giName, r_orV, r_slT, r_slL, r_part, r_noPart, gAdd_int, gSub_int, gLt_int, gLe_int, gGt_int, gGe_int, gNeg_int, gEq_int, gNe_int, gMod_int, gDiv_int, gMul_r, ixL0, ixL1, ixL2, ixL3, ixL4, ixL5, ixL6, ixL7, ixL8, ixL9, ixL10, ixL11, ixL12, ixL13, ixT0, ixT1, ixT2, ixT3, ixT4, ixT5, ixT6, ixT7, ixT8, ixT9, ixT10, and_self, Int.cast_ofNat_Int, Int.reduceEq, decide_true, decide_false, Bool.not_true, Bool.not_false, nums_length, isi_ii, gAbs_int, Int.reduceAdd, Int.reduceSub, Int.reduceMul, Int.reduceNeg, Int.reduceLT, Int.reduceLE, r_ixO, r_trO, r_pop, r_rev, r_opN, r_ext, r_setIx, r_ch3, r_star, starOf, r_lc2, r_revT, r_notT, Option.map_some, List.isEmpty_cons, List.isEmpty_nil]
def mem4 (h : List Seg) (o p : Int) (l : List Seg) (t : Int) : Bool := if t < o then hitS h t else cyc o p l t
structure Four (h : List Seg) (o p : Int) (l : List Seg) : Prop where
  o0 : 0 ≤ o
  hd : TidyF 0 h
  he : ∀ s ∈ h, s.2 ≤ o
  wh : Wh p l
theorem Four.neg {h : List Seg} {o p : Int} {l : List Seg} (f : Four h o p l) {t : Int} (ht : t < 0) : mem4 h o p l t = false := by
  have := f.o0
  unfold mem4
  rw [if_pos (by omega)]
  cases q : hitS h t with
  | false => rfl
  | true => have := f.hd.low q; omega
structure Norm (h : List Seg) (o p : Int) (l : List Seg) (h' : List Seg) (o' q : Int) (l' : List Seg) : Prop where
  four : Four h' o' q l'
  le : o' ≤ o
  per : Per p l q
  least : Least p l q
  cy : ∀ t, cyc o' q l' t = cyc o p l t
  mem : ∀ t, mem4 h' o' q l' t = mem4 h o p l t
  edge : 0 < o' → hitS h' (o' - 1) ≠ cyc o' q l' (o' - 1)
  hlen : h'.length ≤ h.length
  llen : l'.length ≤ 90000
theorem dbl31 : dbl 31 = 2147483647 := by decide
theorem at_normal (c : Cl) (h : List Seg) (o p : Int) (l : List Seg) (f : Four h o p l) (ho : o < 1073741824) (hp2 : p < 1073741824) (n1 : h.length ≤ 29000) (n2 : l.length ≤ 29000) (hb : ∀ (q : Int) (n : Nat), Per p l q → (n : Int) * q ≤ o → (n + 2) * (cutG 0 q l).length ≤ 89000) :
    ∃ h' o' q l', G_normal c [.tup (spsD h), .int o, .int p, .tup (spsD l)] = some (.ok (.tup [.tup (spsD h'), .int o', .int q, .tup (spsD l')])) ∧ Norm h o p l h' o' q l' := by
  have o0 := f.o0
  obtain ⟨q, eq, P, LP⟩ := at_least c p l f.wh (by omega)
  have hq := P.q1
  have hqp := P.le
  obtain ⟨w2, m2⟩ := P.cut f.wh
  have ec := at_cutT c l 0 q ⟨0, f.wh.td⟩ (by omega)
  have l2 := cutG_len 0 q l
  have hb2 : ∀ n : Nat, (n : Int) * q ≤ o → (n + 2) * (cutG 0 q l).length ≤ 89000 := fun n hn => hb q n P hn
  -- what is found
  have key : ∃ (r : D) (o' : Int), G_last_difference c [.tup [.int 0, .int o, .tup (spsD h)], .tup [.int o, .int q, .tup (spsD (cutG 0 q l))], .int 0, .int o] = some (.ok r) ∧ ((r = .non ∧ o' = 0) ∨ r = .int (o' - 1)) ∧ 0 ≤ o' ∧ o' ≤ o ∧ (0 < o' → hitS h (o' - 1) ≠ cyc o p l (o' - 1)) ∧ ∀ t, o' ≤ t → t < o → hitS h t = cyc o p l t := by
    by_cases z : o = 0
    · subst z
      exact ⟨.non, 0, at_lastdiff0 c _ _ q hq rfl rfl, .inl ⟨rfl, rfl⟩, Int.le_refl _, Int.le_refl _, fun x => absurd x (by omega), fun t h1 h2 => absurd h2 (by omega)⟩
    · have wh : Wh o h := ⟨by omega, f.hd, f.he⟩
      have hh : ∀ t, 0 ≤ t → t < o → cyc 0 o h t = hitS h t := fun t h1 h2 => by
        unfold cyc
        rw [Int.sub_zero, Int.emod_eq_of_lt h1 h2]
      have ga : gMax [.int 0, .int (o - o - q)] = some (.int 0) := by rw [gMax0, if_neg (by omega)]
      rcases at_lastdiff c 0 o o q h (cutG 0 q l) wh w2 ho (by omega) 0 o 0 ga (fun n hn => by
        have : n ≤ 1 := by
          rcases Nat.lt_or_ge 1 n with g | g
          · have : (2 : Int) * o ≤ n * o := Int.mul_le_mul_of_nonneg_right (by omega) (by omega)
            omega
          · exact g
        have : (n + 2) * h.length ≤ 3 * h.length := Nat.mul_le_mul_right _ (by omega)
        omega) (fun n hn => hb2 n (by omega)) 31 (by rw [dbl31]; omega) (by omega) with ⟨e, g⟩ | ⟨d, e, d1, d2, d3, d4⟩
      · refine ⟨.non, 0, e, .inl ⟨rfl, rfl⟩, Int.le_refl _, o0, fun x => absurd x (by omega), fun t h1 h2 => ?_⟩
        have := g t h1 h2
        rw [hh t h1 h2, m2] at this
        exact this
      · refine ⟨.int d, d + 1, e, .inr (by rw [show d + 1 - 1 = d by omega]), by omega, by omega, fun _ => ?_, fun t h1 h2 => ?_⟩
        · rw [hh d d1 d2, m2] at d3
          rw [show d + 1 - 1 = d by omega]
          exact d3
        · have := d4 t (by omega) h2
          rw [hh t (by omega) h2, m2] at this
          exact this
  obtain ⟨r, o', er, hr, k1, k2, k3, k4⟩ := key
  obtain ⟨u1, u2, u3, u4⟩ := cutG_ok (a := 0) (b := o') f.hd
  have eh := at_cutT c h 0 o' ⟨0, f.hd⟩ (by omega)
  obtain ⟨l', el, w', m', n', _⟩ := at_cycle_from c o q o' (cutG 0 q l) w2 (by omega) (by omega)
  have mc : ∀ t, cyc o' q l' t = cyc o p l t := fun t => by rw [m', m2]
  refine ⟨cutG 0 o' h, o', q, l', def_rt ?_, ⟨k1, u2, fun s hs => (u3 s hs).2, w'⟩, k2, P, LP, mc, fun t => ?_, fun z => ?_, cutG_len _ _ _, n'⟩
  · show F_normal c [.d (.tup (spsD h)), .d (.int o), .d (.int p), .d (.tup (spsD l)), .no, .no, .no, .no] = _
    unfold F_normal
    rcases hr with ⟨rfl, rfl⟩ | rfl
    · simp only [r_seq, r_ex, r_set, r_setN, r_drop, r_ret, r_if, r_frz, r_frzS, r_next, r_op, r_fun1, r_call, r_callN, r_cons, r_nil, r_var, r_c, r_bl, r_tr, r_not, r_andB, r_orB, r_andV, r_notV, r_ifE, r_chain, r_lst, r_tup, r_sz, r_own, r_def, r_seqOf, r_lc, r_app, r_fld, r_meth, r_peek, r_enum, szOk, blOf, truD, seqOf, wipeS, lfts, bndo, bnde, getz, getS, setz, setS, List.map_cons, List.map_nil, List.cons_append, List.nil_append, List.replicate, List.length_cons, List.length_nil, if_true, gInt, gTuple, gLen, Nat.reduceAdd, Nat.reduceLeDiff, giName, r_orV, r_slT, r_slL, r_part, r_noPart, gAdd_int, gSub_int, gLt_int, gLe_int, gGt_int, gGe_int, gNeg_int, gEq_int, gNe_int, gMod_int, gDiv_int, gMul_r, ixL0, ixL1, ixL2, ixL3, ixL4, ixL5, ixL6, ixL7, ixL8, ixL9, ixL10, ixL11, ixL12, ixL13, ixT0, ixT1, ixT2, ixT3, ixT4, ixT5, ixT6, ixT7, ixT8, ixT9, ixT10, and_self, Int.cast_ofNat_Int, Int.reduceEq, decide_true, decide_false, Bool.not_true, Bool.not_false, nums_length, isi_ii, gAbs_int, Int.reduceAdd, Int.reduceSub, Int.reduceMul, Int.reduceNeg, Int.reduceLT, Int.reduceLE, r_ixO, r_trO, r_pop, r_rev, r_opN, r_ext, r_setIx, r_ch3, r_star, starOf, r_lc2, r_revT, r_notT, Option.map_some, List.isEmpty_cons, List.isEmpty_nil, eq, ec, er, isN_n, eh, el]
    · have e1 : o' - 1 + 1 = o' := by omega
      simp only [r_seq, r_ex, r_set, r_setN, r_drop, r_ret, r_if, r_frz, r_frzS, r_next, r_op, r_fun1, r_call, r_callN, r_cons, r_nil, r_var, r_c, r_bl, r_tr, r_not, r_andB, r_orB, r_andV, r_notV, r_ifE, r_chain, r_lst, r_tup, r_sz, r_own, r_def, r_seqOf, r_lc, r_app, r_fld, r_meth, r_peek, r_enum, szOk, blOf, truD, seqOf, wipeS, lfts, bndo, bnde, getz, getS, setz, setS, List.map_cons, List.map_nil, List.cons_append, List.nil_append, List.replicate, List.length_cons, List.length_nil, if_true, gInt, gTuple, gLen, Nat.reduceAdd, Nat.reduceLeDiff, giName, r_orV, r_slT, r_slL, r_part, r_noPart, gAdd_int, gSub_int, gLt_int, gLe_int, gGt_int, gGe_int, gNeg_int, gEq_int, gNe_int, gMod_int, gDiv_int, gMul_r, ixL0, ixL1, ixL2, ixL3, ixL4, ixL5, ixL6, ixL7, ixL8, ixL9, ixL10, ixL11, ixL12, ixL13, ixT0, ixT1, ixT2, ixT3, ixT4, ixT5, ixT6, ixT7, ixT8, ixT9, ixT10, and_self, Int.cast_ofNat_Int, Int.reduceEq, decide_true, decide_false, Bool.not_true, Bool.not_false, nums_length, isi_ii, gAbs_int, Int.reduceAdd, Int.reduceSub, Int.reduceMul, Int.reduceNeg, Int.reduceLT, Int.reduceLE, r_ixO, r_trO, r_pop, r_rev, r_opN, r_ext, r_setIx, r_ch3, r_star, starOf, r_lc2, r_revT, r_notT, Option.map_some, List.isEmpty_cons, List.isEmpty_nil, eq, ec, er, isN_i, e1, eh, el]
  · unfold mem4
    by_cases g : t < o'
    · rw [if_pos g, if_pos (by omega), u4]
      by_cases g0 : 0 ≤ t
      · rw [decide_eq_true g0, decide_eq_true g, Bool.true_and, Bool.true_and]
      · rw [decide_eq_false g0, Bool.false_and]
        cases q : hitS h t with
        | false => rfl
        | true => have := f.hd.low q; omega
    · rw [if_neg g, mc]
      by_cases g2 : t < o
      · rw [if_pos g2, k4 t (by omega) g2]
      · rw [if_neg g2]
  · rw [mc, u4, decide_eq_true (show 0 ≤ o' - 1 by omega), decide_eq_true (show o' - 1 < o' by omega), Bool.true_and, Bool.true_and]
    exact k3 z

/-! ### the law's descriptions; a span set as it is made -/
theorem at_rowL (c : Cl) (x bound : Int) : ∃ rows : List Seg, G__law_row c [.int x, .int bound] = some (.ok (spsD rows)) ∧ rows.length ≤ 4 ∧ ∀ s ∈ rows, 0 ≤ s.1 ∧ s.1 < s.2 ∧ s.2 ≤ bound := by
  obtain ⟨y, ds, er, ed, hl, hb⟩ := drawn c [5, 12, 7, 12, 7, 12, 7, 12, 7, 4] (by decide) (by decide) x
  have hl : ds.length = 10 := hl
  have h0 := hb 0 (by decide)
  have hb1 : ∀ j, 1 ≤ j → j < 9 → 0 ≤ ds.getD j 0 ∧ ds.getD j 0 < 100 := fun j h1 h2 => by
    have := hb j (show j < 10 by omega)
    refine ⟨this.1, Int.lt_of_lt_of_le this.2 ?_⟩
    have : j = 1 ∨ j = 2 ∨ j = 3 ∨ j = 4 ∨ j = 5 ∨ j = 6 ∨ j = 7 ∨ j = 8 := by omega
    rcases this with rfl | rfl | rfl | rfl | rfl | rfl | rfl | rfl <;> decide
  have h0 : 0 ≤ ds.getD 0 0 ∧ ds.getD 0 0 < 5 := h0
  have g0 := gIx_lints (l := ds) (i := 0) (by omega) (by rw [hl]; omega)
  have g9 := gIx_lints (l := ds) (i := 9) (by omega) (by rw [hl]; omega)
  change gIx (.lst (nums ds)) (.int 0) = some (.int (ds.getD 0 0)) at g0
  obtain ⟨n, hn⟩ : ∃ n : Nat, ds.getD 0 0 = n := ⟨(ds.getD 0 0).toNat, by omega⟩
  rw [hn] at g0 h0
  generalize ds.getD (9 : Int).toNat 0 = z at g9
  have er2 : gRng [.int (n : Int)] = some ((List.range n).map fun k => .int (k : Nat)) := gRng1 (by omega)
  obtain ⟨s', e1, rows, p, a, b, rfl, hr, hok⟩ := row_loop (.d (.int x)) (.d (.int bound)) ds hl hb1 n (by omega) (z % 3 - 1)
  refine ⟨rows.filter fun s => decide (s.2 ≤ bound), ?_, Nat.le_trans (List.length_filter_le _ _) (by omega), fun s hs => ?_⟩
  · show F__law_row c [.d (.int x), .d (.int bound), .no, .no, .no, .no, .no, .no] = _
    unfold F__law_row
    change G__law_digits c [.int y, .lst [.int 5, .int 12, .int 7, .int 12, .int 7, .int 12, .int 7, .int 12, .int 7, .int 4]] = _ at ed
    refine stL (s' := [.d (.int x), .d (.int bound), .d (.lst (nums ds)), .no, .no, .no, .no, .no]) (by simp (disch := omega) only [r_seq, r_ex, r_set, r_setN, r_drop, r_ret, r_if, r_frz, r_frzS, r_next, r_op, r_fun1, r_call, r_callN, r_cons, r_nil, r_var, r_c, r_bl, r_tr, r_not, r_andB, r_orB, r_andV, r_notV, r_ifE, r_chain, r_lst, r_tup, r_sz, r_own, r_def, r_seqOf, r_lc, r_app, r_fld, r_meth, r_peek, r_enum, szOk, blOf, truD, seqOf, wipeS, lfts, bndo, bnde, getz, getS, setz, setS, List.map_cons, List.map_nil, List.cons_append, List.nil_append, List.replicate, List.length_cons, List.length_nil, if_true, gInt, gTuple, gLen, Nat.reduceAdd, Nat.reduceLeDiff, giName, r_orV, r_slT, r_slL, r_part, r_noPart, gAdd_int, gSub_int, gLt_int, gLe_int, gGt_int, gGe_int, gNeg_int, gEq_int, gNe_int, gMod_int, gDiv_int, gMul_r, ixL0, ixL1, ixL2, ixL3, ixL4, ixL5, ixL6, ixL7, ixL8, ixL9, ixL10, ixL11, ixL12, ixL13, ixT0, ixT1, ixT2, ixT3, ixT4, ixT5, ixT6, ixT7, ixT8, ixT9, ixT10, and_self, Int.cast_ofNat_Int, Int.reduceEq, decide_true, decide_false, Bool.not_true, Bool.not_false, nums_length, isi_ii, gAbs_int, Int.reduceAdd, Int.reduceSub, Int.reduceMul, Int.reduceNeg, Int.reduceLT, Int.reduceLE, r_ixO, r_trO, r_pop, r_rev, r_opN, r_ext, r_setIx, r_ch3, r_star, starOf, r_lc2, r_revT, r_notT, Option.map_some, List.isEmpty_cons, List.isEmpty_nil, er, ed]) ?_
    refine stL (s' := [.d (.int x), .d (.int bound), .d (.lst (nums ds)), .own [], .no, .no, .no, .no]) (by simp only [r_seq, r_ex, r_set, r_setN, r_drop, r_ret, r_if, r_frz, r_frzS, r_next, r_op, r_fun1, r_call, r_callN, r_cons, r_nil, r_var, r_c, r_bl, r_tr, r_not, r_andB, r_orB, r_andV, r_notV, r_ifE, r_chain, r_lst, r_tup, r_sz, r_own, r_def, r_seqOf, r_lc, r_app, r_fld, r_meth, r_peek, r_enum, szOk, blOf, truD, seqOf, wipeS, lfts, bndo, bnde, getz, getS, setz, setS, List.map_cons, List.map_nil, List.cons_append, List.nil_append, List.replicate, List.length_cons, List.length_nil, if_true, gInt, gTuple, gLen, Nat.reduceAdd, Nat.reduceLeDiff, giName, r_orV, r_slT, r_slL, r_part, r_noPart, gAdd_int, gSub_int, gLt_int, gLe_int, gGt_int, gGe_int, gNeg_int, gEq_int, gNe_int, gMod_int, gDiv_int, gMul_r, ixL0, ixL1, ixL2, ixL3, ixL4, ixL5, ixL6, ixL7, ixL8, ixL9, ixL10, ixL11, ixL12, ixL13, ixT0, ixT1, ixT2, ixT3, ixT4, ixT5, ixT6, ixT7, ixT8, ixT9, ixT10, and_self, Int.cast_ofNat_Int, Int.reduceEq, decide_true, decide_false, Bool.not_true, Bool.not_false, nums_length, isi_ii, gAbs_int, Int.reduceAdd, Int.reduceSub, Int.reduceMul, Int.reduceNeg, Int.reduceLT, Int.reduceLE, r_ixO, r_trO, r_pop, r_rev, r_opN, r_ext, r_setIx, r_ch3, r_star, starOf, r_lc2, r_revT, r_notT, Option.map_some, List.isEmpty_cons, List.isEmpty_nil]) ?_
    refine stL (s' := [.d (.int x), .d (.int bound), .d (.lst (nums ds)), .own [], .d (.int (z % 3 - 1)), .no, .no, .no]) (by simp (disch := omega) only [r_seq, r_ex, r_set, r_setN, r_drop, r_ret, r_if, r_frz, r_frzS, r_next, r_op, r_fun1, r_call, r_callN, r_cons, r_nil, r_var, r_c, r_bl, r_tr, r_not, r_andB, r_orB, r_andV, r_notV, r_ifE, r_chain, r_lst, r_tup, r_sz, r_own, r_def, r_seqOf, r_lc, r_app, r_fld, r_meth, r_peek, r_enum, szOk, blOf, truD, seqOf, wipeS, lfts, bndo, bnde, getz, getS, setz, setS, List.map_cons, List.map_nil, List.cons_append, List.nil_append, List.replicate, List.length_cons, List.length_nil, if_true, gInt, gTuple, gLen, Nat.reduceAdd, Nat.reduceLeDiff, giName, r_orV, r_slT, r_slL, r_part, r_noPart, gAdd_int, gSub_int, gLt_int, gLe_int, gGt_int, gGe_int, gNeg_int, gEq_int, gNe_int, gMod_int, gDiv_int, gMul_r, ixL0, ixL1, ixL2, ixL3, ixL4, ixL5, ixL6, ixL7, ixL8, ixL9, ixL10, ixL11, ixL12, ixL13, ixT0, ixT1, ixT2, ixT3, ixT4, ixT5, ixT6, ixT7, ixT8, ixT9, ixT10, and_self, Int.cast_ofNat_Int, Int.reduceEq, decide_true, decide_false, Bool.not_true, Bool.not_false, nums_length, isi_ii, gAbs_int, Int.reduceAdd, Int.reduceSub, Int.reduceMul, Int.reduceNeg, Int.reduceLT, Int.reduceLE, r_ixO, r_trO, r_pop, r_rev, r_opN, r_ext, r_setIx, r_ch3, r_star, starOf, r_lc2, r_revT, r_notT, Option.map_some, List.isEmpty_cons, List.isEmpty_nil, g9] <;> rfl) ?_
    refine stL (by simp only [r_seq, r_ex, r_set, r_setN, r_drop, r_ret, r_if, r_frz, r_frzS, r_next, r_op, r_fun1, r_call, r_callN, r_cons, r_nil, r_var, r_c, r_bl, r_tr, r_not, r_andB, r_orB, r_andV, r_notV, r_ifE, r_chain, r_lst, r_tup, r_sz, r_own, r_def, r_seqOf, r_lc, r_app, r_fld, r_meth, r_peek, r_enum, szOk, blOf, truD, seqOf, wipeS, lfts, bndo, bnde, getz, getS, setz, setS, List.map_cons, List.map_nil, List.cons_append, List.nil_append, List.replicate, List.length_cons, List.length_nil, if_true, gInt, gTuple, gLen, Nat.reduceAdd, Nat.reduceLeDiff, giName, r_orV, r_slT, r_slL, r_part, r_noPart, gAdd_int, gSub_int, gLt_int, gLe_int, gGt_int, gGe_int, gNeg_int, gEq_int, gNe_int, gMod_int, gDiv_int, gMul_r, ixL0, ixL1, ixL2, ixL3, ixL4, ixL5, ixL6, ixL7, ixL8, ixL9, ixL10, ixL11, ixL12, ixL13, ixT0, ixT1, ixT2, ixT3, ixT4, ixT5, ixT6, ixT7, ixT8, ixT9, ixT10, and_self, Int.cast_ofNat_Int, Int.reduceEq, decide_true, decide_false, Bool.not_true, Bool.not_false, nums_length, isi_ii, gAbs_int, Int.reduceAdd, Int.reduceSub, Int.reduceMul, Int.reduceNeg, Int.reduceLT, Int.reduceLE, r_ixO, r_trO, r_pop, r_rev, r_opN, r_ext, r_setIx, r_ch3, r_star, starOf, r_lc2, r_revT, r_notT, Option.map_some, List.isEmpty_cons, List.isEmpty_nil, r_for, g0, er2]; exact e1) ?_
    have hlen : (spsD rows).length ≤ 100000 := by rw [spsD_len]; omega
    have := lcF_nm (i := 7) (ft := (fBl (fop gLe (fop gIx (fVar 7) (fC (.int 1))) (fVar 1)))) (fe := fVar 7) (sw := [.d (.int x), .d (.int bound), .d (.lst (nums ds)), .d (.lst (spsD rows)), .d (.int p), a, b, .no]) spD (fun s => decide (s.2 ≤ bound)) spD rows (fun s hs => ⟨by simp only [r_seq, r_ex, r_set, r_setN, r_drop, r_ret, r_if, r_frz, r_frzS, r_next, r_op, r_fun1, r_call, r_callN, r_cons, r_nil, r_var, r_c, r_bl, r_tr, r_not, r_andB, r_orB, r_andV, r_notV, r_ifE, r_chain, r_lst, r_tup, r_sz, r_own, r_def, r_seqOf, r_lc, r_app, r_fld, r_meth, r_peek, r_enum, szOk, blOf, truD, seqOf, wipeS, lfts, bndo, bnde, getz, getS, setz, setS, List.map_cons, List.map_nil, List.cons_append, List.nil_append, List.replicate, List.length_cons, List.length_nil, if_true, gInt, gTuple, gLen, Nat.reduceAdd, Nat.reduceLeDiff, giName, r_orV, r_slT, r_slL, r_part, r_noPart, gAdd_int, gSub_int, gLt_int, gLe_int, gGt_int, gGe_int, gNeg_int, gEq_int, gNe_int, gMod_int, gDiv_int, gMul_r, ixL0, ixL1, ixL2, ixL3, ixL4, ixL5, ixL6, ixL7, ixL8, ixL9, ixL10, ixL11, ixL12, ixL13, ixT0, ixT1, ixT2, ixT3, ixT4, ixT5, ixT6, ixT7, ixT8, ixT9, ixT10, and_self, Int.cast_ofNat_Int, Int.reduceEq, decide_true, decide_false, Bool.not_true, Bool.not_false, nums_length, isi_ii, gAbs_int, Int.reduceAdd, Int.reduceSub, Int.reduceMul, Int.reduceNeg, Int.reduceLT, Int.reduceLE, r_ixO, r_trO, r_pop, r_rev, r_opN, r_ext, r_setIx, r_ch3, r_star, starOf, r_lc2, r_revT, r_notT, Option.map_some, List.isEmpty_cons, List.isEmpty_nil, spD], fun _ => by simp only [r_seq, r_ex, r_set, r_setN, r_drop, r_ret, r_if, r_frz, r_frzS, r_next, r_op, r_fun1, r_call, r_callN, r_cons, r_nil, r_var, r_c, r_bl, r_tr, r_not, r_andB, r_orB, r_andV, r_notV, r_ifE, r_chain, r_lst, r_tup, r_sz, r_own, r_def, r_seqOf, r_lc, r_app, r_fld, r_meth, r_peek, r_enum, szOk, blOf, truD, seqOf, wipeS, lfts, bndo, bnde, getz, getS, setz, setS, List.map_cons, List.map_nil, List.cons_append, List.nil_append, List.replicate, List.length_cons, List.length_nil, if_true, gInt, gTuple, gLen, Nat.reduceAdd, Nat.reduceLeDiff, giName, r_orV, r_slT, r_slL, r_part, r_noPart, gAdd_int, gSub_int, gLt_int, gLe_int, gGt_int, gGe_int, gNeg_int, gEq_int, gNe_int, gMod_int, gDiv_int, gMul_r, ixL0, ixL1, ixL2, ixL3, ixL4, ixL5, ixL6, ixL7, ixL8, ixL9, ixL10, ixL11, ixL12, ixL13, ixT0, ixT1, ixT2, ixT3, ixT4, ixT5, ixT6, ixT7, ixT8, ixT9, ixT10, and_self, Int.cast_ofNat_Int, Int.reduceEq, decide_true, decide_false, Bool.not_true, Bool.not_false, nums_length, isi_ii, gAbs_int, Int.reduceAdd, Int.reduceSub, Int.reduceMul, Int.reduceNeg, Int.reduceLT, Int.reduceLE, r_ixO, r_trO, r_pop, r_rev, r_opN, r_ext, r_setIx, r_ch3, r_star, starOf, r_lc2, r_revT, r_notT, Option.map_some, List.isEmpty_cons, List.isEmpty_nil]⟩)
    change lcF _ _ _ _ (spsD rows) = _ at this
    unfold fFrzL
    simp only [r_seq, r_ex, r_set, r_setN, r_drop, r_ret, r_if, r_frz, r_frzS, r_next, r_op, r_fun1, r_call, r_callN, r_cons, r_nil, r_var, r_c, r_bl, r_tr, r_not, r_andB, r_orB, r_andV, r_notV, r_ifE, r_chain, r_lst, r_tup, r_sz, r_own, r_def, r_seqOf, r_lc, r_app, r_fld, r_meth, r_peek, r_enum, szOk, blOf, truD, seqOf, wipeS, lfts, bndo, bnde, getz, getS, setz, setS, List.map_cons, List.map_nil, List.cons_append, List.nil_append, List.replicate, List.length_cons, List.length_nil, if_true, gInt, gTuple, gLen, Nat.reduceAdd, Nat.reduceLeDiff, giName, r_orV, r_slT, r_slL, r_part, r_noPart, gAdd_int, gSub_int, gLt_int, gLe_int, gGt_int, gGe_int, gNeg_int, gEq_int, gNe_int, gMod_int, gDiv_int, gMul_r, ixL0, ixL1, ixL2, ixL3, ixL4, ixL5, ixL6, ixL7, ixL8, ixL9, ixL10, ixL11, ixL12, ixL13, ixT0, ixT1, ixT2, ixT3, ixT4, ixT5, ixT6, ixT7, ixT8, ixT9, ixT10, and_self, Int.cast_ofNat_Int, Int.reduceEq, decide_true, decide_false, Bool.not_true, Bool.not_false, nums_length, isi_ii, gAbs_int, Int.reduceAdd, Int.reduceSub, Int.reduceMul, Int.reduceNeg, Int.reduceLT, Int.reduceLE, r_ixO, r_trO, r_pop, r_rev, r_opN, r_ext, r_setIx, r_ch3, r_star, starOf, r_lc2, r_revT, r_notT, Option.map_some, List.isEmpty_cons, List.isEmpty_nil, hlen, this] <;> rfl
  · obtain ⟨h1, h2⟩ := List.mem_filter.mp hs
    have := hok s h1
    exact ⟨this.1, this.2, of_decide_eq_true h2⟩
structure Told (h : List Seg) (o p : Int) (l : List Seg) : Prop where
  o0 : 0 ≤ o
  o1 : o < 40
  p0 : 1 ≤ p
  p1 : p ≤ 72
  hh : ∀ s ∈ h, 0 ≤ s.1 ∧ s.1 < s.2 ∧ s.2 ≤ o
  hl : ∀ s ∈ l, 0 ≤ s.1 ∧ s.1 < s.2 ∧ s.2 ≤ p
  nh : h.length ≤ 80
  nl : l.length ≤ 80
theorem gTuple_L (l : List D) : gTuple [.lst l] = some (.tup l) := (rfl)
theorem spsD_revO (l : List Seg) : (spsD l).reverse = spsD l.reverse := by unfold spsD; rw [List.map_reverse]
theorem at_desc (c : Cl) (x : Int) : ∃ h o p l, G__law_description c [.int x] = some (.ok (.tup [.tup (spsD h), .int o, .int p, .tup (spsD l)])) ∧ Told h o p l := by
  obtain ⟨y, ds, er, ed, hl, hb⟩ := drawn c [40, 36, 4] (by decide) (by decide) (x / 3)
  have hl : ds.length = 3 := hl
  have b0 : 0 ≤ ds.getD 0 0 ∧ ds.getD 0 0 < 40 := hb 0 (by decide)
  have b1 : 0 ≤ ds.getD 1 0 ∧ ds.getD 1 0 < 36 := hb 1 (by decide)
  have g0 := gIx_lints (l := ds) (i := 0) (by omega) (by rw [hl]; omega)
  have g1 := gIx_lints (l := ds) (i := 1) (by omega) (by rw [hl]; omega)
  have g2 := gIx_lints (l := ds) (i := 2) (by omega) (by rw [hl]; omega)
  change gIx (.lst (nums ds)) (.int 0) = some (.int (ds.getD 0 0)) at g0
  change gIx (.lst (nums ds)) (.int 1) = some (.int (ds.getD 1 0)) at g1
  change gIx (.lst (nums ds)) (.int 2) = some (.int (ds.getD 2 0)) at g2
  change G__law_digits c [.int y, .lst [.int 40, .int 36, .int 4]] = _ at ed
  generalize ds.getD 0 0 = o at *
  generalize ds.getD 1 0 = q at *
  generalize ds.getD 2 0 = k at *
  obtain ⟨h, eh, nh, vh⟩ := at_rowL c (x + 5) o
  obtain ⟨l, el, nl, vl⟩ := at_rowL c (x / 2 + 9) (1 + q)
  have hlen : (spsD l).length ≤ 100000 := by rw [spsD_len]; omega
  -- the three forms
  have row : ∀ S4 : Sl, lcF (giTup [6, 7]) fYes (fTup (fCons (fop gAdd (fVar 6) (fVar 3)) (fCons (fop gAdd (fVar 7) (fVar 3)) fNil))) [.d (.int x), .d (.lst (nums ds)), .d (.int o), .d (.int (1 + q)), S4, .d (.lst (spsD l)), .no, .no] (spsD l) = some (spsD (shiftS (1 + q) l)) := fun S4 => by
    have := lcF_all (gi := giTup [6, 7]) (fe := (fTup (fCons (fop gAdd (fVar 6) (fVar 3)) (fCons (fop gAdd (fVar 7) (fVar 3)) fNil)))) (sw := [.d (.int x), .d (.lst (nums ds)), .d (.int o), .d (.int (1 + q)), S4, .d (.lst (spsD l)), .no, .no]) spD (fun s => [.d (.int x), .d (.lst (nums ds)), .d (.int o), .d (.int (1 + q)), S4, .d (.lst (spsD l)), .d (.int s.1), .d (.int s.2)]) (fun s => spD (s.1 + (1 + q), s.2 + (1 + q))) l fun s hs => ⟨rfl, by simp only [r_seq, r_ex, r_set, r_setN, r_drop, r_ret, r_if, r_frz, r_frzS, r_next, r_op, r_fun1, r_call, r_callN, r_cons, r_nil, r_var, r_c, r_bl, r_tr, r_not, r_andB, r_orB, r_andV, r_notV, r_ifE, r_chain, r_lst, r_tup, r_sz, r_own, r_def, r_seqOf, r_lc, r_app, r_fld, r_meth, r_peek, r_enum, szOk, blOf, truD, seqOf, wipeS, lfts, bndo, bnde, getz, getS, setz, setS, List.map_cons, List.map_nil, List.cons_append, List.nil_append, List.replicate, List.length_cons, List.length_nil, if_true, gInt, gTuple, gLen, Nat.reduceAdd, Nat.reduceLeDiff, giName, r_orV, r_slT, r_slL, r_part, r_noPart, gAdd_int, gSub_int, gLt_int, gLe_int, gGt_int, gGe_int, gNeg_int, gEq_int, gNe_int, gMod_int, gDiv_int, gMul_r, ixL0, ixL1, ixL2, ixL3, ixL4, ixL5, ixL6, ixL7, ixL8, ixL9, ixL10, ixL11, ixL12, ixL13, ixT0, ixT1, ixT2, ixT3, ixT4, ixT5, ixT6, ixT7, ixT8, ixT9, ixT10, and_self, Int.cast_ofNat_Int, Int.reduceEq, decide_true, decide_false, Bool.not_true, Bool.not_false, nums_length, isi_ii, gAbs_int, Int.reduceAdd, Int.reduceSub, Int.reduceMul, Int.reduceNeg, Int.reduceLT, Int.reduceLE, r_ixO, r_trO, r_pop, r_rev, r_opN, r_ext, r_setIx, r_ch3, r_star, starOf, r_lc2, r_revT, r_notT, Option.map_some, List.isEmpty_cons, List.isEmpty_nil, spD]⟩
    have e5 : l.map (fun s => spD (s.1 + (1 + q), s.2 + (1 + q))) = spsD (shiftS (1 + q) l) := by unfold spsD shiftS; rw [List.map_map]; rfl
    rw [e5] at this
    exact this
  have start : ∀ r, (fSeq (fIfS (fAndB (fBl (fop gEq (fop gIx (fVar 1) (fC (.int 2))) (fC (.int 1)))) (fBl (fop gLt (fVar 3) (fC (.int 19))))) (fSeq (fFrz 5 (fSetN 5 (fopN gCatL (fVar 5) (fLst (fLc (fSeqOf (fVar 5)) [6, 7] (giTup [6, 7]) fYes (fTup (fCons (fop gAdd (fVar 6) (fVar 3)) (fCons (fop gAdd (fVar 7) (fVar 3)) fNil)))))))) (fSet 3 (fop gMul (fC (.int 2)) (fVar 3)))) fNext) (fSeq (fIfS (fBl (fop gEq (fop gIx (fVar 1) (fC (.int 2))) (fC (.int 2)))) (fSeq (fRev 4) (fRev 5)) fNext) (fFrz 5 (fFrz 4 (fRet (fTup (fCons (fcall gTuple (fCons (fVar 4) fNil)) (fCons (fVar 2) (fCons (fVar 3) (fCons (fcall gTuple (fCons (fVar 5) fNil)) fNil)))))))))) [.d (.int x), .d (.lst (nums ds)), .d (.int o), .d (.int (1 + q)), .own (spsD h), .own (spsD l), .no, .no] = r → F__law_description c [.d (.int x), .no, .no, .no, .no, .no, .no, .no] = r := fun r hr => by
    unfold F__law_description
    refine st (s' := [.d (.int x), .d (.lst (nums ds)), .no, .no, .no, .no, .no, .no]) (by simp (disch := omega) only [r_seq, r_ex, r_set, r_setN, r_drop, r_ret, r_if, r_frz, r_frzS, r_next, r_op, r_fun1, r_call, r_callN, r_cons, r_nil, r_var, r_c, r_bl, r_tr, r_not, r_andB, r_orB, r_andV, r_notV, r_ifE, r_chain, r_lst, r_tup, r_sz, r_own, r_def, r_seqOf, r_lc, r_app, r_fld, r_meth, r_peek, r_enum, szOk, blOf, truD, seqOf, wipeS, lfts, bndo, bnde, getz, getS, setz, setS, List.map_cons, List.map_nil, List.cons_append, List.nil_append, List.replicate, List.length_cons, List.length_nil, if_true, gInt, gTuple, gLen, Nat.reduceAdd, Nat.reduceLeDiff, giName, r_orV, r_slT, r_slL, r_part, r_noPart, gAdd_int, gSub_int, gLt_int, gLe_int, gGt_int, gGe_int, gNeg_int, gEq_int, gNe_int, gMod_int, gDiv_int, gMul_r, ixL0, ixL1, ixL2, ixL3, ixL4, ixL5, ixL6, ixL7, ixL8, ixL9, ixL10, ixL11, ixL12, ixL13, ixT0, ixT1, ixT2, ixT3, ixT4, ixT5, ixT6, ixT7, ixT8, ixT9, ixT10, and_self, Int.cast_ofNat_Int, Int.reduceEq, decide_true, decide_false, Bool.not_true, Bool.not_false, nums_length, isi_ii, gAbs_int, Int.reduceAdd, Int.reduceSub, Int.reduceMul, Int.reduceNeg, Int.reduceLT, Int.reduceLE, r_ixO, r_trO, r_pop, r_rev, r_opN, r_ext, r_setIx, r_ch3, r_star, starOf, r_lc2, r_revT, r_notT, Option.map_some, List.isEmpty_cons, List.isEmpty_nil, er, ed]) ?_
    refine st (s' := [.d (.int x), .d (.lst (nums ds)), .d (.int o), .no, .no, .no, .no, .no]) (by simp only [r_seq, r_ex, r_set, r_setN, r_drop, r_ret, r_if, r_frz, r_frzS, r_next, r_op, r_fun1, r_call, r_callN, r_cons, r_nil, r_var, r_c, r_bl, r_tr, r_not, r_andB, r_orB, r_andV, r_notV, r_ifE, r_chain, r_lst, r_tup, r_sz, r_own, r_def, r_seqOf, r_lc, r_app, r_fld, r_meth, r_peek, r_enum, szOk, blOf, truD, seqOf, wipeS, lfts, bndo, bnde, getz, getS, setz, setS, List.map_cons, List.map_nil, List.cons_append, List.nil_append, List.replicate, List.length_cons, List.length_nil, if_true, gInt, gTuple, gLen, Nat.reduceAdd, Nat.reduceLeDiff, giName, r_orV, r_slT, r_slL, r_part, r_noPart, gAdd_int, gSub_int, gLt_int, gLe_int, gGt_int, gGe_int, gNeg_int, gEq_int, gNe_int, gMod_int, gDiv_int, gMul_r, ixL0, ixL1, ixL2, ixL3, ixL4, ixL5, ixL6, ixL7, ixL8, ixL9, ixL10, ixL11, ixL12, ixL13, ixT0, ixT1, ixT2, ixT3, ixT4, ixT5, ixT6, ixT7, ixT8, ixT9, ixT10, and_self, Int.cast_ofNat_Int, Int.reduceEq, decide_true, decide_false, Bool.not_true, Bool.not_false, nums_length, isi_ii, gAbs_int, Int.reduceAdd, Int.reduceSub, Int.reduceMul, Int.reduceNeg, Int.reduceLT, Int.reduceLE, r_ixO, r_trO, r_pop, r_rev, r_opN, r_ext, r_setIx, r_ch3, r_star, starOf, r_lc2, r_revT, r_notT, Option.map_some, List.isEmpty_cons, List.isEmpty_nil, g0]) ?_
    refine st (s' := [.d (.int x), .d (.lst (nums ds)), .d (.int o), .d (.int (1 + q)), .no, .no, .no, .no]) (by simp only [r_seq, r_ex, r_set, r_setN, r_drop, r_ret, r_if, r_frz, r_frzS, r_next, r_op, r_fun1, r_call, r_callN, r_cons, r_nil, r_var, r_c, r_bl, r_tr, r_not, r_andB, r_orB, r_andV, r_notV, r_ifE, r_chain, r_lst, r_tup, r_sz, r_own, r_def, r_seqOf, r_lc, r_app, r_fld, r_meth, r_peek, r_enum, szOk, blOf, truD, seqOf, wipeS, lfts, bndo, bnde, getz, getS, setz, setS, List.map_cons, List.map_nil, List.cons_append, List.nil_append, List.replicate, List.length_cons, List.length_nil, if_true, gInt, gTuple, gLen, Nat.reduceAdd, Nat.reduceLeDiff, giName, r_orV, r_slT, r_slL, r_part, r_noPart, gAdd_int, gSub_int, gLt_int, gLe_int, gGt_int, gGe_int, gNeg_int, gEq_int, gNe_int, gMod_int, gDiv_int, gMul_r, ixL0, ixL1, ixL2, ixL3, ixL4, ixL5, ixL6, ixL7, ixL8, ixL9, ixL10, ixL11, ixL12, ixL13, ixT0, ixT1, ixT2, ixT3, ixT4, ixT5, ixT6, ixT7, ixT8, ixT9, ixT10, and_self, Int.cast_ofNat_Int, Int.reduceEq, decide_true, decide_false, Bool.not_true, Bool.not_false, nums_length, isi_ii, gAbs_int, Int.reduceAdd, Int.reduceSub, Int.reduceMul, Int.reduceNeg, Int.reduceLT, Int.reduceLE, r_ixO, r_trO, r_pop, r_rev, r_opN, r_ext, r_setIx, r_ch3, r_star, starOf, r_lc2, r_revT, r_notT, Option.map_some, List.isEmpty_cons, List.isEmpty_nil, g1]) ?_
    refine st (s' := [.d (.int x), .d (.lst (nums ds)), .d (.int o), .d (.int (1 + q)), .own (spsD h), .no, .no, .no]) (by simp only [r_seq, r_ex, r_set, r_setN, r_drop, r_ret, r_if, r_frz, r_frzS, r_next, r_op, r_fun1, r_call, r_callN, r_cons, r_nil, r_var, r_c, r_bl, r_tr, r_not, r_andB, r_orB, r_andV, r_notV, r_ifE, r_chain, r_lst, r_tup, r_sz, r_own, r_def, r_seqOf, r_lc, r_app, r_fld, r_meth, r_peek, r_enum, szOk, blOf, truD, seqOf, wipeS, lfts, bndo, bnde, getz, getS, setz, setS, List.map_cons, List.map_nil, List.cons_append, List.nil_append, List.replicate, List.length_cons, List.length_nil, if_true, gInt, gTuple, gLen, Nat.reduceAdd, Nat.reduceLeDiff, giName, r_orV, r_slT, r_slL, r_part, r_noPart, gAdd_int, gSub_int, gLt_int, gLe_int, gGt_int, gGe_int, gNeg_int, gEq_int, gNe_int, gMod_int, gDiv_int, gMul_r, ixL0, ixL1, ixL2, ixL3, ixL4, ixL5, ixL6, ixL7, ixL8, ixL9, ixL10, ixL11, ixL12, ixL13, ixT0, ixT1, ixT2, ixT3, ixT4, ixT5, ixT6, ixT7, ixT8, ixT9, ixT10, and_self, Int.cast_ofNat_Int, Int.reduceEq, decide_true, decide_false, Bool.not_true, Bool.not_false, nums_length, isi_ii, gAbs_int, Int.reduceAdd, Int.reduceSub, Int.reduceMul, Int.reduceNeg, Int.reduceLT, Int.reduceLE, r_ixO, r_trO, r_pop, r_rev, r_opN, r_ext, r_setIx, r_ch3, r_star, starOf, r_lc2, r_revT, r_notT, Option.map_some, List.isEmpty_cons, List.isEmpty_nil, r_ownL, eh]) ?_
    refine st (s' := [.d (.int x), .d (.lst (nums ds)), .d (.int o), .d (.int (1 + q)), .own (spsD h), .own (spsD l), .no, .no]) (by simp (disch := omega) only [r_seq, r_ex, r_set, r_setN, r_drop, r_ret, r_if, r_frz, r_frzS, r_next, r_op, r_fun1, r_call, r_callN, r_cons, r_nil, r_var, r_c, r_bl, r_tr, r_not, r_andB, r_orB, r_andV, r_notV, r_ifE, r_chain, r_lst, r_tup, r_sz, r_own, r_def, r_seqOf, r_lc, r_app, r_fld, r_meth, r_peek, r_enum, szOk, blOf, truD, seqOf, wipeS, lfts, bndo, bnde, getz, getS, setz, setS, List.map_cons, List.map_nil, List.cons_append, List.nil_append, List.replicate, List.length_cons, List.length_nil, if_true, gInt, gTuple, gLen, Nat.reduceAdd, Nat.reduceLeDiff, giName, r_orV, r_slT, r_slL, r_part, r_noPart, gAdd_int, gSub_int, gLt_int, gLe_int, gGt_int, gGe_int, gNeg_int, gEq_int, gNe_int, gMod_int, gDiv_int, gMul_r, ixL0, ixL1, ixL2, ixL3, ixL4, ixL5, ixL6, ixL7, ixL8, ixL9, ixL10, ixL11, ixL12, ixL13, ixT0, ixT1, ixT2, ixT3, ixT4, ixT5, ixT6, ixT7, ixT8, ixT9, ixT10, and_self, Int.cast_ofNat_Int, Int.reduceEq, decide_true, decide_false, Bool.not_true, Bool.not_false, nums_length, isi_ii, gAbs_int, Int.reduceAdd, Int.reduceSub, Int.reduceMul, Int.reduceNeg, Int.reduceLT, Int.reduceLE, r_ixO, r_trO, r_pop, r_rev, r_opN, r_ext, r_setIx, r_ch3, r_star, starOf, r_lc2, r_revT, r_notT, Option.map_some, List.isEmpty_cons, List.isEmpty_nil, r_ownL, el]) ?_
    exact hr
  have el1 : (spsD l).length = l.length := spsD_len l
  by_cases k1 : k = 1 ∧ 1 + q < 19
  · obtain ⟨rfl, k2⟩ := k1
    have ls : (shiftS (1 + q) l).length = l.length := shift_len _ _
    have ecat := gCatL_sps l (shiftS (1 + q) l) (by omega)
    have em : gMul (.int 2) (.int (1 + q)) = some (.int (2 * (1 + q))) := gMul_l (by decide) (by decide)
    refine ⟨h, o, 2 * (1 + q), l ++ shiftS (1 + q) l, def_rt (start _ ?_), by omega, by omega, by omega, by omega, vh, fun s hs => ?_, by omega, by rw [List.length_append]; omega⟩
    · refine st (s' := [.d (.int x), .d (.lst (nums ds)), .d (.int o), .d (.int (2 * (1 + q))), .own (spsD h), .own (spsD (l ++ shiftS (1 + q) l)), .no, .no]) ?_ ?_
      · simp only [r_seq, r_ex, r_set, r_setN, r_drop, r_ret, r_if, r_frz, r_frzS, r_next, r_op, r_fun1, r_call, r_callN, r_cons, r_nil, r_var, r_c, r_bl, r_tr, r_not, r_andB, r_orB, r_andV, r_notV, r_ifE, r_chain, r_lst, r_tup, r_sz, r_own, r_def, r_seqOf, r_lc, r_app, r_fld, r_meth, r_peek, r_enum, szOk, blOf, truD, seqOf, wipeS, lfts, bndo, bnde, getz, getS, setz, setS, List.map_cons, List.map_nil, List.cons_append, List.nil_append, List.replicate, List.length_cons, List.length_nil, if_true, gInt, gTuple, gLen, Nat.reduceAdd, Nat.reduceLeDiff, giName, r_orV, r_slT, r_slL, r_part, r_noPart, gAdd_int, gSub_int, gLt_int, gLe_int, gGt_int, gGe_int, gNeg_int, gEq_int, gNe_int, gMod_int, gDiv_int, gMul_r, ixL0, ixL1, ixL2, ixL3, ixL4, ixL5, ixL6, ixL7, ixL8, ixL9, ixL10, ixL11, ixL12, ixL13, ixT0, ixT1, ixT2, ixT3, ixT4, ixT5, ixT6, ixT7, ixT8, ixT9, ixT10, and_self, Int.cast_ofNat_Int, Int.reduceEq, decide_true, decide_false, Bool.not_true, Bool.not_false, nums_length, isi_ii, gAbs_int, Int.reduceAdd, Int.reduceSub, Int.reduceMul, Int.reduceNeg, Int.reduceLT, Int.reduceLE, r_ixO, r_trO, r_pop, r_rev, r_opN, r_ext, r_setIx, r_ch3, r_star, starOf, r_lc2, r_revT, r_notT, Option.map_some, List.isEmpty_cons, List.isEmpty_nil, g2, k2, hlen, row, ecat, em]
      · generalize spsD (l ++ shiftS (1 + q) l) = LL at *
        generalize spsD h = LH at *
        simp only [r_seq, r_ex, r_set, r_setN, r_drop, r_ret, r_if, r_frz, r_frzS, r_next, r_op, r_fun1, r_call, r_callN, r_cons, r_nil, r_var, r_c, r_bl, r_tr, r_not, r_andB, r_orB, r_andV, r_notV, r_ifE, r_chain, r_lst, r_tup, r_sz, r_own, r_def, r_seqOf, r_lc, r_app, r_fld, r_meth, r_peek, r_enum, szOk, blOf, truD, seqOf, wipeS, lfts, bndo, bnde, getz, getS, setz, setS, List.map_cons, List.map_nil, List.cons_append, List.nil_append, List.replicate, List.length_cons, List.length_nil, if_true, gInt, gTuple, gLen, Nat.reduceAdd, Nat.reduceLeDiff, giName, r_orV, r_slT, r_slL, r_part, r_noPart, gAdd_int, gSub_int, gLt_int, gLe_int, gGt_int, gGe_int, gNeg_int, gEq_int, gNe_int, gMod_int, gDiv_int, gMul_r, ixL0, ixL1, ixL2, ixL3, ixL4, ixL5, ixL6, ixL7, ixL8, ixL9, ixL10, ixL11, ixL12, ixL13, ixT0, ixT1, ixT2, ixT3, ixT4, ixT5, ixT6, ixT7, ixT8, ixT9, ixT10, and_self, Int.cast_ofNat_Int, Int.reduceEq, decide_true, decide_false, Bool.not_true, Bool.not_false, nums_length, isi_ii, gAbs_int, Int.reduceAdd, Int.reduceSub, Int.reduceMul, Int.reduceNeg, Int.reduceLT, Int.reduceLE, r_ixO, r_trO, r_pop, r_rev, r_opN, r_ext, r_setIx, r_ch3, r_star, starOf, r_lc2, r_revT, r_notT, Option.map_some, List.isEmpty_cons, List.isEmpty_nil, g2, gTuple_L]
    · rcases List.mem_append.mp hs with g | g
      · have := vl s g
        omega
      · obtain ⟨u, hu, rfl⟩ := shift_mem g
        have := vl u hu
        dsimp only
        omega
  · have n1 : (fIfS (fAndB (fBl (fop gEq (fop gIx (fVar 1) (fC (.int 2))) (fC (.int 1)))) (fBl (fop gLt (fVar 3) (fC (.int 19))))) (fSeq (fFrz 5 (fSetN 5 (fopN gCatL (fVar 5) (fLst (fLc (fSeqOf (fVar 5)) [6, 7] (giTup [6, 7]) fYes (fTup (fCons (fop gAdd (fVar 6) (fVar 3)) (fCons (fop gAdd (fVar 7) (fVar 3)) fNil)))))))) (fSet 3 (fop gMul (fC (.int 2)) (fVar 3)))) fNext) [.d (.int x), .d (.lst (nums ds)), .d (.int o), .d (.int (1 + q)), .own (spsD h), .own (spsD l), .no, .no] = some (.nx [.d (.int x), .d (.lst (nums ds)), .d (.int o), .d (.int (1 + q)), .own (spsD h), .own (spsD l), .no, .no]) := by
      generalize spsD l = LL at *
      generalize spsD h = LH at *
      by_cases k2 : k = 1
      · have k3 : ¬ 1 + q < 19 := fun z => k1 ⟨k2, z⟩
        simp only [r_seq, r_ex, r_set, r_setN, r_drop, r_ret, r_if, r_frz, r_frzS, r_next, r_op, r_fun1, r_call, r_callN, r_cons, r_nil, r_var, r_c, r_bl, r_tr, r_not, r_andB, r_orB, r_andV, r_notV, r_ifE, r_chain, r_lst, r_tup, r_sz, r_own, r_def, r_seqOf, r_lc, r_app, r_fld, r_meth, r_peek, r_enum, szOk, blOf, truD, seqOf, wipeS, lfts, bndo, bnde, getz, getS, setz, setS, List.map_cons, List.map_nil, List.cons_append, List.nil_append, List.replicate, List.length_cons, List.length_nil, if_true, gInt, gTuple, gLen, Nat.reduceAdd, Nat.reduceLeDiff, giName, r_orV, r_slT, r_slL, r_part, r_noPart, gAdd_int, gSub_int, gLt_int, gLe_int, gGt_int, gGe_int, gNeg_int, gEq_int, gNe_int, gMod_int, gDiv_int, gMul_r, ixL0, ixL1, ixL2, ixL3, ixL4, ixL5, ixL6, ixL7, ixL8, ixL9, ixL10, ixL11, ixL12, ixL13, ixT0, ixT1, ixT2, ixT3, ixT4, ixT5, ixT6, ixT7, ixT8, ixT9, ixT10, and_self, Int.cast_ofNat_Int, Int.reduceEq, decide_true, decide_false, Bool.not_true, Bool.not_false, nums_length, isi_ii, gAbs_int, Int.reduceAdd, Int.reduceSub, Int.reduceMul, Int.reduceNeg, Int.reduceLT, Int.reduceLE, r_ixO, r_trO, r_pop, r_rev, r_opN, r_ext, r_setIx, r_ch3, r_star, starOf, r_lc2, r_revT, r_notT, Option.map_some, List.isEmpty_cons, List.isEmpty_nil, g2, k2, k3]
      · simp only [r_seq, r_ex, r_set, r_setN, r_drop, r_ret, r_if, r_frz, r_frzS, r_next, r_op, r_fun1, r_call, r_callN, r_cons, r_nil, r_var, r_c, r_bl, r_tr, r_not, r_andB, r_orB, r_andV, r_notV, r_ifE, r_chain, r_lst, r_tup, r_sz, r_own, r_def, r_seqOf, r_lc, r_app, r_fld, r_meth, r_peek, r_enum, szOk, blOf, truD, seqOf, wipeS, lfts, bndo, bnde, getz, getS, setz, setS, List.map_cons, List.map_nil, List.cons_append, List.nil_append, List.replicate, List.length_cons, List.length_nil, if_true, gInt, gTuple, gLen, Nat.reduceAdd, Nat.reduceLeDiff, giName, r_orV, r_slT, r_slL, r_part, r_noPart, gAdd_int, gSub_int, gLt_int, gLe_int, gGt_int, gGe_int, gNeg_int, gEq_int, gNe_int, gMod_int, gDiv_int, gMul_r, ixL0, ixL1, ixL2, ixL3, ixL4, ixL5, ixL6, ixL7, ixL8, ixL9, ixL10, ixL11, ixL12, ixL13, ixT0, ixT1, ixT2, ixT3, ixT4, ixT5, ixT6, ixT7, ixT8, ixT9, ixT10, and_self, Int.cast_ofNat_Int, Int.reduceEq, decide_true, decide_false, Bool.not_true, Bool.not_false, nums_length, isi_ii, gAbs_int, Int.reduceAdd, Int.reduceSub, Int.reduceMul, Int.reduceNeg, Int.reduceLT, Int.reduceLE, r_ixO, r_trO, r_pop, r_rev, r_opN, r_ext, r_setIx, r_ch3, r_star, starOf, r_lc2, r_revT, r_notT, Option.map_some, List.isEmpty_cons, List.isEmpty_nil, g2, k2]
    by_cases k3 : k = 2
    · refine ⟨h.reverse, o, 1 + q, l.reverse, def_rt (start _ (st n1 ?_)), b0.1, b0.2, by omega, by omega, fun s hs => vh s (List.mem_reverse.mp hs), fun s hs => vl s (List.mem_reverse.mp hs), by rw [List.length_reverse]; omega, by rw [List.length_reverse]; omega⟩
      rw [← spsD_revO, ← spsD_revO]
      generalize spsD l = LL at *
      generalize spsD h = LH at *
      subst k3
      simp only [r_seq, r_ex, r_set, r_setN, r_drop, r_ret, r_if, r_frz, r_frzS, r_next, r_op, r_fun1, r_call, r_callN, r_cons, r_nil, r_var, r_c, r_bl, r_tr, r_not, r_andB, r_orB, r_andV, r_notV, r_ifE, r_chain, r_lst, r_tup, r_sz, r_own, r_def, r_seqOf, r_lc, r_app, r_fld, r_meth, r_peek, r_enum, szOk, blOf, truD, seqOf, wipeS, lfts, bndo, bnde, getz, getS, setz, setS, List.map_cons, List.map_nil, List.cons_append, List.nil_append, List.replicate, List.length_cons, List.length_nil, if_true, gInt, gTuple, gLen, Nat.reduceAdd, Nat.reduceLeDiff, giName, r_orV, r_slT, r_slL, r_part, r_noPart, gAdd_int, gSub_int, gLt_int, gLe_int, gGt_int, gGe_int, gNeg_int, gEq_int, gNe_int, gMod_int, gDiv_int, gMul_r, ixL0, ixL1, ixL2, ixL3, ixL4, ixL5, ixL6, ixL7, ixL8, ixL9, ixL10, ixL11, ixL12, ixL13, ixT0, ixT1, ixT2, ixT3, ixT4, ixT5, ixT6, ixT7, ixT8, ixT9, ixT10, and_self, Int.cast_ofNat_Int, Int.reduceEq, decide_true, decide_false, Bool.not_true, Bool.not_false, nums_length, isi_ii, gAbs_int, Int.reduceAdd, Int.reduceSub, Int.reduceMul, Int.reduceNeg, Int.reduceLT, Int.reduceLE, r_ixO, r_trO, r_pop, r_rev, r_opN, r_ext, r_setIx, r_ch3, r_star, starOf, r_lc2, r_revT, r_notT, Option.map_some, List.isEmpty_cons, List.isEmpty_nil, g2, gTuple_L]
    · refine ⟨h, o, 1 + q, l, def_rt (start _ (st n1 ?_)), b0.1, b0.2, by omega, by omega, vh, vl, by omega, by omega⟩
      generalize spsD l = LL at *
      generalize spsD h = LH at *
      simp only [r_seq, r_ex, r_set, r_setN, r_drop, r_ret, r_if, r_frz, r_frzS, r_next, r_op, r_fun1, r_call, r_callN, r_cons, r_nil, r_var, r_c, r_bl, r_tr, r_not, r_andB, r_orB, r_andV, r_notV, r_ifE, r_chain, r_lst, r_tup, r_sz, r_own, r_def, r_seqOf, r_lc, r_app, r_fld, r_meth, r_peek, r_enum, szOk, blOf, truD, seqOf, wipeS, lfts, bndo, bnde, getz, getS, setz, setS, List.map_cons, List.map_nil, List.cons_append, List.nil_append, List.replicate, List.length_cons, List.length_nil, if_true, gInt, gTuple, gLen, Nat.reduceAdd, Nat.reduceLeDiff, giName, r_orV, r_slT, r_slL, r_part, r_noPart, gAdd_int, gSub_int, gLt_int, gLe_int, gGt_int, gGe_int, gNeg_int, gEq_int, gNe_int, gMod_int, gDiv_int, gMul_r, ixL0, ixL1, ixL2, ixL3, ixL4, ixL5, ixL6, ixL7, ixL8, ixL9, ixL10, ixL11, ixL12, ixL13, ixT0, ixT1, ixT2, ixT3, ixT4, ixT5, ixT6, ixT7, ixT8, ixT9, ixT10, and_self, Int.cast_ofNat_Int, Int.reduceEq, decide_true, decide_false, Bool.not_true, Bool.not_false, nums_length, isi_ii, gAbs_int, Int.reduceAdd, Int.reduceSub, Int.reduceMul, Int.reduceNeg, Int.reduceLT, Int.reduceLE, r_ixO, r_trO, r_pop, r_rev, r_opN, r_ext, r_setIx, r_ch3, r_star, starOf, r_lc2, r_revT, r_notT, Option.map_some, List.isEmpty_cons, List.isEmpty_nil, g2, k3, gTuple_L]

/-! ### a described set's instants, a span set as it is made, its methods -/
theorem at_in (c : Cl) (h : List Seg) (o p : Int) (l : List Seg) (T : Told h o p l) (t : Int) : G__law_in c [.tup [.tup (spsD h), .int o, .int p, .tup (spsD l)], .int t] = some (.ok (.bl (mem4 h o p l t))) := by
  have o0 := T.o0
  have p0 := T.p0
  obtain ⟨X, hX⟩ : ∃ X, X = D.tup [.tup (spsD h), .int o, .int p, .tup (spsD l)] := ⟨_, rfl⟩
  have i0 : gIx X (.int 0) = some (.tup (spsD h)) := by rw [hX]; rfl
  have i1 : gIx X (.int 1) = some (.int o) := by rw [hX]; rfl
  have i2 : gIx X (.int 2) = some (.int p) := by rw [hX]; rfl
  have i3 : gIx X (.int 3) = some (.tup (spsD l)) := by rw [hX]; rfl
  rw [← hX]
  refine def_rt ?_
  show F__law_in c [.d X, .d (.int t), .no, .no, .no] = _
  unfold F__law_in
  by_cases t0 : t < 0
  · have e : mem4 h o p l t = false := by
      unfold mem4
      rw [if_pos (by omega)]
      cases q : hitS h t with
      | false => rfl
      | true =>
        obtain ⟨s, hs, s1, s2⟩ := hit_iff.mp q
        have := (T.hh s hs).1
        omega
    rw [e]
    simp only [r_seq, r_ex, r_set, r_setN, r_drop, r_ret, r_if, r_frz, r_frzS, r_next, r_op, r_fun1, r_call, r_callN, r_cons, r_nil, r_var, r_c, r_bl, r_tr, r_not, r_andB, r_orB, r_andV, r_notV, r_ifE, r_chain, r_lst, r_tup, r_sz, r_own, r_def, r_seqOf, r_lc, r_app, r_fld, r_meth, r_peek, r_enum, szOk, blOf, truD, seqOf, wipeS, lfts, bndo, bnde, getz, getS, setz, setS, List.map_cons, List.map_nil, List.cons_append, List.nil_append, List.replicate, List.length_cons, List.length_nil, if_true, gInt, gTuple, gLen, Nat.reduceAdd, Nat.reduceLeDiff, giName, r_orV, r_slT, r_slL, r_part, r_noPart, gAdd_int, gSub_int, gLt_int, gLe_int, gGt_int, gGe_int, gNeg_int, gEq_int, gNe_int, gMod_int, gDiv_int, gMul_r, ixL0, ixL1, ixL2, ixL3, ixL4, ixL5, ixL6, ixL7, ixL8, ixL9, ixL10, ixL11, ixL12, ixL13, ixT0, ixT1, ixT2, ixT3, ixT4, ixT5, ixT6, ixT7, ixT8, ixT9, ixT10, and_self, Int.cast_ofNat_Int, Int.reduceEq, decide_true, decide_false, Bool.not_true, Bool.not_false, nums_length, isi_ii, gAbs_int, Int.reduceAdd, Int.reduceSub, Int.reduceMul, Int.reduceNeg, Int.reduceLT, Int.reduceLE, r_ixO, r_trO, r_pop, r_rev, r_opN, r_ext, r_setIx, r_ch3, r_star, starOf, r_lc2, r_revT, r_notT, Option.map_some, List.isEmpty_cons, List.isEmpty_nil, t0]
  refine st (s' := [.d X, .d (.int t), .no, .no, .no]) (by simp only [r_seq, r_ex, r_set, r_setN, r_drop, r_ret, r_if, r_frz, r_frzS, r_next, r_op, r_fun1, r_call, r_callN, r_cons, r_nil, r_var, r_c, r_bl, r_tr, r_not, r_andB, r_orB, r_andV, r_notV, r_ifE, r_chain, r_lst, r_tup, r_sz, r_own, r_def, r_seqOf, r_lc, r_app, r_fld, r_meth, r_peek, r_enum, szOk, blOf, truD, seqOf, wipeS, lfts, bndo, bnde, getz, getS, setz, setS, List.map_cons, List.map_nil, List.cons_append, List.nil_append, List.replicate, List.length_cons, List.length_nil, if_true, gInt, gTuple, gLen, Nat.reduceAdd, Nat.reduceLeDiff, giName, r_orV, r_slT, r_slL, r_part, r_noPart, gAdd_int, gSub_int, gLt_int, gLe_int, gGt_int, gGe_int, gNeg_int, gEq_int, gNe_int, gMod_int, gDiv_int, gMul_r, ixL0, ixL1, ixL2, ixL3, ixL4, ixL5, ixL6, ixL7, ixL8, ixL9, ixL10, ixL11, ixL12, ixL13, ixT0, ixT1, ixT2, ixT3, ixT4, ixT5, ixT6, ixT7, ixT8, ixT9, ixT10, and_self, Int.cast_ofNat_Int, Int.reduceEq, decide_true, decide_false, Bool.not_true, Bool.not_false, nums_length, isi_ii, gAbs_int, Int.reduceAdd, Int.reduceSub, Int.reduceMul, Int.reduceNeg, Int.reduceLT, Int.reduceLE, r_ixO, r_trO, r_pop, r_rev, r_opN, r_ext, r_setIx, r_ch3, r_star, starOf, r_lc2, r_revT, r_notT, Option.map_some, List.isEmpty_cons, List.isEmpty_nil, t0]) ?_
  have fin : ∀ (z : Int) (r : List Seg), mem4 h o p l t = hitS r z → (fSeq (fFor (fSeqOf (fVar 3)) (giName 4) (fIfS (fAndB (fBl (fop gLe (fop gIx (fVar 4) (fC (.int 0))) (fVar 2))) (fBl (fop gLt (fVar 2) (fop gIx (fVar 4) (fC (.int 1)))))) (fRet (fC (.bl true))) fNext)) (fRet (fC (.bl false)))) [.d X, .d (.int t), .d (.int z), .d (.tup (spsD r)), .no] = some (.rt (.bl (mem4 h o p l t))) := fun z r e => by
    rw [e]
    rcases loop_first (gi := giName 4) (b := (fIfS (fAndB (fBl (fop gLe (fop gIx (fVar 4) (fC (.int 0))) (fVar 2))) (fBl (fop gLt (fVar 2) (fop gIx (fVar 4) (fC (.int 1)))))) (fRet (fC (.bl true))) fNext)) (d := .bl true) spD (inS z) (fun s => ∃ y, s = [.d X, .d (.int t), .d (.int z), .d (.tup (spsD r)), y]) r [.d X, .d (.int t), .d (.int z), .d (.tup (spsD r)), .no] (fun a s ha ⟨y, hs⟩ => by
        subst hs
        refine ⟨_, rfl, ?_⟩
        by_cases h1 : a.1 ≤ z
        · by_cases h2 : z < a.2
          · exact .inl ⟨inS_iff.mpr ⟨h1, h2⟩, by simp only [r_seq, r_ex, r_set, r_setN, r_drop, r_ret, r_if, r_frz, r_frzS, r_next, r_op, r_fun1, r_call, r_callN, r_cons, r_nil, r_var, r_c, r_bl, r_tr, r_not, r_andB, r_orB, r_andV, r_notV, r_ifE, r_chain, r_lst, r_tup, r_sz, r_own, r_def, r_seqOf, r_lc, r_app, r_fld, r_meth, r_peek, r_enum, szOk, blOf, truD, seqOf, wipeS, lfts, bndo, bnde, getz, getS, setz, setS, List.map_cons, List.map_nil, List.cons_append, List.nil_append, List.replicate, List.length_cons, List.length_nil, if_true, gInt, gTuple, gLen, Nat.reduceAdd, Nat.reduceLeDiff, giName, r_orV, r_slT, r_slL, r_part, r_noPart, gAdd_int, gSub_int, gLt_int, gLe_int, gGt_int, gGe_int, gNeg_int, gEq_int, gNe_int, gMod_int, gDiv_int, gMul_r, ixL0, ixL1, ixL2, ixL3, ixL4, ixL5, ixL6, ixL7, ixL8, ixL9, ixL10, ixL11, ixL12, ixL13, ixT0, ixT1, ixT2, ixT3, ixT4, ixT5, ixT6, ixT7, ixT8, ixT9, ixT10, and_self, Int.cast_ofNat_Int, Int.reduceEq, decide_true, decide_false, Bool.not_true, Bool.not_false, nums_length, isi_ii, gAbs_int, Int.reduceAdd, Int.reduceSub, Int.reduceMul, Int.reduceNeg, Int.reduceLT, Int.reduceLE, r_ixO, r_trO, r_pop, r_rev, r_opN, r_ext, r_setIx, r_ch3, r_star, starOf, r_lc2, r_revT, r_notT, Option.map_some, List.isEmpty_cons, List.isEmpty_nil, spD, h1, h2]⟩
          · refine .inr ⟨?_, _, by simp only [r_seq, r_ex, r_set, r_setN, r_drop, r_ret, r_if, r_frz, r_frzS, r_next, r_op, r_fun1, r_call, r_callN, r_cons, r_nil, r_var, r_c, r_bl, r_tr, r_not, r_andB, r_orB, r_andV, r_notV, r_ifE, r_chain, r_lst, r_tup, r_sz, r_own, r_def, r_seqOf, r_lc, r_app, r_fld, r_meth, r_peek, r_enum, szOk, blOf, truD, seqOf, wipeS, lfts, bndo, bnde, getz, getS, setz, setS, List.map_cons, List.map_nil, List.cons_append, List.nil_append, List.replicate, List.length_cons, List.length_nil, if_true, gInt, gTuple, gLen, Nat.reduceAdd, Nat.reduceLeDiff, giName, r_orV, r_slT, r_slL, r_part, r_noPart, gAdd_int, gSub_int, gLt_int, gLe_int, gGt_int, gGe_int, gNeg_int, gEq_int, gNe_int, gMod_int, gDiv_int, gMul_r, ixL0, ixL1, ixL2, ixL3, ixL4, ixL5, ixL6, ixL7, ixL8, ixL9, ixL10, ixL11, ixL12, ixL13, ixT0, ixT1, ixT2, ixT3, ixT4, ixT5, ixT6, ixT7, ixT8, ixT9, ixT10, and_self, Int.cast_ofNat_Int, Int.reduceEq, decide_true, decide_false, Bool.not_true, Bool.not_false, nums_length, isi_ii, gAbs_int, Int.reduceAdd, Int.reduceSub, Int.reduceMul, Int.reduceNeg, Int.reduceLT, Int.reduceLE, r_ixO, r_trO, r_pop, r_rev, r_opN, r_ext, r_setIx, r_ch3, r_star, starOf, r_lc2, r_revT, r_notT, Option.map_some, List.isEmpty_cons, List.isEmpty_nil, spD, h1, h2] <;> rfl, _, rfl⟩
            cases q : inS z a with
            | false => rfl
            | true => exact absurd (inS_iff.mp q).2 h2
        · refine .inr ⟨?_, _, by simp only [r_seq, r_ex, r_set, r_setN, r_drop, r_ret, r_if, r_frz, r_frzS, r_next, r_op, r_fun1, r_call, r_callN, r_cons, r_nil, r_var, r_c, r_bl, r_tr, r_not, r_andB, r_orB, r_andV, r_notV, r_ifE, r_chain, r_lst, r_tup, r_sz, r_own, r_def, r_seqOf, r_lc, r_app, r_fld, r_meth, r_peek, r_enum, szOk, blOf, truD, seqOf, wipeS, lfts, bndo, bnde, getz, getS, setz, setS, List.map_cons, List.map_nil, List.cons_append, List.nil_append, List.replicate, List.length_cons, List.length_nil, if_true, gInt, gTuple, gLen, Nat.reduceAdd, Nat.reduceLeDiff, giName, r_orV, r_slT, r_slL, r_part, r_noPart, gAdd_int, gSub_int, gLt_int, gLe_int, gGt_int, gGe_int, gNeg_int, gEq_int, gNe_int, gMod_int, gDiv_int, gMul_r, ixL0, ixL1, ixL2, ixL3, ixL4, ixL5, ixL6, ixL7, ixL8, ixL9, ixL10, ixL11, ixL12, ixL13, ixT0, ixT1, ixT2, ixT3, ixT4, ixT5, ixT6, ixT7, ixT8, ixT9, ixT10, and_self, Int.cast_ofNat_Int, Int.reduceEq, decide_true, decide_false, Bool.not_true, Bool.not_false, nums_length, isi_ii, gAbs_int, Int.reduceAdd, Int.reduceSub, Int.reduceMul, Int.reduceNeg, Int.reduceLT, Int.reduceLE, r_ixO, r_trO, r_pop, r_rev, r_opN, r_ext, r_setIx, r_ch3, r_star, starOf, r_lc2, r_revT, r_notT, Option.map_some, List.isEmpty_cons, List.isEmpty_nil, spD, h1] <;> rfl, _, rfl⟩
          cases q : inS z a with
          | false => rfl
          | true => exact absurd (inS_iff.mp q).1 h1) ⟨_, rfl⟩ with ⟨g1, g2⟩ | ⟨g1, s', g2, y, rfl⟩
    · change hitS r z = true at g1
      rw [g1]
      change loopF _ _ (spsD r) _ = _ at g2
      simp only [r_seq, r_ex, r_set, r_setN, r_drop, r_ret, r_if, r_frz, r_frzS, r_next, r_op, r_fun1, r_call, r_callN, r_cons, r_nil, r_var, r_c, r_bl, r_tr, r_not, r_andB, r_orB, r_andV, r_notV, r_ifE, r_chain, r_lst, r_tup, r_sz, r_own, r_def, r_seqOf, r_lc, r_app, r_fld, r_meth, r_peek, r_enum, szOk, blOf, truD, seqOf, wipeS, lfts, bndo, bnde, getz, getS, setz, setS, List.map_cons, List.map_nil, List.cons_append, List.nil_append, List.replicate, List.length_cons, List.length_nil, if_true, gInt, gTuple, gLen, Nat.reduceAdd, Nat.reduceLeDiff, giName, r_orV, r_slT, r_slL, r_part, r_noPart, gAdd_int, gSub_int, gLt_int, gLe_int, gGt_int, gGe_int, gNeg_int, gEq_int, gNe_int, gMod_int, gDiv_int, gMul_r, ixL0, ixL1, ixL2, ixL3, ixL4, ixL5, ixL6, ixL7, ixL8, ixL9, ixL10, ixL11, ixL12, ixL13, ixT0, ixT1, ixT2, ixT3, ixT4, ixT5, ixT6, ixT7, ixT8, ixT9, ixT10, and_self, Int.cast_ofNat_Int, Int.reduceEq, decide_true, decide_false, Bool.not_true, Bool.not_false, nums_length, isi_ii, gAbs_int, Int.reduceAdd, Int.reduceSub, Int.reduceMul, Int.reduceNeg, Int.reduceLT, Int.reduceLE, r_ixO, r_trO, r_pop, r_rev, r_opN, r_ext, r_setIx, r_ch3, r_star, starOf, r_lc2, r_revT, r_notT, Option.map_some, List.isEmpty_cons, List.isEmpty_nil, r_for, g2]
    · change hitS r z = false at g1
      rw [g1]
      change loopF _ _ (spsD r) _ = _ at g2
      simp only [r_seq, r_ex, r_set, r_setN, r_drop, r_ret, r_if, r_frz, r_frzS, r_next, r_op, r_fun1, r_call, r_callN, r_cons, r_nil, r_var, r_c, r_bl, r_tr, r_not, r_andB, r_orB, r_andV, r_notV, r_ifE, r_chain, r_lst, r_tup, r_sz, r_own, r_def, r_seqOf, r_lc, r_app, r_fld, r_meth, r_peek, r_enum, szOk, blOf, truD, seqOf, wipeS, lfts, bndo, bnde, getz, getS, setz, setS, List.map_cons, List.map_nil, List.cons_append, List.nil_append, List.replicate, List.length_cons, List.length_nil, if_true, gInt, gTuple, gLen, Nat.reduceAdd, Nat.reduceLeDiff, giName, r_orV, r_slT, r_slL, r_part, r_noPart, gAdd_int, gSub_int, gLt_int, gLe_int, gGt_int, gGe_int, gNeg_int, gEq_int, gNe_int, gMod_int, gDiv_int, gMul_r, ixL0, ixL1, ixL2, ixL3, ixL4, ixL5, ixL6, ixL7, ixL8, ixL9, ixL10, ixL11, ixL12, ixL13, ixT0, ixT1, ixT2, ixT3, ixT4, ixT5, ixT6, ixT7, ixT8, ixT9, ixT10, and_self, Int.cast_ofNat_Int, Int.reduceEq, decide_true, decide_false, Bool.not_true, Bool.not_false, nums_length, isi_ii, gAbs_int, Int.reduceAdd, Int.reduceSub, Int.reduceMul, Int.reduceNeg, Int.reduceLT, Int.reduceLE, r_ixO, r_trO, r_pop, r_rev, r_opN, r_ext, r_setIx, r_ch3, r_star, starOf, r_lc2, r_revT, r_notT, Option.map_some, List.isEmpty_cons, List.isEmpty_nil, r_for, g2]
  by_cases to : o ≤ t
  · refine st (s' := [.d X, .d (.int t), .d (.int t), .no, .no]) (by simp only [r_seq, r_ex, r_set, r_setN, r_drop, r_ret, r_if, r_frz, r_frzS, r_next, r_op, r_fun1, r_call, r_callN, r_cons, r_nil, r_var, r_c, r_bl, r_tr, r_not, r_andB, r_orB, r_andV, r_notV, r_ifE, r_chain, r_lst, r_tup, r_sz, r_own, r_def, r_seqOf, r_lc, r_app, r_fld, r_meth, r_peek, r_enum, szOk, blOf, truD, seqOf, wipeS, lfts, bndo, bnde, getz, getS, setz, setS, List.map_cons, List.map_nil, List.cons_append, List.nil_append, List.replicate, List.length_cons, List.length_nil, if_true, gInt, gTuple, gLen, Nat.reduceAdd, Nat.reduceLeDiff, giName, r_orV, r_slT, r_slL, r_part, r_noPart, gAdd_int, gSub_int, gLt_int, gLe_int, gGt_int, gGe_int, gNeg_int, gEq_int, gNe_int, gMod_int, gDiv_int, gMul_r, ixL0, ixL1, ixL2, ixL3, ixL4, ixL5, ixL6, ixL7, ixL8, ixL9, ixL10, ixL11, ixL12, ixL13, ixT0, ixT1, ixT2, ixT3, ixT4, ixT5, ixT6, ixT7, ixT8, ixT9, ixT10, and_self, Int.cast_ofNat_Int, Int.reduceEq, decide_true, decide_false, Bool.not_true, Bool.not_false, nums_length, isi_ii, gAbs_int, Int.reduceAdd, Int.reduceSub, Int.reduceMul, Int.reduceNeg, Int.reduceLT, Int.reduceLE, r_ixO, r_trO, r_pop, r_rev, r_opN, r_ext, r_setIx, r_ch3, r_star, starOf, r_lc2, r_revT, r_notT, Option.map_some, List.isEmpty_cons, List.isEmpty_nil]) ?_
    refine st (s' := [.d X, .d (.int t), .d (.int t), .d (.tup (spsD h)), .no]) (by simp only [r_seq, r_ex, r_set, r_setN, r_drop, r_ret, r_if, r_frz, r_frzS, r_next, r_op, r_fun1, r_call, r_callN, r_cons, r_nil, r_var, r_c, r_bl, r_tr, r_not, r_andB, r_orB, r_andV, r_notV, r_ifE, r_chain, r_lst, r_tup, r_sz, r_own, r_def, r_seqOf, r_lc, r_app, r_fld, r_meth, r_peek, r_enum, szOk, blOf, truD, seqOf, wipeS, lfts, bndo, bnde, getz, getS, setz, setS, List.map_cons, List.map_nil, List.cons_append, List.nil_append, List.replicate, List.length_cons, List.length_nil, if_true, gInt, gTuple, gLen, Nat.reduceAdd, Nat.reduceLeDiff, giName, r_orV, r_slT, r_slL, r_part, r_noPart, gAdd_int, gSub_int, gLt_int, gLe_int, gGt_int, gGe_int, gNeg_int, gEq_int, gNe_int, gMod_int, gDiv_int, gMul_r, ixL0, ixL1, ixL2, ixL3, ixL4, ixL5, ixL6, ixL7, ixL8, ixL9, ixL10, ixL11, ixL12, ixL13, ixT0, ixT1, ixT2, ixT3, ixT4, ixT5, ixT6, ixT7, ixT8, ixT9, ixT10, and_self, Int.cast_ofNat_Int, Int.reduceEq, decide_true, decide_false, Bool.not_true, Bool.not_false, nums_length, isi_ii, gAbs_int, Int.reduceAdd, Int.reduceSub, Int.reduceMul, Int.reduceNeg, Int.reduceLT, Int.reduceLE, r_ixO, r_trO, r_pop, r_rev, r_opN, r_ext, r_setIx, r_ch3, r_star, starOf, r_lc2, r_revT, r_notT, Option.map_some, List.isEmpty_cons, List.isEmpty_nil, i0]) ?_
    have em : gMod (.int (t - o)) (.int p) = some (.int ((t - o) % p)) := by rw [gMod_int (by omega)]
    refine st (s' := [.d X, .d (.int t), .d (.int ((t - o) % p)), .d (.tup (spsD l)), .no]) (by simp only [r_seq, r_ex, r_set, r_setN, r_drop, r_ret, r_if, r_frz, r_frzS, r_next, r_op, r_fun1, r_call, r_callN, r_cons, r_nil, r_var, r_c, r_bl, r_tr, r_not, r_andB, r_orB, r_andV, r_notV, r_ifE, r_chain, r_lst, r_tup, r_sz, r_own, r_def, r_seqOf, r_lc, r_app, r_fld, r_meth, r_peek, r_enum, szOk, blOf, truD, seqOf, wipeS, lfts, bndo, bnde, getz, getS, setz, setS, List.map_cons, List.map_nil, List.cons_append, List.nil_append, List.replicate, List.length_cons, List.length_nil, if_true, gInt, gTuple, gLen, Nat.reduceAdd, Nat.reduceLeDiff, giName, r_orV, r_slT, r_slL, r_part, r_noPart, gAdd_int, gSub_int, gLt_int, gLe_int, gGt_int, gGe_int, gNeg_int, gEq_int, gNe_int, gMod_int, gDiv_int, gMul_r, ixL0, ixL1, ixL2, ixL3, ixL4, ixL5, ixL6, ixL7, ixL8, ixL9, ixL10, ixL11, ixL12, ixL13, ixT0, ixT1, ixT2, ixT3, ixT4, ixT5, ixT6, ixT7, ixT8, ixT9, ixT10, and_self, Int.cast_ofNat_Int, Int.reduceEq, decide_true, decide_false, Bool.not_true, Bool.not_false, nums_length, isi_ii, gAbs_int, Int.reduceAdd, Int.reduceSub, Int.reduceMul, Int.reduceNeg, Int.reduceLT, Int.reduceLE, r_ixO, r_trO, r_pop, r_rev, r_opN, r_ext, r_setIx, r_ch3, r_star, starOf, r_lc2, r_revT, r_notT, Option.map_some, List.isEmpty_cons, List.isEmpty_nil, i1, i2, i3, to, em]) ?_
    refine fin _ _ ?_
    unfold mem4
    rw [if_neg (by omega)]
    rfl
  · refine st (s' := [.d X, .d (.int t), .d (.int t), .no, .no]) (by simp only [r_seq, r_ex, r_set, r_setN, r_drop, r_ret, r_if, r_frz, r_frzS, r_next, r_op, r_fun1, r_call, r_callN, r_cons, r_nil, r_var, r_c, r_bl, r_tr, r_not, r_andB, r_orB, r_andV, r_notV, r_ifE, r_chain, r_lst, r_tup, r_sz, r_own, r_def, r_seqOf, r_lc, r_app, r_fld, r_meth, r_peek, r_enum, szOk, blOf, truD, seqOf, wipeS, lfts, bndo, bnde, getz, getS, setz, setS, List.map_cons, List.map_nil, List.cons_append, List.nil_append, List.replicate, List.length_cons, List.length_nil, if_true, gInt, gTuple, gLen, Nat.reduceAdd, Nat.reduceLeDiff, giName, r_orV, r_slT, r_slL, r_part, r_noPart, gAdd_int, gSub_int, gLt_int, gLe_int, gGt_int, gGe_int, gNeg_int, gEq_int, gNe_int, gMod_int, gDiv_int, gMul_r, ixL0, ixL1, ixL2, ixL3, ixL4, ixL5, ixL6, ixL7, ixL8, ixL9, ixL10, ixL11, ixL12, ixL13, ixT0, ixT1, ixT2, ixT3, ixT4, ixT5, ixT6, ixT7, ixT8, ixT9, ixT10, and_self, Int.cast_ofNat_Int, Int.reduceEq, decide_true, decide_false, Bool.not_true, Bool.not_false, nums_length, isi_ii, gAbs_int, Int.reduceAdd, Int.reduceSub, Int.reduceMul, Int.reduceNeg, Int.reduceLT, Int.reduceLE, r_ixO, r_trO, r_pop, r_rev, r_opN, r_ext, r_setIx, r_ch3, r_star, starOf, r_lc2, r_revT, r_notT, Option.map_some, List.isEmpty_cons, List.isEmpty_nil]) ?_
    refine st (s' := [.d X, .d (.int t), .d (.int t), .d (.tup (spsD h)), .no]) (by simp only [r_seq, r_ex, r_set, r_setN, r_drop, r_ret, r_if, r_frz, r_frzS, r_next, r_op, r_fun1, r_call, r_callN, r_cons, r_nil, r_var, r_c, r_bl, r_tr, r_not, r_andB, r_orB, r_andV, r_notV, r_ifE, r_chain, r_lst, r_tup, r_sz, r_own, r_def, r_seqOf, r_lc, r_app, r_fld, r_meth, r_peek, r_enum, szOk, blOf, truD, seqOf, wipeS, lfts, bndo, bnde, getz, getS, setz, setS, List.map_cons, List.map_nil, List.cons_append, List.nil_append, List.replicate, List.length_cons, List.length_nil, if_true, gInt, gTuple, gLen, Nat.reduceAdd, Nat.reduceLeDiff, giName, r_orV, r_slT, r_slL, r_part, r_noPart, gAdd_int, gSub_int, gLt_int, gLe_int, gGt_int, gGe_int, gNeg_int, gEq_int, gNe_int, gMod_int, gDiv_int, gMul_r, ixL0, ixL1, ixL2, ixL3, ixL4, ixL5, ixL6, ixL7, ixL8, ixL9, ixL10, ixL11, ixL12, ixL13, ixT0, ixT1, ixT2, ixT3, ixT4, ixT5, ixT6, ixT7, ixT8, ixT9, ixT10, and_self, Int.cast_ofNat_Int, Int.reduceEq, decide_true, decide_false, Bool.not_true, Bool.not_false, nums_length, isi_ii, gAbs_int, Int.reduceAdd, Int.reduceSub, Int.reduceMul, Int.reduceNeg, Int.reduceLT, Int.reduceLE, r_ixO, r_trO, r_pop, r_rev, r_opN, r_ext, r_setIx, r_ch3, r_star, starOf, r_lc2, r_revT, r_notT, Option.map_some, List.isEmpty_cons, List.isEmpty_nil, i0]) ?_
    refine st (s' := [.d X, .d (.int t), .d (.int t), .d (.tup (spsD h)), .no]) (by simp only [r_seq, r_ex, r_set, r_setN, r_drop, r_ret, r_if, r_frz, r_frzS, r_next, r_op, r_fun1, r_call, r_callN, r_cons, r_nil, r_var, r_c, r_bl, r_tr, r_not, r_andB, r_orB, r_andV, r_notV, r_ifE, r_chain, r_lst, r_tup, r_sz, r_own, r_def, r_seqOf, r_lc, r_app, r_fld, r_meth, r_peek, r_enum, szOk, blOf, truD, seqOf, wipeS, lfts, bndo, bnde, getz, getS, setz, setS, List.map_cons, List.map_nil, List.cons_append, List.nil_append, List.replicate, List.length_cons, List.length_nil, if_true, gInt, gTuple, gLen, Nat.reduceAdd, Nat.reduceLeDiff, giName, r_orV, r_slT, r_slL, r_part, r_noPart, gAdd_int, gSub_int, gLt_int, gLe_int, gGt_int, gGe_int, gNeg_int, gEq_int, gNe_int, gMod_int, gDiv_int, gMul_r, ixL0, ixL1, ixL2, ixL3, ixL4, ixL5, ixL6, ixL7, ixL8, ixL9, ixL10, ixL11, ixL12, ixL13, ixT0, ixT1, ixT2, ixT3, ixT4, ixT5, ixT6, ixT7, ixT8, ixT9, ixT10, and_self, Int.cast_ofNat_Int, Int.reduceEq, decide_true, decide_false, Bool.not_true, Bool.not_false, nums_length, isi_ii, gAbs_int, Int.reduceAdd, Int.reduceSub, Int.reduceMul, Int.reduceNeg, Int.reduceLT, Int.reduceLE, r_ixO, r_trO, r_pop, r_rev, r_opN, r_ext, r_setIx, r_ch3, r_star, starOf, r_lc2, r_revT, r_notT, Option.map_some, List.isEmpty_cons, List.isEmpty_nil, i1, to]) ?_
    refine fin _ _ ?_
    unfold mem4
    rw [if_pos (by omega)]
theorem check_loop (c : Cl) (S0 : Sl) (b : Int) : ∀ (l : List Seg) (y : Sl), (∀ s ∈ l, 0 ≤ s.1 ∧ s.1 < s.2 ∧ s.2 ≤ b) → ∃ y', loopF (giName 2) (fIfS (fOrB (fBl (fop gNe (fcall gLen (fCons (fVar 2) fNil)) (fC (.int 2)))) (fNot (fBl (fCh3 gLe gLt gLe (fC (.int 0)) (fop gIx (fVar 2) (fC (.int 0))) (fop gIx (fVar 2) (fC (.int 1))) (fVar 1))))) (fRaise c.InvalidSpans (fJs ((fC (.str "a pair is no span, or does not lie within 0 and ")) :: ((fFmt (fVar 1)) :: [])) Str.empty)) fNext) (spsD l) [S0, .d (.int b), y] = some (.nx [S0, .d (.int b), y'])
  | [], y, _ => ⟨y, rfl⟩
  | s :: r, y, h => by
    obtain ⟨y', ih⟩ := check_loop c S0 b r (.d (spD s)) fun u hu => h u (List.mem_cons_of_mem _ hu)
    obtain ⟨h1, h2, h3⟩ := h s (List.mem_cons_self ..)
    refine ⟨y', ?_⟩
    show loopF _ _ (spD s :: spsD r) _ = _
    rw [loopC, ← ih]
    have en : gNe (.int (2 : Nat)) (.int 2) = some (.bl false) := gNe_int 2 2
    simp only [spD, r_seq, r_ex, r_set, r_setN, r_drop, r_ret, r_if, r_frz, r_frzS, r_next, r_op, r_fun1, r_call, r_callN, r_cons, r_nil, r_var, r_c, r_bl, r_tr, r_not, r_andB, r_orB, r_andV, r_notV, r_ifE, r_chain, r_lst, r_tup, r_sz, r_own, r_def, r_seqOf, r_lc, r_app, r_fld, r_meth, r_peek, r_enum, szOk, blOf, truD, seqOf, wipeS, lfts, bndo, bnde, getz, getS, setz, setS, List.map_cons, List.map_nil, List.cons_append, List.nil_append, List.replicate, List.length_cons, List.length_nil, if_true, gInt, gTuple, gLen, Nat.reduceAdd, Nat.reduceLeDiff, giName, r_orV, r_slT, r_slL, r_part, r_noPart, gAdd_int, gSub_int, gLt_int, gLe_int, gGt_int, gGe_int, gNeg_int, gEq_int, gNe_int, gMod_int, gDiv_int, gMul_r, ixL0, ixL1, ixL2, ixL3, ixL4, ixL5, ixL6, ixL7, ixL8, ixL9, ixL10, ixL11, ixL12, ixL13, ixT0, ixT1, ixT2, ixT3, ixT4, ixT5, ixT6, ixT7, ixT8, ixT9, ixT10, and_self, Int.cast_ofNat_Int, Int.reduceEq, decide_true, decide_false, Bool.not_true, Bool.not_false, nums_length, isi_ii, gAbs_int, Int.reduceAdd, Int.reduceSub, Int.reduceMul, Int.reduceNeg, Int.reduceLT, Int.reduceLE, r_ixO, r_trO, r_pop, r_rev, r_opN, r_ext, r_setIx, r_ch3, r_star, starOf, r_lc2, r_revT, r_notT, Option.map_some, List.isEmpty_cons, List.isEmpty_nil, h1, h2, h3, en] <;> rfl
theorem at_check (c : Cl) (l : List Seg) (b : Int) (h : ∀ s ∈ l, 0 ≤ s.1 ∧ s.1 < s.2 ∧ s.2 ≤ b) : G_check_spans c [.tup (spsD l), .int b] = some (.ok .non) := by
  obtain ⟨y', e⟩ := check_loop c (.d (.tup (spsD l))) b l .no h
  unfold G_check_spans
  rw [r_def]
  show (match F_check_spans c [.d (.tup (spsD l)), .d (.int b), .no] with
    | some (.rt d) => _
    | some (.nx _) => _
    | some (.er x _) => _
    | _ => _) = _
  unfold F_check_spans
  simp only [r_seq, r_ex, r_set, r_setN, r_drop, r_ret, r_if, r_frz, r_frzS, r_next, r_op, r_fun1, r_call, r_callN, r_cons, r_nil, r_var, r_c, r_bl, r_tr, r_not, r_andB, r_orB, r_andV, r_notV, r_ifE, r_chain, r_lst, r_tup, r_sz, r_own, r_def, r_seqOf, r_lc, r_app, r_fld, r_meth, r_peek, r_enum, szOk, blOf, truD, seqOf, wipeS, lfts, bndo, bnde, getz, getS, setz, setS, List.map_cons, List.map_nil, List.cons_append, List.nil_append, List.replicate, List.length_cons, List.length_nil, if_true, gInt, gTuple, gLen, Nat.reduceAdd, Nat.reduceLeDiff, giName, r_orV, r_slT, r_slL, r_part, r_noPart, gAdd_int, gSub_int, gLt_int, gLe_int, gGt_int, gGe_int, gNeg_int, gEq_int, gNe_int, gMod_int, gDiv_int, gMul_r, ixL0, ixL1, ixL2, ixL3, ixL4, ixL5, ixL6, ixL7, ixL8, ixL9, ixL10, ixL11, ixL12, ixL13, ixT0, ixT1, ixT2, ixT3, ixT4, ixT5, ixT6, ixT7, ixT8, ixT9, ixT10, and_self, Int.cast_ofNat_Int, Int.reduceEq, decide_true, decide_false, Bool.not_true, Bool.not_false, nums_length, isi_ii, gAbs_int, Int.reduceAdd, Int.reduceSub, Int.reduceMul, Int.reduceNeg, Int.reduceLT, Int.reduceLE, r_ixO, r_trO, r_pop, r_rev, r_opN, r_ext, r_setIx, r_ch3, r_star, starOf, r_lc2, r_revT, r_notT, Option.map_some, List.isEmpty_cons, List.isEmpty_nil, r_for, e]
def spanNames : List Str := ["head", "since", "period", "cycle"]
def spanD (C : Addr) (h : List Seg) (o p : Int) (l : List Seg) : D := .obj C spanNames [.tup (spsD h), .int o, .int p, .tup (spsD l)]
theorem four_of {h : List Seg} {o p : Int} {l : List Seg} (T : Told h o p l) : Four (mergedS h) o p (mergedS l) ∧ ∀ t, mem4 (mergedS h) o p (mergedS l) t = mem4 h o p l t := by
  obtain ⟨⟨x, t1⟩, g1⟩ := mergedS_ok (l := h) fun s hs => (T.hh s hs).2.1
  obtain ⟨⟨y, t2⟩, g2⟩ := mergedS_ok (l := l) fun s hs => (T.hl s hs).2.1
  have b1 := hit_bounds t1.valid g1 fun s hs => ⟨(T.hh s hs).1, (T.hh s hs).2.2⟩
  have b2 := hit_bounds t2.valid g2 fun s hs => ⟨(T.hl s hs).1, (T.hl s hs).2.2⟩
  refine ⟨⟨T.o0, t1.raise fun s hs => (b1 s hs).1, fun s hs => (b1 s hs).2, T.p0, t2.raise fun s hs => (b2 s hs).1, fun s hs => (b2 s hs).2⟩, fun t => ?_⟩
  unfold mem4 cyc
  rw [g1, g2]
theorem at_init (c : Cl) (h : List Seg) (o p : Int) (l : List Seg) (T : Told h o p l) : ∃ h' o' q l', G_Spans___init__ c [.tup (spsD h), .int o, .int p, .tup (spsD l)] = some (.ok (spanNames, [.tup (spsD h'), .int o', .int q, .tup (spsD l')])) ∧ Norm (mergedS h) o p (mergedS l) h' o' q l' := by
  have o0 := T.o0
  have o1 := T.o1
  have p0 := T.p0
  have p1 := T.p1
  have nh := T.nh
  have nl := T.nl
  have f := (four_of T).1
  have m1 := mergedS_len h
  have m2 := mergedS_len l
  obtain ⟨h', o', q, l', e, N⟩ := at_normal c (mergedS h) o p (mergedS l) f (by omega) (by omega) (by omega) (by omega) fun q n P hn => by
    have hc := cutG_len 0 q (mergedS l)
    have hq := P.q1
    have : n ≤ 40 := by
      rcases Nat.lt_or_ge 40 n with g | g
      · have : (n : Int) * 1 ≤ n * q := Int.mul_le_mul_of_nonneg_left hq (by omega)
        omega
      · exact g
    have : (n + 2) * (cutG 0 q (mergedS l)).length ≤ 42 * 80 := Nat.mul_le_mul (by omega) (by omega)
    omega
  refine ⟨h', o', q, l', ?_, N⟩
  unfold G_Spans___init__
  refine fInit_eq fun a => ?_
  refine ⟨[.obj a c.Spans spanNames [.tup (spsD h'), .int o', .int q, .tup (spsD l')], .d (.tup (spsD h')), .d (.int o'), .d (.int q), .d (.tup (spsD l'))], ?_, rfl⟩
  unfold F_Spans___init__
  have c1 := at_check c h o T.hh
  have c2 := at_check c l p T.hl
  have e1 := at_mergedT c h (by omega)
  have e2 := at_mergedT c l (by omega)
  have z1 : ¬ o < 0 := by omega
  have z2 : ¬ p < 1 := by omega
  refine st (s' := [.obj a c.Spans [] [], .d (.tup (spsD h)), .d (.int o), .d (.int p), .d (.tup (spsD l))]) (by simp only [r_seq, r_ex, r_set, r_setN, r_drop, r_ret, r_if, r_frz, r_frzS, r_next, r_op, r_fun1, r_call, r_callN, r_cons, r_nil, r_var, r_c, r_bl, r_tr, r_not, r_andB, r_orB, r_andV, r_notV, r_ifE, r_chain, r_lst, r_tup, r_sz, r_own, r_def, r_seqOf, r_lc, r_app, r_fld, r_meth, r_peek, r_enum, szOk, blOf, truD, seqOf, wipeS, lfts, bndo, bnde, getz, getS, setz, setS, List.map_cons, List.map_nil, List.cons_append, List.nil_append, List.replicate, List.length_cons, List.length_nil, if_true, gInt, gTuple, gLen, Nat.reduceAdd, Nat.reduceLeDiff, giName, r_orV, r_slT, r_slL, r_part, r_noPart, gAdd_int, gSub_int, gLt_int, gLe_int, gGt_int, gGe_int, gNeg_int, gEq_int, gNe_int, gMod_int, gDiv_int, gMul_r, ixL0, ixL1, ixL2, ixL3, ixL4, ixL5, ixL6, ixL7, ixL8, ixL9, ixL10, ixL11, ixL12, ixL13, ixT0, ixT1, ixT2, ixT3, ixT4, ixT5, ixT6, ixT7, ixT8, ixT9, ixT10, and_self, Int.cast_ofNat_Int, Int.reduceEq, decide_true, decide_false, Bool.not_true, Bool.not_false, nums_length, isi_ii, gAbs_int, Int.reduceAdd, Int.reduceSub, Int.reduceMul, Int.reduceNeg, Int.reduceLT, Int.reduceLE, r_ixO, r_trO, r_pop, r_rev, r_opN, r_ext, r_setIx, r_ch3, r_star, starOf, r_lc2, r_revT, r_notT, Option.map_some, List.isEmpty_cons, List.isEmpty_nil, z1]) ?_
  refine st (s' := [.obj a c.Spans [] [], .d (.tup (spsD h)), .d (.int o), .d (.int p), .d (.tup (spsD l))]) (by simp only [r_seq, r_ex, r_set, r_setN, r_drop, r_ret, r_if, r_frz, r_frzS, r_next, r_op, r_fun1, r_call, r_callN, r_cons, r_nil, r_var, r_c, r_bl, r_tr, r_not, r_andB, r_orB, r_andV, r_notV, r_ifE, r_chain, r_lst, r_tup, r_sz, r_own, r_def, r_seqOf, r_lc, r_app, r_fld, r_meth, r_peek, r_enum, szOk, blOf, truD, seqOf, wipeS, lfts, bndo, bnde, getz, getS, setz, setS, List.map_cons, List.map_nil, List.cons_append, List.nil_append, List.replicate, List.length_cons, List.length_nil, if_true, gInt, gTuple, gLen, Nat.reduceAdd, Nat.reduceLeDiff, giName, r_orV, r_slT, r_slL, r_part, r_noPart, gAdd_int, gSub_int, gLt_int, gLe_int, gGt_int, gGe_int, gNeg_int, gEq_int, gNe_int, gMod_int, gDiv_int, gMul_r, ixL0, ixL1, ixL2, ixL3, ixL4, ixL5, ixL6, ixL7, ixL8, ixL9, ixL10, ixL11, ixL12, ixL13, ixT0, ixT1, ixT2, ixT3, ixT4, ixT5, ixT6, ixT7, ixT8, ixT9, ixT10, and_self, Int.cast_ofNat_Int, Int.reduceEq, decide_true, decide_false, Bool.not_true, Bool.not_false, nums_length, isi_ii, gAbs_int, Int.reduceAdd, Int.reduceSub, Int.reduceMul, Int.reduceNeg, Int.reduceLT, Int.reduceLE, r_ixO, r_trO, r_pop, r_rev, r_opN, r_ext, r_setIx, r_ch3, r_star, starOf, r_lc2, r_revT, r_notT, Option.map_some, List.isEmpty_cons, List.isEmpty_nil, z2]) ?_
  refine st (s' := [.obj a c.Spans [] [], .d (.tup (spsD h)), .d (.int o), .d (.int p), .d (.tup (spsD l))]) (by simp only [r_seq, r_ex, r_set, r_setN, r_drop, r_ret, r_if, r_frz, r_frzS, r_next, r_op, r_fun1, r_call, r_callN, r_cons, r_nil, r_var, r_c, r_bl, r_tr, r_not, r_andB, r_orB, r_andV, r_notV, r_ifE, r_chain, r_lst, r_tup, r_sz, r_own, r_def, r_seqOf, r_lc, r_app, r_fld, r_meth, r_peek, r_enum, szOk, blOf, truD, seqOf, wipeS, lfts, bndo, bnde, getz, getS, setz, setS, List.map_cons, List.map_nil, List.cons_append, List.nil_append, List.replicate, List.length_cons, List.length_nil, if_true, gInt, gTuple, gLen, Nat.reduceAdd, Nat.reduceLeDiff, giName, r_orV, r_slT, r_slL, r_part, r_noPart, gAdd_int, gSub_int, gLt_int, gLe_int, gGt_int, gGe_int, gNeg_int, gEq_int, gNe_int, gMod_int, gDiv_int, gMul_r, ixL0, ixL1, ixL2, ixL3, ixL4, ixL5, ixL6, ixL7, ixL8, ixL9, ixL10, ixL11, ixL12, ixL13, ixT0, ixT1, ixT2, ixT3, ixT4, ixT5, ixT6, ixT7, ixT8, ixT9, ixT10, and_self, Int.cast_ofNat_Int, Int.reduceEq, decide_true, decide_false, Bool.not_true, Bool.not_false, nums_length, isi_ii, gAbs_int, Int.reduceAdd, Int.reduceSub, Int.reduceMul, Int.reduceNeg, Int.reduceLT, Int.reduceLE, r_ixO, r_trO, r_pop, r_rev, r_opN, r_ext, r_setIx, r_ch3, r_star, starOf, r_lc2, r_revT, r_notT, Option.map_some, List.isEmpty_cons, List.isEmpty_nil, c1]) ?_
  refine st (s' := [.obj a c.Spans [] [], .d (.tup (spsD h)), .d (.int o), .d (.int p), .d (.tup (spsD l))]) (by simp only [r_seq, r_ex, r_set, r_setN, r_drop, r_ret, r_if, r_frz, r_frzS, r_next, r_op, r_fun1, r_call, r_callN, r_cons, r_nil, r_var, r_c, r_bl, r_tr, r_not, r_andB, r_orB, r_andV, r_notV, r_ifE, r_chain, r_lst, r_tup, r_sz, r_own, r_def, r_seqOf, r_lc, r_app, r_fld, r_meth, r_peek, r_enum, szOk, blOf, truD, seqOf, wipeS, lfts, bndo, bnde, getz, getS, setz, setS, List.map_cons, List.map_nil, List.cons_append, List.nil_append, List.replicate, List.length_cons, List.length_nil, if_true, gInt, gTuple, gLen, Nat.reduceAdd, Nat.reduceLeDiff, giName, r_orV, r_slT, r_slL, r_part, r_noPart, gAdd_int, gSub_int, gLt_int, gLe_int, gGt_int, gGe_int, gNeg_int, gEq_int, gNe_int, gMod_int, gDiv_int, gMul_r, ixL0, ixL1, ixL2, ixL3, ixL4, ixL5, ixL6, ixL7, ixL8, ixL9, ixL10, ixL11, ixL12, ixL13, ixT0, ixT1, ixT2, ixT3, ixT4, ixT5, ixT6, ixT7, ixT8, ixT9, ixT10, and_self, Int.cast_ofNat_Int, Int.reduceEq, decide_true, decide_false, Bool.not_true, Bool.not_false, nums_length, isi_ii, gAbs_int, Int.reduceAdd, Int.reduceSub, Int.reduceMul, Int.reduceNeg, Int.reduceLT, Int.reduceLE, r_ixO, r_trO, r_pop, r_rev, r_opN, r_ext, r_setIx, r_ch3, r_star, starOf, r_lc2, r_revT, r_notT, Option.map_some, List.isEmpty_cons, List.isEmpty_nil, c2]) ?_
  refine st (s' := [.obj a c.Spans [] [], .d (.tup (spsD h')), .d (.int o'), .d (.int q), .d (.tup (spsD l'))]) (by simp only [r_seq, r_ex, r_set, r_setN, r_drop, r_ret, r_if, r_frz, r_frzS, r_next, r_op, r_fun1, r_call, r_callN, r_cons, r_nil, r_var, r_c, r_bl, r_tr, r_not, r_andB, r_orB, r_andV, r_notV, r_ifE, r_chain, r_lst, r_tup, r_sz, r_own, r_def, r_seqOf, r_lc, r_app, r_fld, r_meth, r_peek, r_enum, szOk, blOf, truD, seqOf, wipeS, lfts, bndo, bnde, getz, getS, setz, setS, List.map_cons, List.map_nil, List.cons_append, List.nil_append, List.replicate, List.length_cons, List.length_nil, if_true, gInt, gTuple, gLen, Nat.reduceAdd, Nat.reduceLeDiff, giName, r_orV, r_slT, r_slL, r_part, r_noPart, gAdd_int, gSub_int, gLt_int, gLe_int, gGt_int, gGe_int, gNeg_int, gEq_int, gNe_int, gMod_int, gDiv_int, gMul_r, ixL0, ixL1, ixL2, ixL3, ixL4, ixL5, ixL6, ixL7, ixL8, ixL9, ixL10, ixL11, ixL12, ixL13, ixT0, ixT1, ixT2, ixT3, ixT4, ixT5, ixT6, ixT7, ixT8, ixT9, ixT10, and_self, Int.cast_ofNat_Int, Int.reduceEq, decide_true, decide_false, Bool.not_true, Bool.not_false, nums_length, isi_ii, gAbs_int, Int.reduceAdd, Int.reduceSub, Int.reduceMul, Int.reduceNeg, Int.reduceLT, Int.reduceLE, r_ixO, r_trO, r_pop, r_rev, r_opN, r_ext, r_setIx, r_ch3, r_star, starOf, r_lc2, r_revT, r_notT, Option.map_some, List.isEmpty_cons, List.isEmpty_nil, r_setT, giTup, giNames, e1, e2, e]) ?_
  refine st (set_new (d := .tup (spsD h')) (by simp only [r_seq, r_ex, r_set, r_setN, r_drop, r_ret, r_if, r_frz, r_frzS, r_next, r_op, r_fun1, r_call, r_callN, r_cons, r_nil, r_var, r_c, r_bl, r_tr, r_not, r_andB, r_orB, r_andV, r_notV, r_ifE, r_chain, r_lst, r_tup, r_sz, r_own, r_def, r_seqOf, r_lc, r_app, r_fld, r_meth, r_peek, r_enum, szOk, blOf, truD, seqOf, wipeS, lfts, bndo, bnde, getz, getS, setz, setS, List.map_cons, List.map_nil, List.cons_append, List.nil_append, List.replicate, List.length_cons, List.length_nil, if_true, gInt, gTuple, gLen, Nat.reduceAdd, Nat.reduceLeDiff, giName, r_orV, r_slT, r_slL, r_part, r_noPart, gAdd_int, gSub_int, gLt_int, gLe_int, gGt_int, gGe_int, gNeg_int, gEq_int, gNe_int, gMod_int, gDiv_int, gMul_r, ixL0, ixL1, ixL2, ixL3, ixL4, ixL5, ixL6, ixL7, ixL8, ixL9, ixL10, ixL11, ixL12, ixL13, ixT0, ixT1, ixT2, ixT3, ixT4, ixT5, ixT6, ixT7, ixT8, ixT9, ixT10, and_self, Int.cast_ofNat_Int, Int.reduceEq, decide_true, decide_false, Bool.not_true, Bool.not_false, nums_length, isi_ii, gAbs_int, Int.reduceAdd, Int.reduceSub, Int.reduceMul, Int.reduceNeg, Int.reduceLT, Int.reduceLE, r_ixO, r_trO, r_pop, r_rev, r_opN, r_ext, r_setIx, r_ch3, r_star, starOf, r_lc2, r_revT, r_notT, Option.map_some, List.isEmpty_cons, List.isEmpty_nil]) (by decide +kernel) rfl (by decide)) ?_
  refine st (set_new (d := .int o') (by simp only [r_seq, r_ex, r_set, r_setN, r_drop, r_ret, r_if, r_frz, r_frzS, r_next, r_op, r_fun1, r_call, r_callN, r_cons, r_nil, r_var, r_c, r_bl, r_tr, r_not, r_andB, r_orB, r_andV, r_notV, r_ifE, r_chain, r_lst, r_tup, r_sz, r_own, r_def, r_seqOf, r_lc, r_app, r_fld, r_meth, r_peek, r_enum, szOk, blOf, truD, seqOf, wipeS, lfts, bndo, bnde, getz, getS, setz, setS, List.map_cons, List.map_nil, List.cons_append, List.nil_append, List.replicate, List.length_cons, List.length_nil, if_true, gInt, gTuple, gLen, Nat.reduceAdd, Nat.reduceLeDiff, giName, r_orV, r_slT, r_slL, r_part, r_noPart, gAdd_int, gSub_int, gLt_int, gLe_int, gGt_int, gGe_int, gNeg_int, gEq_int, gNe_int, gMod_int, gDiv_int, gMul_r, ixL0, ixL1, ixL2, ixL3, ixL4, ixL5, ixL6, ixL7, ixL8, ixL9, ixL10, ixL11, ixL12, ixL13, ixT0, ixT1, ixT2, ixT3, ixT4, ixT5, ixT6, ixT7, ixT8, ixT9, ixT10, and_self, Int.cast_ofNat_Int, Int.reduceEq, decide_true, decide_false, Bool.not_true, Bool.not_false, nums_length, isi_ii, gAbs_int, Int.reduceAdd, Int.reduceSub, Int.reduceMul, Int.reduceNeg, Int.reduceLT, Int.reduceLE, r_ixO, r_trO, r_pop, r_rev, r_opN, r_ext, r_setIx, r_ch3, r_star, starOf, r_lc2, r_revT, r_notT, Option.map_some, List.isEmpty_cons, List.isEmpty_nil]) (by decide +kernel) rfl (by decide)) ?_
  refine st (set_new (d := .int q) (by simp only [r_seq, r_ex, r_set, r_setN, r_drop, r_ret, r_if, r_frz, r_frzS, r_next, r_op, r_fun1, r_call, r_callN, r_cons, r_nil, r_var, r_c, r_bl, r_tr, r_not, r_andB, r_orB, r_andV, r_notV, r_ifE, r_chain, r_lst, r_tup, r_sz, r_own, r_def, r_seqOf, r_lc, r_app, r_fld, r_meth, r_peek, r_enum, szOk, blOf, truD, seqOf, wipeS, lfts, bndo, bnde, getz, getS, setz, setS, List.map_cons, List.map_nil, List.cons_append, List.nil_append, List.replicate, List.length_cons, List.length_nil, if_true, gInt, gTuple, gLen, Nat.reduceAdd, Nat.reduceLeDiff, giName, r_orV, r_slT, r_slL, r_part, r_noPart, gAdd_int, gSub_int, gLt_int, gLe_int, gGt_int, gGe_int, gNeg_int, gEq_int, gNe_int, gMod_int, gDiv_int, gMul_r, ixL0, ixL1, ixL2, ixL3, ixL4, ixL5, ixL6, ixL7, ixL8, ixL9, ixL10, ixL11, ixL12, ixL13, ixT0, ixT1, ixT2, ixT3, ixT4, ixT5, ixT6, ixT7, ixT8, ixT9, ixT10, and_self, Int.cast_ofNat_Int, Int.reduceEq, decide_true, decide_false, Bool.not_true, Bool.not_false, nums_length, isi_ii, gAbs_int, Int.reduceAdd, Int.reduceSub, Int.reduceMul, Int.reduceNeg, Int.reduceLT, Int.reduceLE, r_ixO, r_trO, r_pop, r_rev, r_opN, r_ext, r_setIx, r_ch3, r_star, starOf, r_lc2, r_revT, r_notT, Option.map_some, List.isEmpty_cons, List.isEmpty_nil]) (by decide +kernel) rfl (by decide)) ?_
  exact set_new (d := .tup (spsD l')) (by simp only [r_seq, r_ex, r_set, r_setN, r_drop, r_ret, r_if, r_frz, r_frzS, r_next, r_op, r_fun1, r_call, r_callN, r_cons, r_nil, r_var, r_c, r_bl, r_tr, r_not, r_andB, r_orB, r_andV, r_notV, r_ifE, r_chain, r_lst, r_tup, r_sz, r_own, r_def, r_seqOf, r_lc, r_app, r_fld, r_meth, r_peek, r_enum, szOk, blOf, truD, seqOf, wipeS, lfts, bndo, bnde, getz, getS, setz, setS, List.map_cons, List.map_nil, List.cons_append, List.nil_append, List.replicate, List.length_cons, List.length_nil, if_true, gInt, gTuple, gLen, Nat.reduceAdd, Nat.reduceLeDiff, giName, r_orV, r_slT, r_slL, r_part, r_noPart, gAdd_int, gSub_int, gLt_int, gLe_int, gGt_int, gGe_int, gNeg_int, gEq_int, gNe_int, gMod_int, gDiv_int, gMul_r, ixL0, ixL1, ixL2, ixL3, ixL4, ixL5, ixL6, ixL7, ixL8, ixL9, ixL10, ixL11, ixL12, ixL13, ixT0, ixT1, ixT2, ixT3, ixT4, ixT5, ixT6, ixT7, ixT8, ixT9, ixT10, and_self, Int.cast_ofNat_Int, Int.reduceEq, decide_true, decide_false, Bool.not_true, Bool.not_false, nums_length, isi_ii, gAbs_int, Int.reduceAdd, Int.reduceSub, Int.reduceMul, Int.reduceNeg, Int.reduceLT, Int.reduceLE, r_ixO, r_trO, r_pop, r_rev, r_opN, r_ext, r_setIx, r_ch3, r_star, starOf, r_lc2, r_revT, r_notT, Option.map_some, List.isEmpty_cons, List.isEmpty_nil]) (by decide +kernel) rfl (by decide)
def Next (h : List Seg) (o p : Int) (l : List Seg) (t : Int) (r : D) : Prop :=
  (r = .non ∧ l = [] ∧ (∀ s ∈ h, s.2 ≤ t) ∧ ∀ x, t ≤ x → mem4 h o p l x = false) ∨
  (∃ d, r = .int d ∧ t ≤ d ∧ (d ≤ t + p ∨ d ≤ o + p) ∧ mem4 h o p l d = true ∧ ∀ x, t ≤ x → x < d → mem4 h o p l x = false)

/-! ### a normal form is its own normal form -/
theorem cyc_0 (o p : Int) (l : List Seg) (t : Int) : cyc o p l t = cyc 0 p l (t - o) := by
  unfold cyc
  rw [Int.sub_zero]
theorem Norm.leastF {h : List Seg} {o p : Int} {l h' : List Seg} {o' q : Int} {l' : List Seg} (N : Norm h o p l h' o' q l') : Least q l' q := fun r hr hper => N.least r hr fun t => by
  have h1 := N.cy (t + o)
  have h2 := N.cy (t + o + r)
  rw [cyc_0 o' q, cyc_0 o p] at h1 h2
  rw [show t + o - o = t by omega] at h1
  rw [show t + o + r - o = t + r by omega] at h2
  rw [← h1, ← h2, show t + o + r - o' = t + o - o' + r by omega, hper]
theorem norm_again {h : List Seg} {o p : Int} {l h' : List Seg} {o' q : Int} {l' h2 : List Seg} {o2 q2 : Int} {l2 : List Seg} (N : Norm h o p l h' o' q l') (M : Norm h' o' q l' h2 o2 q2 l2) : h2 = h' ∧ o2 = o' ∧ q2 = q ∧ l2 = l' := by
  have eq : q2 = q := by
    have h1 := M.per.le
    have h3 := N.leastF q2 M.per.q1 M.per.go
    omega
  subst eq
  have eo : o2 = o' := by
    have h1 := M.le
    rcases Int.lt_or_le o2 o' with g | g
    · exfalso
      have f2 := M.four.o0
      have h3 := N.edge (by omega)
      have h4 := M.mem (o' - 1)
      unfold mem4 at h4
      rw [if_neg (by omega), if_pos (by omega), M.cy] at h4
      exact h3 h4.symm
    · omega
  subst eo
  refine ⟨?_, rfl, rfl, ?_⟩
  · refine tidy_uniq M.four.hd N.four.hd fun t => ?_
    by_cases g : t < o2
    · have h4 := M.mem t
      unfold mem4 at h4
      rw [if_pos g, if_pos g] at h4
      exact h4
    · have none : ∀ m : List Seg, (∀ s ∈ m, s.2 ≤ o2) → hitS m t = false := fun m hm => by
        cases q : hitS m t with
        | false => rfl
        | true =>
          obtain ⟨s, hs, s1, s2⟩ := hit_iff.mp q
          have := hm s hs
          omega
      rw [none _ M.four.he, none _ N.four.he]
  · refine tidy_uniq M.four.wh.td N.four.wh.td fun x => ?_
    by_cases g : 0 ≤ x ∧ x < q2
    · have h4 := M.cy (o2 + x)
      unfold cyc at h4
      rw [show o2 + x - o2 = x by omega, Int.emod_eq_of_lt g.1 g.2] at h4
      exact h4
    · have none : ∀ m : List Seg, Wh q2 m → hitS m x = false := fun m hm => by
        cases q : hitS m x with
        | false => rfl
        | true => exact absurd (hm.out q) g
      rw [none _ M.four.wh, none _ N.four.wh]
theorem told_norm {h : List Seg} {o p : Int} {l : List Seg} (T : Told h o p l) {h' : List Seg} {o' q : Int} {l' : List Seg} (N : Norm (mergedS h) o p (mergedS l) h' o' q l') : Told h' o' q l' := by
  have F := N.four
  have p1 := T.p1
  have o1 := T.o1
  have h1 := N.per.le
  have h2 := N.le
  have h3 := N.hlen
  have h4 := mergedS_len h
  have h5 := T.nh
  have h6 := F.wh.len
  exact ⟨F.o0, by omega, N.per.q1, by omega, fun s hs => ⟨F.hd.starts s hs, F.hd.valid s hs, F.he s hs⟩, fun s hs => ⟨F.wh.td.starts s hs, F.wh.td.valid s hs, F.wh.le s hs⟩, by omega, by omega⟩
theorem at_init2 (c : Cl) {h : List Seg} {o p : Int} {l : List Seg} (T : Told h o p l) {h' : List Seg} {o' q : Int} {l' : List Seg} (N : Norm (mergedS h) o p (mergedS l) h' o' q l') : G_Spans___init__ c [.tup (spsD h'), .int o', .int q, .tup (spsD l')] = some (.ok (spanNames, [.tup (spsD h'), .int o', .int q, .tup (spsD l')])) := by
  obtain ⟨h2, o2, q2, l2, e, M⟩ := at_init c h' o' q l' (told_norm T N)
  rw [mergedS_id ⟨0, N.four.hd⟩, mergedS_id ⟨0, N.four.wh.td⟩] at M
  obtain ⟨rfl, rfl, rfl, rfl⟩ := norm_again N M
  exact e

theorem gEq_Lnil (a : Int) (r : List Int) : gEq (.lst (nums (a :: r))) (.lst []) = some (.bl false) := by
  have ok1 : okDs (nums (a :: r)) = true := okDs_map _ _ fun s _ => rfl
  have dp1 : dpDs (nums (a :: r)) ≤ 1 := dpDs_map _ _ 1 fun s _ => by show 0 ≤ 1; omega
  have inst : Decidable (D.lst (nums (a :: r)) = .lst []) := isFalse fun e => by cases D.lst.inj e
  rw [gEq_ok (x := .lst (nums (a :: r))) (y := .lst []) (by rw [okD]; exact ok1) rfl (by rw [dpD]; omega) (by decide)]
  exact congrArg (fun b => some (D.bl b)) (decide_eq_false fun e => by cases D.lst.inj e)
theorem gEq_form (h : List Seg) (o p : Int) (l : List Seg) : gEq (.tup [.tup (spsD h), .int o, .int p, .tup (spsD l)]) (.tup [.tup (spsD h), .int o, .int p, .tup (spsD l)]) = some (.bl true) := by
  have hok : okD (.tup [.tup (spsD h), .int o, .int p, .tup (spsD l)]) = true := by simp only [okD, okDs, okDs_sps, Bool.and_self]
  have hdp : dpD (.tup [.tup (spsD h), .int o, .int p, .tup (spsD l)]) ≤ 64 := by
    have := dpDs_sps h
    have := dpDs_sps l
    simp only [dpD, dpDs]
    omega
  have inst : Decidable (D.tup [.tup (spsD h), .int o, .int p, .tup (spsD l)] = .tup [.tup (spsD h), .int o, .int p, .tup (spsD l)]) := isTrue rfl
  rw [gEq_ok hok hok hdp hdp]
  exact congrArg (fun b => some (D.bl b)) (decide_eq_true rfl)
theorem gRngW2 {a : Int} {n : Nat} (h : n ≤ 100000) : gRngW [.int a, .int (a + (n : Int))] = some (nums ((List.range n).map fun j : Nat => a + (j : Int))) := by
  have e : nums ((List.range n).map fun j : Nat => a + (j : Int)) = rangeD a n := by unfold nums; rw [List.map_map]; rfl
  rw [e]
  unfold gRngW
  simp only [show (a + (n : Int) - a).toNat = n by omega, h, if_true]
  try rfl
theorem pure_law : ∀ (c : Cl) (ns : List Int), ns.length ≤ 63 → G_law c [.lst (ns.map D.int)] = some (.ok (.bl true)) := fun c ns hl => by
  have a0 : G__law_cell c [.lst (nums ns), .int 0] = some (.ok (.int (ns.getD 0 0))) := at_cell c ns hl 0 (by decide)
  have a1 : G__law_cell c [.lst (nums ns), .int 1] = some (.ok (.int (ns.getD 1 0))) := at_cell c ns hl 1 (by decide)
  refine def_rt ?_
  show F_law c [.d (.lst (nums ns)), .no, .no, .no, .no, .no, .no, .no, .no, .no, .no] = _
  unfold F_law
  obtain ⟨h, o, p, l, ed, T⟩ := at_desc c (ns.getD 0 0)
  obtain ⟨h', o', q, l', ei, N⟩ := at_init c h o p l T
  have F := N.four
  have T' := told_norm T N
  have ei2 := at_init2 c T N
  have hmem : ∀ t, mem4 h' o' q l' t = mem4 h o p l t := fun t => by rw [N.mem, (four_of T).2]
  have hin := at_in c h o p l T
  have hin2 := at_in c h' o' q l' T'
  have hqp := N.per.le
  have hq1 := N.per.q1
  have o0 := T.o0
  have o1 := T.o1
  have p0 := T.p0
  have p1 := T.p1
  have fo0 := F.o0
  have edge := N.edge
  have least := N.leastF
  have et1 := at_tidy c h' 0 o' F.hd F.he
  have et2 := at_tidy c l' 0 q F.wh.td F.wh.le
  have hhit := at_hitT c l'
  have fin := gEq_form h' o' q l'
  obtain ⟨x, hx0, hx1, ex⟩ := num_ex (ns.getD 1 0) 60
  obtain ⟨V, hV⟩ : ∃ V : List D, V = [.tup (spsD h'), .int o', .int q, .tup (spsD l')] := ⟨_, rfl⟩
  have k1 : lookN "head" spanNames V = some (.tup (spsD h')) := by rw [hV]; rfl
  have k2 : lookN "since" spanNames V = some (.int o') := by rw [hV]; rfl
  have k3 : lookN "period" spanNames V = some (.int q) := by rw [hV]; rfl
  have k4 : lookN "cycle" spanNames V = some (.tup (spsD l')) := by rw [hV]; rfl
  have ei3 : G_Spans___init__ c [.tup (spsD h'), .int o', .int q, .tup (spsD l')] = some (.ok (spanNames, V)) := by rw [hV]; exact ei2
  rw [← hV] at ei
  obtain ⟨R, hR⟩ : ∃ X, X = D.tup [.tup (spsD h), .int o, .int p, .tup (spsD l)] := ⟨_, rfl⟩
  have i0 : gIx R (.int 0) = some (.tup (spsD h)) := by rw [hR]; rfl
  have i1 : gIx R (.int 1) = some (.int o) := by rw [hR]; rfl
  have i2 : gIx R (.int 2) = some (.int p) := by rw [hR]; rfl
  have i3 : gIx R (.int 3) = some (.tup (spsD l)) := by rw [hR]; rfl
  rw [← hR] at ed
  simp only [← hR] at hin
  have e2 : dg_Spans_4_ [.tup (spsD h), .int o, .int p, .tup (spsD l)] [] = [.tup (spsD h), .int o, .int p, .tup (spsD l)] := rfl
  have e3 : dg_Spans_4_ [.tup (spsD h'), .int o', .int q, .tup (spsD l')] [] = [.tup (spsD h'), .int o', .int q, .tup (spsD l')] := rfl
  refine st (s' := [.d (.lst (nums ns)), .d R, .no, .no, .no, .no, .no, .no, .no, .no, .no]) (by simp only [r_seq, r_ex, r_set, r_setN, r_drop, r_ret, r_if, r_frz, r_frzS, r_next, r_op, r_fun1, r_call, r_callN, r_cons, r_nil, r_var, r_c, r_bl, r_tr, r_not, r_andB, r_orB, r_andV, r_notV, r_ifE, r_chain, r_lst, r_tup, r_sz, r_own, r_def, r_seqOf, r_lc, r_app, r_fld, r_meth, r_peek, r_enum, szOk, blOf, truD, seqOf, wipeS, lfts, bndo, bnde, getz, getS, setz, setS, List.map_cons, List.map_nil, List.cons_append, List.nil_append, List.replicate, List.length_cons, List.length_nil, if_true, gInt, gTuple, gLen, Nat.reduceAdd, Nat.reduceLeDiff, giName, r_orV, r_slT, r_slL, r_part, r_noPart, gAdd_int, gSub_int, gLt_int, gLe_int, gGt_int, gGe_int, gNeg_int, gEq_int, gNe_int, gMod_int, gDiv_int, gMul_r, ixL0, ixL1, ixL2, ixL3, ixL4, ixL5, ixL6, ixL7, ixL8, ixL9, ixL10, ixL11, ixL12, ixL13, ixT0, ixT1, ixT2, ixT3, ixT4, ixT5, ixT6, ixT7, ixT8, ixT9, ixT10, and_self, Int.cast_ofNat_Int, Int.reduceEq, decide_true, decide_false, Bool.not_true, Bool.not_false, nums_length, isi_ii, gAbs_int, Int.reduceAdd, Int.reduceSub, Int.reduceMul, Int.reduceNeg, Int.reduceLT, Int.reduceLE, r_ixO, r_trO, r_pop, r_rev, r_opN, r_ext, r_setIx, r_ch3, r_star, starOf, r_lc2, r_revT, r_notT, Option.map_some, List.isEmpty_cons, List.isEmpty_nil, a0, ed]) ?_
  refine st (s' := [.d (.lst (nums ns)), .d R, .d (.obj c.Spans spanNames V), .no, .no, .no, .no, .no, .no, .no, .no]) (by simp only [r_seq, r_ex, r_set, r_setN, r_drop, r_ret, r_if, r_frz, r_frzS, r_next, r_op, r_fun1, r_call, r_callN, r_cons, r_nil, r_var, r_c, r_bl, r_tr, r_not, r_andB, r_orB, r_andV, r_notV, r_ifE, r_chain, r_lst, r_tup, r_sz, r_own, r_def, r_seqOf, r_lc, r_app, r_fld, r_meth, r_peek, r_enum, szOk, blOf, truD, seqOf, wipeS, lfts, bndo, bnde, getz, getS, setz, setS, List.map_cons, List.map_nil, List.cons_append, List.nil_append, List.replicate, List.length_cons, List.length_nil, if_true, gInt, gTuple, gLen, Nat.reduceAdd, Nat.reduceLeDiff, giName, r_orV, r_slT, r_slL, r_part, r_noPart, gAdd_int, gSub_int, gLt_int, gLe_int, gGt_int, gGe_int, gNeg_int, gEq_int, gNe_int, gMod_int, gDiv_int, gMul_r, ixL0, ixL1, ixL2, ixL3, ixL4, ixL5, ixL6, ixL7, ixL8, ixL9, ixL10, ixL11, ixL12, ixL13, ixT0, ixT1, ixT2, ixT3, ixT4, ixT5, ixT6, ixT7, ixT8, ixT9, ixT10, and_self, Int.cast_ofNat_Int, Int.reduceEq, decide_true, decide_false, Bool.not_true, Bool.not_false, nums_length, isi_ii, gAbs_int, Int.reduceAdd, Int.reduceSub, Int.reduceMul, Int.reduceNeg, Int.reduceLT, Int.reduceLE, r_ixO, r_trO, r_pop, r_rev, r_opN, r_ext, r_setIx, r_ch3, r_star, starOf, r_lc2, r_revT, r_notT, Option.map_some, List.isEmpty_cons, List.isEmpty_nil, i0, i1, i2, i3, fMake, e2, ei]) ?_
  refine st (s' := [.d (.lst (nums ns)), .d R, .d (.obj c.Spans spanNames V), .d (.tup [.tup (spsD h'), .int o', .int q, .tup (spsD l')]), .no, .no, .no, .no, .no, .no, .no]) (by simp only [r_seq, r_ex, r_set, r_setN, r_drop, r_ret, r_if, r_frz, r_frzS, r_next, r_op, r_fun1, r_call, r_callN, r_cons, r_nil, r_var, r_c, r_bl, r_tr, r_not, r_andB, r_orB, r_andV, r_notV, r_ifE, r_chain, r_lst, r_tup, r_sz, r_own, r_def, r_seqOf, r_lc, r_app, r_fld, r_meth, r_peek, r_enum, szOk, blOf, truD, seqOf, wipeS, lfts, bndo, bnde, getz, getS, setz, setS, List.map_cons, List.map_nil, List.cons_append, List.nil_append, List.replicate, List.length_cons, List.length_nil, if_true, gInt, gTuple, gLen, Nat.reduceAdd, Nat.reduceLeDiff, giName, r_orV, r_slT, r_slL, r_part, r_noPart, gAdd_int, gSub_int, gLt_int, gLe_int, gGt_int, gGe_int, gNeg_int, gEq_int, gNe_int, gMod_int, gDiv_int, gMul_r, ixL0, ixL1, ixL2, ixL3, ixL4, ixL5, ixL6, ixL7, ixL8, ixL9, ixL10, ixL11, ixL12, ixL13, ixT0, ixT1, ixT2, ixT3, ixT4, ixT5, ixT6, ixT7, ixT8, ixT9, ixT10, and_self, Int.cast_ofNat_Int, Int.reduceEq, decide_true, decide_false, Bool.not_true, Bool.not_false, nums_length, isi_ii, gAbs_int, Int.reduceAdd, Int.reduceSub, Int.reduceMul, Int.reduceNeg, Int.reduceLT, Int.reduceLE, r_ixO, r_trO, r_pop, r_rev, r_opN, r_ext, r_setIx, r_ch3, r_star, starOf, r_lc2, r_revT, r_notT, Option.map_some, List.isEmpty_cons, List.isEmpty_nil, k1, k2, k3, k4]) ?_
  obtain ⟨Z, hZ⟩ : ∃ X, X = D.tup [.tup (spsD h'), .int o', .int q, .tup (spsD l')] := ⟨_, rfl⟩
  have j0 : gIx Z (.int 0) = some (.tup (spsD h')) := by rw [hZ]; rfl
  have j1 : gIx Z (.int 1) = some (.int o') := by rw [hZ]; rfl
  have j2 : gIx Z (.int 2) = some (.int q) := by rw [hZ]; rfl
  have j3 : gIx Z (.int 3) = some (.tup (spsD l')) := by rw [hZ]; rfl
  have hZr : fTup (fCons (fFld c.Spans "head" (fVar 9)) (fCons (fFld c.Spans "since" (fVar 9)) (fCons (fFld c.Spans "period" (fVar 9)) (fCons (fFld c.Spans "cycle" (fVar 9)) fNil)))) [.d (.lst (nums ns)), .d R, .d (.obj c.Spans spanNames V), .d Z, .d (.int x), .no, .no, .no, .no, .d (.obj c.Spans spanNames V), .no] = some (.ok Z) := by
    rw [hZ]
    simp only [r_seq, r_ex, r_set, r_setN, r_drop, r_ret, r_if, r_frz, r_frzS, r_next, r_op, r_fun1, r_call, r_callN, r_cons, r_nil, r_var, r_c, r_bl, r_tr, r_not, r_andB, r_orB, r_andV, r_notV, r_ifE, r_chain, r_lst, r_tup, r_sz, r_own, r_def, r_seqOf, r_lc, r_app, r_fld, r_meth, r_peek, r_enum, szOk, blOf, truD, seqOf, wipeS, lfts, bndo, bnde, getz, getS, setz, setS, List.map_cons, List.map_nil, List.cons_append, List.nil_append, List.replicate, List.length_cons, List.length_nil, if_true, gInt, gTuple, gLen, Nat.reduceAdd, Nat.reduceLeDiff, giName, r_orV, r_slT, r_slL, r_part, r_noPart, gAdd_int, gSub_int, gLt_int, gLe_int, gGt_int, gGe_int, gNeg_int, gEq_int, gNe_int, gMod_int, gDiv_int, gMul_r, ixL0, ixL1, ixL2, ixL3, ixL4, ixL5, ixL6, ixL7, ixL8, ixL9, ixL10, ixL11, ixL12, ixL13, ixT0, ixT1, ixT2, ixT3, ixT4, ixT5, ixT6, ixT7, ixT8, ixT9, ixT10, and_self, Int.cast_ofNat_Int, Int.reduceEq, decide_true, decide_false, Bool.not_true, Bool.not_false, nums_length, isi_ii, gAbs_int, Int.reduceAdd, Int.reduceSub, Int.reduceMul, Int.reduceNeg, Int.reduceLT, Int.reduceLE, r_ixO, r_trO, r_pop, r_rev, r_opN, r_ext, r_setIx, r_ch3, r_star, starOf, r_lc2, r_revT, r_notT, Option.map_some, List.isEmpty_cons, List.isEmpty_nil, k1, k2, k3, k4]
  rw [← hZ]
  rw [← hZ] at fin
  simp only [← hZ] at hin2
  have c1 : ¬ o' < 0 := by omega
  have c2 : ¬ q < 1 := by omega
  have c3 : ¬ p < q := by omega
  refine st (s' := [.d (.lst (nums ns)), .d R, .d (.obj c.Spans spanNames V), .d Z, .no, .no, .no, .no, .no, .no, .no]) (by simp only [r_seq, r_ex, r_set, r_setN, r_drop, r_ret, r_if, r_frz, r_frzS, r_next, r_op, r_fun1, r_call, r_callN, r_cons, r_nil, r_var, r_c, r_bl, r_tr, r_not, r_andB, r_orB, r_andV, r_notV, r_ifE, r_chain, r_lst, r_tup, r_sz, r_own, r_def, r_seqOf, r_lc, r_app, r_fld, r_meth, r_peek, r_enum, szOk, blOf, truD, seqOf, wipeS, lfts, bndo, bnde, getz, getS, setz, setS, List.map_cons, List.map_nil, List.cons_append, List.nil_append, List.replicate, List.length_cons, List.length_nil, if_true, gInt, gTuple, gLen, Nat.reduceAdd, Nat.reduceLeDiff, giName, r_orV, r_slT, r_slL, r_part, r_noPart, gAdd_int, gSub_int, gLt_int, gLe_int, gGt_int, gGe_int, gNeg_int, gEq_int, gNe_int, gMod_int, gDiv_int, gMul_r, ixL0, ixL1, ixL2, ixL3, ixL4, ixL5, ixL6, ixL7, ixL8, ixL9, ixL10, ixL11, ixL12, ixL13, ixT0, ixT1, ixT2, ixT3, ixT4, ixT5, ixT6, ixT7, ixT8, ixT9, ixT10, and_self, Int.cast_ofNat_Int, Int.reduceEq, decide_true, decide_false, Bool.not_true, Bool.not_false, nums_length, isi_ii, gAbs_int, Int.reduceAdd, Int.reduceSub, Int.reduceMul, Int.reduceNeg, Int.reduceLT, Int.reduceLE, r_ixO, r_trO, r_pop, r_rev, r_opN, r_ext, r_setIx, r_ch3, r_star, starOf, r_lc2, r_revT, r_notT, Option.map_some, List.isEmpty_cons, List.isEmpty_nil, j1, j2, c1, c2]) ?_
  refine st (s' := [.d (.lst (nums ns)), .d R, .d (.obj c.Spans spanNames V), .d Z, .no, .no, .no, .no, .no, .no, .no]) (by simp only [r_seq, r_ex, r_set, r_setN, r_drop, r_ret, r_if, r_frz, r_frzS, r_next, r_op, r_fun1, r_call, r_callN, r_cons, r_nil, r_var, r_c, r_bl, r_tr, r_not, r_andB, r_orB, r_andV, r_notV, r_ifE, r_chain, r_lst, r_tup, r_sz, r_own, r_def, r_seqOf, r_lc, r_app, r_fld, r_meth, r_peek, r_enum, szOk, blOf, truD, seqOf, wipeS, lfts, bndo, bnde, getz, getS, setz, setS, List.map_cons, List.map_nil, List.cons_append, List.nil_append, List.replicate, List.length_cons, List.length_nil, if_true, gInt, gTuple, gLen, Nat.reduceAdd, Nat.reduceLeDiff, giName, r_orV, r_slT, r_slL, r_part, r_noPart, gAdd_int, gSub_int, gLt_int, gLe_int, gGt_int, gGe_int, gNeg_int, gEq_int, gNe_int, gMod_int, gDiv_int, gMul_r, ixL0, ixL1, ixL2, ixL3, ixL4, ixL5, ixL6, ixL7, ixL8, ixL9, ixL10, ixL11, ixL12, ixL13, ixT0, ixT1, ixT2, ixT3, ixT4, ixT5, ixT6, ixT7, ixT8, ixT9, ixT10, and_self, Int.cast_ofNat_Int, Int.reduceEq, decide_true, decide_false, Bool.not_true, Bool.not_false, nums_length, isi_ii, gAbs_int, Int.reduceAdd, Int.reduceSub, Int.reduceMul, Int.reduceNeg, Int.reduceLT, Int.reduceLE, r_ixO, r_trO, r_pop, r_rev, r_opN, r_ext, r_setIx, r_ch3, r_star, starOf, r_lc2, r_revT, r_notT, Option.map_some, List.isEmpty_cons, List.isEmpty_nil, j0, j1, j2, j3, i2, et1, et2, c3]) ?_
  refine st (s' := [.d (.lst (nums ns)), .d R, .d (.obj c.Spans spanNames V), .d Z, .d (.int x), .no, .no, .no, .no, .no, .no]) (by simp only [r_seq, r_ex, r_set, r_setN, r_drop, r_ret, r_if, r_frz, r_frzS, r_next, r_op, r_fun1, r_call, r_callN, r_cons, r_nil, r_var, r_c, r_bl, r_tr, r_not, r_andB, r_orB, r_andV, r_notV, r_ifE, r_chain, r_lst, r_tup, r_sz, r_own, r_def, r_seqOf, r_lc, r_app, r_fld, r_meth, r_peek, r_enum, szOk, blOf, truD, seqOf, wipeS, lfts, bndo, bnde, getz, getS, setz, setS, List.map_cons, List.map_nil, List.cons_append, List.nil_append, List.replicate, List.length_cons, List.length_nil, if_true, gInt, gTuple, gLen, Nat.reduceAdd, Nat.reduceLeDiff, giName, r_orV, r_slT, r_slL, r_part, r_noPart, gAdd_int, gSub_int, gLt_int, gLe_int, gGt_int, gGe_int, gNeg_int, gEq_int, gNe_int, gMod_int, gDiv_int, gMul_r, ixL0, ixL1, ixL2, ixL3, ixL4, ixL5, ixL6, ixL7, ixL8, ixL9, ixL10, ixL11, ixL12, ixL13, ixT0, ixT1, ixT2, ixT3, ixT4, ixT5, ixT6, ixT7, ixT8, ixT9, ixT10, and_self, Int.cast_ofNat_Int, Int.reduceEq, decide_true, decide_false, Bool.not_true, Bool.not_false, nums_length, isi_ii, gAbs_int, Int.reduceAdd, Int.reduceSub, Int.reduceMul, Int.reduceNeg, Int.reduceLT, Int.reduceLE, r_ixO, r_trO, r_pop, r_rev, r_opN, r_ext, r_setIx, r_ch3, r_star, starOf, r_lc2, r_revT, r_notT, Option.map_some, List.isEmpty_cons, List.isEmpty_nil, a1, e60, ex]) ?_
  refine st_rel (p := fun s => ∃ y : Sl, s = [.d (.lst (nums ns)), .d R, .d (.obj c.Spans spanNames V), .d Z, .d (.int x), y, .no, .no, .no, .no, .no]) ?_ ?_
  · obtain ⟨M, hM⟩ : ∃ M : Nat, o + 2 * p + 2 = M := ⟨(o + 2 * p + 2).toNat, by omega⟩
    have em : gMul (.int 2) (.int p) = some (.int (2 * p)) := gMul_l (by decide) (by decide)
    have er : gRng [.int (o + 2 * p + 2)] = some ((List.range M).map fun k : Nat => .int (k : Nat)) := by rw [hM]; exact gRng1 (by omega)
    have hlen : ((List.range M).map fun k : Nat => D.int (k : Nat)).length ≤ 100000 := by rw [List.length_map, List.length_range]; omega
    have hrow : lcF (giName 10) fYes (fVar 10) [.d (.lst (nums ns)), .d R, .d (.obj c.Spans spanNames V), .d Z, .d (.int x), .no, .no, .no, .no, .no, .no] ((List.range M).map fun k : Nat => .int (k : Nat)) = some ((List.range M).map fun k : Nat => .int (k : Nat)) := lcF_nmA (fun k : Nat => D.int (k : Nat)) (fun k : Nat => D.int (k : Nat)) (List.range M) fun k _ => by simp only [r_seq, r_ex, r_set, r_setN, r_drop, r_ret, r_if, r_frz, r_frzS, r_next, r_op, r_fun1, r_call, r_callN, r_cons, r_nil, r_var, r_c, r_bl, r_tr, r_not, r_andB, r_orB, r_andV, r_notV, r_ifE, r_chain, r_lst, r_tup, r_sz, r_own, r_def, r_seqOf, r_lc, r_app, r_fld, r_meth, r_peek, r_enum, szOk, blOf, truD, seqOf, wipeS, lfts, bndo, bnde, getz, getS, setz, setS, List.map_cons, List.map_nil, List.cons_append, List.nil_append, List.replicate, List.length_cons, List.length_nil, if_true, gInt, gTuple, gLen, Nat.reduceAdd, Nat.reduceLeDiff, giName, r_orV, r_slT, r_slL, r_part, r_noPart, gAdd_int, gSub_int, gLt_int, gLe_int, gGt_int, gGe_int, gNeg_int, gEq_int, gNe_int, gMod_int, gDiv_int, gMul_r, ixL0, ixL1, ixL2, ixL3, ixL4, ixL5, ixL6, ixL7, ixL8, ixL9, ixL10, ixL11, ixL12, ixL13, ixT0, ixT1, ixT2, ixT3, ixT4, ixT5, ixT6, ixT7, ixT8, ixT9, ixT10, and_self, Int.cast_ofNat_Int, Int.reduceEq, decide_true, decide_false, Bool.not_true, Bool.not_false, nums_length, isi_ii, gAbs_int, Int.reduceAdd, Int.reduceSub, Int.reduceMul, Int.reduceNeg, Int.reduceLT, Int.reduceLE, r_ixO, r_trO, r_pop, r_rev, r_opN, r_ext, r_setIx, r_ch3, r_star, starOf, r_lc2, r_revT, r_notT, Option.map_some, List.isEmpty_cons, List.isEmpty_nil]
    have eN : ((List.range M).map fun k : Nat => D.int (k : Nat)) = nums ((List.range M).map fun k : Nat => (k : Int)) := by unfold nums; rw [List.map_map]; rfl
    have ecat : gCatL (.lst [.int x]) (.lst ((List.range M).map fun k : Nat => .int (k : Nat))) = some (nums (x :: (List.range M).map fun k : Nat => (k : Int))) := by
      rw [eN]
      exact gCatL_nums [x] _ (by rw [List.length_map, List.length_range]; simp only [List.length_cons, List.length_nil]; omega)
    have L := loop_int (gi := giName 5) (b := (fIfS (fBl (fop gNe (fOwn 2 (G__law_in c) (fCons (fVar 3) (fCons (fVar 5) fNil))) (fOwn 2 (G__law_in c) (fCons (fVar 1) (fCons (fVar 5) fNil))))) (fRet (fC (.bl false))) fNext)) (x :: (List.range M).map fun k : Nat => (k : Int)) (fun _ s => ∃ y : Sl, s = [.d (.lst (nums ns)), .d R, .d (.obj c.Spans spanNames V), .d Z, .d (.int x), y, .no, .no, .no, .no, .no]) [.d (.lst (nums ns)), .d R, .d (.obj c.Spans spanNames V), .d Z, .d (.int x), .no, .no, .no, .no, .no, .no] (by
      rintro i w s hw ⟨y, rfl⟩
      have e5 := hin w
      have e6 := hin2 w
      rw [hmem] at e6
      have ne : decide (mem4 h o p l w = mem4 h o p l w) = true := decide_eq_true rfl
      exact ⟨_, [.d (.lst (nums ns)), .d R, .d (.obj c.Spans spanNames V), .d Z, .d (.int x), .d (.int w), .no, .no, .no, .no, .no], rfl, by simp only [r_seq, r_ex, r_set, r_setN, r_drop, r_ret, r_if, r_frz, r_frzS, r_next, r_op, r_fun1, r_call, r_callN, r_cons, r_nil, r_var, r_c, r_bl, r_tr, r_not, r_andB, r_orB, r_andV, r_notV, r_ifE, r_chain, r_lst, r_tup, r_sz, r_own, r_def, r_seqOf, r_lc, r_app, r_fld, r_meth, r_peek, r_enum, szOk, blOf, truD, seqOf, wipeS, lfts, bndo, bnde, getz, getS, setz, setS, List.map_cons, List.map_nil, List.cons_append, List.nil_append, List.replicate, List.length_cons, List.length_nil, if_true, gInt, gTuple, gLen, Nat.reduceAdd, Nat.reduceLeDiff, giName, r_orV, r_slT, r_slL, r_part, r_noPart, gAdd_int, gSub_int, gLt_int, gLe_int, gGt_int, gGe_int, gNeg_int, gEq_int, gNe_int, gMod_int, gDiv_int, gMul_r, ixL0, ixL1, ixL2, ixL3, ixL4, ixL5, ixL6, ixL7, ixL8, ixL9, ixL10, ixL11, ixL12, ixL13, ixT0, ixT1, ixT2, ixT3, ixT4, ixT5, ixT6, ixT7, ixT8, ixT9, ixT10, and_self, Int.cast_ofNat_Int, Int.reduceEq, decide_true, decide_false, Bool.not_true, Bool.not_false, nums_length, isi_ii, gAbs_int, Int.reduceAdd, Int.reduceSub, Int.reduceMul, Int.reduceNeg, Int.reduceLT, Int.reduceLE, r_ixO, r_trO, r_pop, r_rev, r_opN, r_ext, r_setIx, r_ch3, r_star, starOf, r_lc2, r_revT, r_notT, Option.map_some, List.isEmpty_cons, List.isEmpty_nil, e5, e6, gNe_bl, ne], _, rfl⟩) ⟨_, rfl⟩
    obtain ⟨s', L1, L2⟩ := L
    refine ⟨s', ?_, L2⟩
    rw [← L1]
    generalize nums (x :: (List.range M).map fun k : Nat => (k : Int)) = LL at *
    generalize ((List.range M).map fun k : Nat => D.int (k : Nat)) = LM at *
    simp only [r_seq, r_ex, r_set, r_setN, r_drop, r_ret, r_if, r_frz, r_frzS, r_next, r_op, r_fun1, r_call, r_callN, r_cons, r_nil, r_var, r_c, r_bl, r_tr, r_not, r_andB, r_orB, r_andV, r_notV, r_ifE, r_chain, r_lst, r_tup, r_sz, r_own, r_def, r_seqOf, r_lc, r_app, r_fld, r_meth, r_peek, r_enum, szOk, blOf, truD, seqOf, wipeS, lfts, bndo, bnde, getz, getS, setz, setS, List.map_cons, List.map_nil, List.cons_append, List.nil_append, List.replicate, List.length_cons, List.length_nil, if_true, gInt, gTuple, gLen, Nat.reduceAdd, Nat.reduceLeDiff, giName, r_orV, r_slT, r_slL, r_part, r_noPart, gAdd_int, gSub_int, gLt_int, gLe_int, gGt_int, gGe_int, gNeg_int, gEq_int, gNe_int, gMod_int, gDiv_int, gMul_r, ixL0, ixL1, ixL2, ixL3, ixL4, ixL5, ixL6, ixL7, ixL8, ixL9, ixL10, ixL11, ixL12, ixL13, ixT0, ixT1, ixT2, ixT3, ixT4, ixT5, ixT6, ixT7, ixT8, ixT9, ixT10, and_self, Int.cast_ofNat_Int, Int.reduceEq, decide_true, decide_false, Bool.not_true, Bool.not_false, nums_length, isi_ii, gAbs_int, Int.reduceAdd, Int.reduceSub, Int.reduceMul, Int.reduceNeg, Int.reduceLT, Int.reduceLE, r_ixO, r_trO, r_pop, r_rev, r_opN, r_ext, r_setIx, r_ch3, r_star, starOf, r_lc2, r_revT, r_notT, Option.map_some, List.isEmpty_cons, List.isEmpty_nil, r_for, i1, i2, em, er, hlen, hrow, ecat]
  rintro s ⟨y, rfl⟩
  refine st (s' := [.d (.lst (nums ns)), .d R, .d (.obj c.Spans spanNames V), .d Z, .d (.int x), y, .no, .no, .no, .no, .no]) ?_ ?_
  · by_cases g : 0 < o'
    · have e5 := hin2 (o' - 1)
      have e6 := hin2 (o' - 1 + q)
      have v5 : mem4 h' o' q l' (o' - 1) = hitS h' (o' - 1) := by unfold mem4; rw [if_pos (by omega)]
      have v6 : mem4 h' o' q l' (o' - 1 + q) = cyc o' q l' (o' - 1) := by
        unfold mem4
        rw [if_neg (by omega)]
        have := cyc_turn o' q 1 (o' - 1) l'
        rw [Int.one_mul] at this
        exact this
      rw [v5] at e5
      rw [v6] at e6
      have ne : decide (hitS h' (o' - 1) = cyc o' q l' (o' - 1)) = false := decide_eq_false (edge g)
      simp only [r_seq, r_ex, r_set, r_setN, r_drop, r_ret, r_if, r_frz, r_frzS, r_next, r_op, r_fun1, r_call, r_callN, r_cons, r_nil, r_var, r_c, r_bl, r_tr, r_not, r_andB, r_orB, r_andV, r_notV, r_ifE, r_chain, r_lst, r_tup, r_sz, r_own, r_def, r_seqOf, r_lc, r_app, r_fld, r_meth, r_peek, r_enum, szOk, blOf, truD, seqOf, wipeS, lfts, bndo, bnde, getz, getS, setz, setS, List.map_cons, List.map_nil, List.cons_append, List.nil_append, List.replicate, List.length_cons, List.length_nil, if_true, gInt, gTuple, gLen, Nat.reduceAdd, Nat.reduceLeDiff, giName, r_orV, r_slT, r_slL, r_part, r_noPart, gAdd_int, gSub_int, gLt_int, gLe_int, gGt_int, gGe_int, gNeg_int, gEq_int, gNe_int, gMod_int, gDiv_int, gMul_r, ixL0, ixL1, ixL2, ixL3, ixL4, ixL5, ixL6, ixL7, ixL8, ixL9, ixL10, ixL11, ixL12, ixL13, ixT0, ixT1, ixT2, ixT3, ixT4, ixT5, ixT6, ixT7, ixT8, ixT9, ixT10, and_self, Int.cast_ofNat_Int, Int.reduceEq, decide_true, decide_false, Bool.not_true, Bool.not_false, nums_length, isi_ii, gAbs_int, Int.reduceAdd, Int.reduceSub, Int.reduceMul, Int.reduceNeg, Int.reduceLT, Int.reduceLE, r_ixO, r_trO, r_pop, r_rev, r_opN, r_ext, r_setIx, r_ch3, r_star, starOf, r_lc2, r_revT, r_notT, Option.map_some, List.isEmpty_cons, List.isEmpty_nil, j1, j2, g, e5, e6, gEq_bl, ne]
    · simp only [r_seq, r_ex, r_set, r_setN, r_drop, r_ret, r_if, r_frz, r_frzS, r_next, r_op, r_fun1, r_call, r_callN, r_cons, r_nil, r_var, r_c, r_bl, r_tr, r_not, r_andB, r_orB, r_andV, r_notV, r_ifE, r_chain, r_lst, r_tup, r_sz, r_own, r_def, r_seqOf, r_lc, r_app, r_fld, r_meth, r_peek, r_enum, szOk, blOf, truD, seqOf, wipeS, lfts, bndo, bnde, getz, getS, setz, setS, List.map_cons, List.map_nil, List.cons_append, List.nil_append, List.replicate, List.length_cons, List.length_nil, if_true, gInt, gTuple, gLen, Nat.reduceAdd, Nat.reduceLeDiff, giName, r_orV, r_slT, r_slL, r_part, r_noPart, gAdd_int, gSub_int, gLt_int, gLe_int, gGt_int, gGe_int, gNeg_int, gEq_int, gNe_int, gMod_int, gDiv_int, gMul_r, ixL0, ixL1, ixL2, ixL3, ixL4, ixL5, ixL6, ixL7, ixL8, ixL9, ixL10, ixL11, ixL12, ixL13, ixT0, ixT1, ixT2, ixT3, ixT4, ixT5, ixT6, ixT7, ixT8, ixT9, ixT10, and_self, Int.cast_ofNat_Int, Int.reduceEq, decide_true, decide_false, Bool.not_true, Bool.not_false, nums_length, isi_ii, gAbs_int, Int.reduceAdd, Int.reduceSub, Int.reduceMul, Int.reduceNeg, Int.reduceLT, Int.reduceLE, r_ixO, r_trO, r_pop, r_rev, r_opN, r_ext, r_setIx, r_ch3, r_star, starOf, r_lc2, r_revT, r_notT, Option.map_some, List.isEmpty_cons, List.isEmpty_nil, j1, g]
  refine st_rel (p := fun s => ∃ y6 y7 y8 : Sl, s = [.d (.lst (nums ns)), .d R, .d (.obj c.Spans spanNames V), .d Z, .d (.int x), y, y6, y7, y8, .no, .no]) ?_ ?_
  · have eg := gRngW2 (a := 2) (n := (q - 1).toNat) (by omega)
    rw [show (2 : Int) + (((q - 1).toNat : Nat) : Int) = q + 1 by omega] at eg
    obtain ⟨Q, hQ⟩ : ∃ Q : Nat, q = Q := ⟨q.toNat, by omega⟩
    have erq : gRng [.int q] = some ((List.range Q).map fun k : Nat => .int (k : Nat)) := by rw [hQ]; exact gRng1 (by omega)
    have hlen : ((List.range Q).map fun k : Nat => D.int (k : Nat)).length ≤ 100000 := by rw [List.length_map, List.length_range]; omega
    simp only [r_for, r_callN, r_cons, r_nil, r_op, r_c, r_var, getz, getS, lfts, bndo, j2, gAdd_int, eg]
    refine loop_int _ (fun _ s => ∃ y6 y7 y8 : Sl, s = [.d (.lst (nums ns)), .d R, .d (.obj c.Spans spanNames V), .d Z, .d (.int x), y, y6, y7, y8, .no, .no]) _ ?_ ⟨_, _, _, rfl⟩
    rintro i w s hw ⟨y6, y7, y8, rfl⟩
    obtain ⟨hi, hw⟩ := List.getElem?_eq_some_iff.mp hw
    rw [List.getElem_map, List.getElem_range] at hw
    rw [List.length_map, List.length_range] at hi
    have emod : gMod (.int q) (.int w) = some (.int (q % w)) := by rw [gMod_int (by omega)]
    by_cases g : q % w = 0
    · have ediv : gDiv (.int q) (.int w) = some (.int (q / w)) := by rw [gDiv_int (by omega) (by omega)]
      have hdv := Int.mul_ediv_add_emod q w
      rw [g, Int.add_zero] at hdv
      have u1 : 1 ≤ q / w := by
        rcases Int.lt_or_le (q / w) 1 with z | z
        · have := Int.ediv_nonneg (show 0 ≤ q by omega) (show 0 ≤ w by omega)
          have z0 : q / w = 0 := by omega
          rw [z0, Int.mul_zero] at hdv
          omega
        · exact z
      have u2 : q / w < q := by
        have : 2 * (q / w) ≤ w * (q / w) := Int.mul_le_mul_of_nonneg_right (by omega) (by omega)
        omega
      generalize q / w = u at *
      have row : lcF (giName 10) (fBl (fop gNe (fOwn 2 (G__law_hit c) (fCons (fop gIx (fVar 3) (fC (.int 3))) (fCons (fVar 10) fNil))) (fOwn 2 (G__law_hit c) (fCons (fop gIx (fVar 3) (fC (.int 3))) (fCons (fop gMod (fcall gInt (fCons (fop gAdd (fVar 10) (fVar 7)) fNil)) (fop gIx (fVar 3) (fC (.int 2)))) fNil))))) (fVar 10) [.d (.lst (nums ns)), .d R, .d (.obj c.Spans spanNames V), .d Z, .d (.int x), y, .d (.int w), .d (.int u), y8, .no, .no] ((List.range Q).map fun k : Nat => .int (k : Nat)) = some (((List.range Q).filter fun k : Nat => !decide (hitS l' (k : Int) = hitS l' (((k : Int) + u) % q))).map fun k : Nat => D.int (k : Nat)) := by
        refine lcF_nm (fun k : Nat => D.int (k : Nat)) (fun k : Nat => !decide (hitS l' (k : Int) = hitS l' (((k : Int) + u) % q))) (fun k : Nat => D.int (k : Nat)) (List.range Q) fun k hk => ?_
        have emk : gMod (.int ((k : Int) + u)) (.int q) = some (.int (((k : Int) + u) % q)) := by rw [gMod_int (by omega)]
        refine ⟨?_, fun _ => by simp only [r_seq, r_ex, r_set, r_setN, r_drop, r_ret, r_if, r_frz, r_frzS, r_next, r_op, r_fun1, r_call, r_callN, r_cons, r_nil, r_var, r_c, r_bl, r_tr, r_not, r_andB, r_orB, r_andV, r_notV, r_ifE, r_chain, r_lst, r_tup, r_sz, r_own, r_def, r_seqOf, r_lc, r_app, r_fld, r_meth, r_peek, r_enum, szOk, blOf, truD, seqOf, wipeS, lfts, bndo, bnde, getz, getS, setz, setS, List.map_cons, List.map_nil, List.cons_append, List.nil_append, List.replicate, List.length_cons, List.length_nil, if_true, gInt, gTuple, gLen, Nat.reduceAdd, Nat.reduceLeDiff, giName, r_orV, r_slT, r_slL, r_part, r_noPart, gAdd_int, gSub_int, gLt_int, gLe_int, gGt_int, gGe_int, gNeg_int, gEq_int, gNe_int, gMod_int, gDiv_int, gMul_r, ixL0, ixL1, ixL2, ixL3, ixL4, ixL5, ixL6, ixL7, ixL8, ixL9, ixL10, ixL11, ixL12, ixL13, ixT0, ixT1, ixT2, ixT3, ixT4, ixT5, ixT6, ixT7, ixT8, ixT9, ixT10, and_self, Int.cast_ofNat_Int, Int.reduceEq, decide_true, decide_false, Bool.not_true, Bool.not_false, nums_length, isi_ii, gAbs_int, Int.reduceAdd, Int.reduceSub, Int.reduceMul, Int.reduceNeg, Int.reduceLT, Int.reduceLE, r_ixO, r_trO, r_pop, r_rev, r_opN, r_ext, r_setIx, r_ch3, r_star, starOf, r_lc2, r_revT, r_notT, Option.map_some, List.isEmpty_cons, List.isEmpty_nil]⟩
        simp only [r_seq, r_ex, r_set, r_setN, r_drop, r_ret, r_if, r_frz, r_frzS, r_next, r_op, r_fun1, r_call, r_callN, r_cons, r_nil, r_var, r_c, r_bl, r_tr, r_not, r_andB, r_orB, r_andV, r_notV, r_ifE, r_chain, r_lst, r_tup, r_sz, r_own, r_def, r_seqOf, r_lc, r_app, r_fld, r_meth, r_peek, r_enum, szOk, blOf, truD, seqOf, wipeS, lfts, bndo, bnde, getz, getS, setz, setS, List.map_cons, List.map_nil, List.cons_append, List.nil_append, List.replicate, List.length_cons, List.length_nil, if_true, gInt, gTuple, gLen, Nat.reduceAdd, Nat.reduceLeDiff, giName, r_orV, r_slT, r_slL, r_part, r_noPart, gAdd_int, gSub_int, gLt_int, gLe_int, gGt_int, gGe_int, gNeg_int, gEq_int, gNe_int, gMod_int, gDiv_int, gMul_r, ixL0, ixL1, ixL2, ixL3, ixL4, ixL5, ixL6, ixL7, ixL8, ixL9, ixL10, ixL11, ixL12, ixL13, ixT0, ixT1, ixT2, ixT3, ixT4, ixT5, ixT6, ixT7, ixT8, ixT9, ixT10, and_self, Int.cast_ofNat_Int, Int.reduceEq, decide_true, decide_false, Bool.not_true, Bool.not_false, nums_length, isi_ii, gAbs_int, Int.reduceAdd, Int.reduceSub, Int.reduceMul, Int.reduceNeg, Int.reduceLT, Int.reduceLE, r_ixO, r_trO, r_pop, r_rev, r_opN, r_ext, r_setIx, r_ch3, r_star, starOf, r_lc2, r_revT, r_notT, Option.map_some, List.isEmpty_cons, List.isEmpty_nil, j2, j3, emk, hhit, gNe_bl]
      have hne : ∃ k ks, ((List.range Q).filter fun k : Nat => !decide (hitS l' (k : Int) = hitS l' (((k : Int) + u) % q))) = k :: ks := by
        cases e : ((List.range Q).filter fun k : Nat => !decide (hitS l' (k : Int) = hitS l' (((k : Int) + u) % q))) with
        | cons k ks => exact ⟨k, ks, rfl⟩
        | nil =>
          exfalso
          have all := List.filter_eq_nil_iff.mp e
          have := least u u1 fun t => by
            have m0 := Int.emod_nonneg t (show q ≠ 0 by omega)
            have m1 := Int.emod_lt_of_pos t (show 0 < q by omega)
            have h1 := all (t % q).toNat (List.mem_range.mpr (by omega))
            have h2 : hitS l' (t % q) = hitS l' ((t % q + u) % q) := by
              have h3 : (((t % q).toNat : Nat) : Int) = t % q := by omega
              rw [h3] at h1
              simpa using h1
            unfold cyc
            rw [Int.sub_zero, Int.sub_zero, h2, Int.emod_add_emod]
          omega
      obtain ⟨k, ks, ek⟩ := hne
      rw [ek] at row
      have en : (k :: ks).map (fun k : Nat => D.int (k : Nat)) = nums ((k : Int) :: ks.map fun k : Nat => (k : Int)) := by unfold nums; rw [List.map_cons, List.map_cons, List.map_map]; rfl
      rw [en] at row
      have enil := gEq_Lnil (k : Int) (ks.map fun k : Nat => (k : Int))
      generalize nums ((k : Int) :: ks.map fun k : Nat => (k : Int)) = LK at *
      generalize ((List.range Q).map fun k : Nat => D.int (k : Nat)) = LQ at *
      refine ⟨_, [.d (.lst (nums ns)), .d R, .d (.obj c.Spans spanNames V), .d Z, .d (.int x), y, .d (.int w), .d (.int u), .d (.lst LK), .no, .no], rfl, ?_, _, _, _, rfl⟩
      simp only [r_seq, r_ex, r_set, r_setN, r_drop, r_ret, r_if, r_frz, r_frzS, r_next, r_op, r_fun1, r_call, r_callN, r_cons, r_nil, r_var, r_c, r_bl, r_tr, r_not, r_andB, r_orB, r_andV, r_notV, r_ifE, r_chain, r_lst, r_tup, r_sz, r_own, r_def, r_seqOf, r_lc, r_app, r_fld, r_meth, r_peek, r_enum, szOk, blOf, truD, seqOf, wipeS, lfts, bndo, bnde, getz, getS, setz, setS, List.map_cons, List.map_nil, List.cons_append, List.nil_append, List.replicate, List.length_cons, List.length_nil, if_true, gInt, gTuple, gLen, Nat.reduceAdd, Nat.reduceLeDiff, giName, r_orV, r_slT, r_slL, r_part, r_noPart, gAdd_int, gSub_int, gLt_int, gLe_int, gGt_int, gGe_int, gNeg_int, gEq_int, gNe_int, gMod_int, gDiv_int, gMul_r, ixL0, ixL1, ixL2, ixL3, ixL4, ixL5, ixL6, ixL7, ixL8, ixL9, ixL10, ixL11, ixL12, ixL13, ixT0, ixT1, ixT2, ixT3, ixT4, ixT5, ixT6, ixT7, ixT8, ixT9, ixT10, and_self, Int.cast_ofNat_Int, Int.reduceEq, decide_true, decide_false, Bool.not_true, Bool.not_false, nums_length, isi_ii, gAbs_int, Int.reduceAdd, Int.reduceSub, Int.reduceMul, Int.reduceNeg, Int.reduceLT, Int.reduceLE, r_ixO, r_trO, r_pop, r_rev, r_opN, r_ext, r_setIx, r_ch3, r_star, starOf, r_lc2, r_revT, r_notT, Option.map_some, List.isEmpty_cons, List.isEmpty_nil, j2, emod, g, ediv, erq, hlen, row, enil]
    · refine ⟨_, [.d (.lst (nums ns)), .d R, .d (.obj c.Spans spanNames V), .d Z, .d (.int x), y, .d (.int w), y7, y8, .no, .no], rfl, ?_, _, _, _, rfl⟩
      simp only [r_seq, r_ex, r_set, r_setN, r_drop, r_ret, r_if, r_frz, r_frzS, r_next, r_op, r_fun1, r_call, r_callN, r_cons, r_nil, r_var, r_c, r_bl, r_tr, r_not, r_andB, r_orB, r_andV, r_notV, r_ifE, r_chain, r_lst, r_tup, r_sz, r_own, r_def, r_seqOf, r_lc, r_app, r_fld, r_meth, r_peek, r_enum, szOk, blOf, truD, seqOf, wipeS, lfts, bndo, bnde, getz, getS, setz, setS, List.map_cons, List.map_nil, List.cons_append, List.nil_append, List.replicate, List.length_cons, List.length_nil, if_true, gInt, gTuple, gLen, Nat.reduceAdd, Nat.reduceLeDiff, giName, r_orV, r_slT, r_slL, r_part, r_noPart, gAdd_int, gSub_int, gLt_int, gLe_int, gGt_int, gGe_int, gNeg_int, gEq_int, gNe_int, gMod_int, gDiv_int, gMul_r, ixL0, ixL1, ixL2, ixL3, ixL4, ixL5, ixL6, ixL7, ixL8, ixL9, ixL10, ixL11, ixL12, ixL13, ixT0, ixT1, ixT2, ixT3, ixT4, ixT5, ixT6, ixT7, ixT8, ixT9, ixT10, and_self, Int.cast_ofNat_Int, Int.reduceEq, decide_true, decide_false, Bool.not_true, Bool.not_false, nums_length, isi_ii, gAbs_int, Int.reduceAdd, Int.reduceSub, Int.reduceMul, Int.reduceNeg, Int.reduceLT, Int.reduceLE, r_ixO, r_trO, r_pop, r_rev, r_opN, r_ext, r_setIx, r_ch3, r_star, starOf, r_lc2, r_revT, r_notT, Option.map_some, List.isEmpty_cons, List.isEmpty_nil, j2, emod, g]
  rintro s ⟨y6, y7, y8, rfl⟩
  refine st (s' := [.d (.lst (nums ns)), .d R, .d (.obj c.Spans spanNames V), .d Z, .d (.int x), y, y6, y7, y8, .d (.obj c.Spans spanNames V), .no]) (by simp only [r_seq, r_ex, r_set, r_setN, r_drop, r_ret, r_if, r_frz, r_frzS, r_next, r_op, r_fun1, r_call, r_callN, r_cons, r_nil, r_var, r_c, r_bl, r_tr, r_not, r_andB, r_orB, r_andV, r_notV, r_ifE, r_chain, r_lst, r_tup, r_sz, r_own, r_def, r_seqOf, r_lc, r_app, r_fld, r_meth, r_peek, r_enum, szOk, blOf, truD, seqOf, wipeS, lfts, bndo, bnde, getz, getS, setz, setS, List.map_cons, List.map_nil, List.cons_append, List.nil_append, List.replicate, List.length_cons, List.length_nil, if_true, gInt, gTuple, gLen, Nat.reduceAdd, Nat.reduceLeDiff, giName, r_orV, r_slT, r_slL, r_part, r_noPart, gAdd_int, gSub_int, gLt_int, gLe_int, gGt_int, gGe_int, gNeg_int, gEq_int, gNe_int, gMod_int, gDiv_int, gMul_r, ixL0, ixL1, ixL2, ixL3, ixL4, ixL5, ixL6, ixL7, ixL8, ixL9, ixL10, ixL11, ixL12, ixL13, ixT0, ixT1, ixT2, ixT3, ixT4, ixT5, ixT6, ixT7, ixT8, ixT9, ixT10, and_self, Int.cast_ofNat_Int, Int.reduceEq, decide_true, decide_false, Bool.not_true, Bool.not_false, nums_length, isi_ii, gAbs_int, Int.reduceAdd, Int.reduceSub, Int.reduceMul, Int.reduceNeg, Int.reduceLT, Int.reduceLE, r_ixO, r_trO, r_pop, r_rev, r_opN, r_ext, r_setIx, r_ch3, r_star, starOf, r_lc2, r_revT, r_notT, Option.map_some, List.isEmpty_cons, List.isEmpty_nil, k1, k2, k3, k4, fMake, e3, ei3]) ?_
  rw [hZ] at fin ⊢
  simp only [r_seq, r_ex, r_set, r_setN, r_drop, r_ret, r_if, r_frz, r_frzS, r_next, r_op, r_fun1, r_call, r_callN, r_cons, r_nil, r_var, r_c, r_bl, r_tr, r_not, r_andB, r_orB, r_andV, r_notV, r_ifE, r_chain, r_lst, r_tup, r_sz, r_own, r_def, r_seqOf, r_lc, r_app, r_fld, r_meth, r_peek, r_enum, szOk, blOf, truD, seqOf, wipeS, lfts, bndo, bnde, getz, getS, setz, setS, List.map_cons, List.map_nil, List.cons_append, List.nil_append, List.replicate, List.length_cons, List.length_nil, if_true, gInt, gTuple, gLen, Nat.reduceAdd, Nat.reduceLeDiff, giName, r_orV, r_slT, r_slL, r_part, r_noPart, gAdd_int, gSub_int, gLt_int, gLe_int, gGt_int, gGe_int, gNeg_int, gEq_int, gNe_int, gMod_int, gDiv_int, gMul_r, ixL0, ixL1, ixL2, ixL3, ixL4, ixL5, ixL6, ixL7, ixL8, ixL9, ixL10, ixL11, ixL12, ixL13, ixT0, ixT1, ixT2, ixT3, ixT4, ixT5, ixT6, ixT7, ixT8, ixT9, ixT10, and_self, Int.cast_ofNat_Int, Int.reduceEq, decide_true, decide_false, Bool.not_true, Bool.not_false, nums_length, isi_ii, gAbs_int, Int.reduceAdd, Int.reduceSub, Int.reduceMul, Int.reduceNeg, Int.reduceLT, Int.reduceLE, r_ixO, r_trO, r_pop, r_rev, r_opN, r_ext, r_setIx, r_ch3, r_star, starOf, r_lc2, r_revT, r_notT, Option.map_some, List.isEmpty_cons, List.isEmpty_nil, k1, k2, k3, k4, fin]

/-! ### what the top has written -/
theorem all_mk {l : PySem.W.OpenLaw} {w : World} {K : PySem.W.Frag} {h : Heap} {mg : Str → Option Value} {fa : Addr} (X : K.In h) (G : h.Ns mainGlobals mg) (hfa : mg "law" = some (.ref fa))
    {c_Spans c_InvalidSpans f__law_digits f__law_rich f_check_spans f_runs f_is_full f_shortest_turn f_moved_by f_merged f_first_behind f_last_unlike f__law_cell f__law_tidy f__law_in f__law_hit f__law_row f_least_period f_cut f__law_description f_turned f_last_difference f_cycle_from f_normal f_Spans___init__ f_law : Addr} {od__law_digits an__law_digits od__law_rich an__law_rich od_check_spans an_check_spans od_runs an_runs od_is_full an_is_full od_shortest_turn an_shortest_turn od_moved_by an_moved_by od_merged an_merged od_first_behind an_first_behind od_last_unlike an_last_unlike od__law_cell an__law_cell od__law_tidy an__law_tidy od__law_in an__law_in od__law_hit an__law_hit od__law_row an__law_row od_least_period an_least_period od_cut an_cut od__law_description an__law_description od_turned an_turned od_last_difference an_last_difference od_cycle_from an_cycle_from od_normal an_normal od_Spans___init__ an_Spans___init__ od_law an_law : Option Addr} {sl__law_digits sl__law_rich sl_check_spans sl_runs sl_is_full sl_shortest_turn sl_moved_by sl_merged sl_first_behind sl_last_unlike sl__law_cell sl__law_tidy sl__law_in sl__law_hit sl__law_row sl_least_period sl_cut sl__law_description sl_turned sl_last_difference sl_cycle_from sl_normal sl_Spans___init__ sl_law : Array (Option Value)} {kv__law_digits oc__law_digits do__law_digits pm__law_digits cd__law_digits ct__law_digits kv__law_rich oc__law_rich do__law_rich pm__law_rich cd__law_rich ct__law_rich kv_check_spans oc_check_spans do_check_spans pm_check_spans cd_check_spans ct_check_spans kv_runs oc_runs do_runs pm_runs cd_runs ct_runs kv_is_full oc_is_full do_is_full pm_is_full cd_is_full ct_is_full kv_shortest_turn oc_shortest_turn do_shortest_turn pm_shortest_turn cd_shortest_turn ct_shortest_turn kv_moved_by oc_moved_by do_moved_by pm_moved_by cd_moved_by ct_moved_by kv_merged oc_merged do_merged pm_merged cd_merged ct_merged kv_first_behind oc_first_behind do_first_behind pm_first_behind cd_first_behind ct_first_behind kv_last_unlike oc_last_unlike do_last_unlike pm_last_unlike cd_last_unlike ct_last_unlike kv__law_cell oc__law_cell do__law_cell pm__law_cell cd__law_cell ct__law_cell kv__law_tidy oc__law_tidy do__law_tidy pm__law_tidy cd__law_tidy ct__law_tidy kv__law_in oc__law_in do__law_in pm__law_in cd__law_in ct__law_in kv__law_hit oc__law_hit do__law_hit pm__law_hit cd__law_hit ct__law_hit kv__law_row oc__law_row do__law_row pm__law_row cd__law_row ct__law_row kv_least_period oc_least_period do_least_period pm_least_period cd_least_period ct_least_period kv_cut oc_cut do_cut pm_cut cd_cut ct_cut kv__law_description oc__law_description do__law_description pm__law_description cd__law_description ct__law_description kv_turned oc_turned do_turned pm_turned cd_turned ct_turned kv_last_difference oc_last_difference do_last_difference pm_last_difference cd_last_difference ct_last_difference kv_cycle_from oc_cycle_from do_cycle_from pm_cycle_from cd_cycle_from ct_cycle_from kv_normal oc_normal do_normal pm_normal cd_normal ct_normal kv_Spans___init__ oc_Spans___init__ do_Spans___init__ pm_Spans___init__ cd_Spans___init__ ct_Spans___init__ kv_law oc_law do_law pm_law cd_law ct_law : Value}
    (ac_Spans : PySem.W.nsIn K mainGlobals "Spans" = some (some (.ref c_Spans)))
    (ac_InvalidSpans : PySem.W.nsIn K mainGlobals "InvalidSpans" = some (some (.ref c_InvalidSpans)))
    (pg_Spans : PySem.W.plainGet K c_Spans Str.empty = true)
    (hd_Spans : PySem.W.hasDictIn K c_Spans = true)
    (po_Spans : PySem.W.plainOver K c_Spans = true)
    (sa_Spans : PySem.W.findIn K (.ref c_Spans) "__setattr__" = some (some (.builtin "object.__setattr__")))
    (mk_Spans : PySem.W.makesIn K c_Spans = true)
    (kc_Spans : PySem.W.keepIn K (.ref c_Spans) = true)
    (na_Spans_cycle : PySem.W.findIn K (.ref c_Spans) "cycle" = some none)
    (na_Spans_head : PySem.W.findIn K (.ref c_Spans) "head" = some none)
    (na_Spans_period : PySem.W.findIn K (.ref c_Spans) "period" = some none)
    (na_Spans_since : PySem.W.findIn K (.ref c_Spans) "since" = some none)
    (n_abs : PySem.W.nsIn K mainGlobals "abs" = some none)
    (n_int : PySem.W.nsIn K mainGlobals "int" = some none)
    (n_isinstance : PySem.W.nsIn K mainGlobals "isinstance" = some none)
    (n_len : PySem.W.nsIn K mainGlobals "len" = some none)
    (n_list : PySem.W.nsIn K mainGlobals "list" = some none)
    (n_max : PySem.W.nsIn K mainGlobals "max" = some none)
    (n_min : PySem.W.nsIn K mainGlobals "min" = some none)
    (n_range : PySem.W.nsIn K mainGlobals "range" = some none)
    (n_sorted : PySem.W.nsIn K mainGlobals "sorted" = some none)
    (n_tuple : PySem.W.nsIn K mainGlobals "tuple" = some none)
    (n_zip : PySem.W.nsIn K mainGlobals "zip" = some none)
    (x_InvalidSpans : PySem.W.excIn K c_InvalidSpans [.type "ValueError", .type "Exception", .type "BaseException", .type "object"] "ValueError.__new__" = true)
    (kx_InvalidSpans : PySem.W.keepIn K (.ref c_InvalidSpans) = true)
    (bx_InvalidSpans : PySem.W.subIn K (.ref c_InvalidSpans) (.type "BaseException") = some true)
    (tx_InvalidSpans : PySem.W.typeIn K (.ref c_InvalidSpans) = some (.type "type"))
    (a__law_digits : PySem.W.nsIn K mainGlobals "_law_digits" = some (some (.ref f__law_digits)))
    (l__law_digits : K.lookup f__law_digits = some ⟨oc__law_digits, od__law_digits, .func (PySem.W.fnOf "_law_digits" "_law_digits" (defArgs s__law_digits) (defBody s__law_digits) (defScope s__law_digits) .none kv__law_digits do__law_digits pm__law_digits an__law_digits cd__law_digits ct__law_digits), sl__law_digits⟩)
    (e__law_digits : PySem.W.codeIn K cd__law_digits "_law_digits" = true)
    (k__law_digits : PySem.W.keepIn K (.ref f__law_digits) = true)
    (a__law_rich : PySem.W.nsIn K mainGlobals "_law_rich" = some (some (.ref f__law_rich)))
    (l__law_rich : K.lookup f__law_rich = some ⟨oc__law_rich, od__law_rich, .func (PySem.W.fnOf "_law_rich" "_law_rich" (defArgs s__law_rich) (defBody s__law_rich) (defScope s__law_rich) .none kv__law_rich do__law_rich pm__law_rich an__law_rich cd__law_rich ct__law_rich), sl__law_rich⟩)
    (e__law_rich : PySem.W.codeIn K cd__law_rich "_law_rich" = true)
    (k__law_rich : PySem.W.keepIn K (.ref f__law_rich) = true)
    (a_check_spans : PySem.W.nsIn K mainGlobals "check_spans" = some (some (.ref f_check_spans)))
    (l_check_spans : K.lookup f_check_spans = some ⟨oc_check_spans, od_check_spans, .func (PySem.W.fnOf "check_spans" "check_spans" (defArgs s_check_spans) (defBody s_check_spans) (defScope s_check_spans) .none kv_check_spans do_check_spans pm_check_spans an_check_spans cd_check_spans ct_check_spans), sl_check_spans⟩)
    (e_check_spans : PySem.W.codeIn K cd_check_spans "check_spans" = true)
    (k_check_spans : PySem.W.keepIn K (.ref f_check_spans) = true)
    (a_runs : PySem.W.nsIn K mainGlobals "runs" = some (some (.ref f_runs)))
    (l_runs : K.lookup f_runs = some ⟨oc_runs, od_runs, .func (PySem.W.fnOf "runs" "runs" (defArgs s_runs) (defBody s_runs) (defScope s_runs) .none kv_runs do_runs pm_runs an_runs cd_runs ct_runs), sl_runs⟩)
    (e_runs : PySem.W.codeIn K cd_runs "runs" = true)
    (k_runs : PySem.W.keepIn K (.ref f_runs) = true)
    (a_is_full : PySem.W.nsIn K mainGlobals "is_full" = some (some (.ref f_is_full)))
    (l_is_full : K.lookup f_is_full = some ⟨oc_is_full, od_is_full, .func (PySem.W.fnOf "is_full" "is_full" (defArgs s_is_full) (defBody s_is_full) (defScope s_is_full) .none kv_is_full do_is_full pm_is_full an_is_full cd_is_full ct_is_full), sl_is_full⟩)
    (e_is_full : PySem.W.codeIn K cd_is_full "is_full" = true)
    (k_is_full : PySem.W.keepIn K (.ref f_is_full) = true)
    (a_shortest_turn : PySem.W.nsIn K mainGlobals "shortest_turn" = some (some (.ref f_shortest_turn)))
    (l_shortest_turn : K.lookup f_shortest_turn = some ⟨oc_shortest_turn, od_shortest_turn, .func (PySem.W.fnOf "shortest_turn" "shortest_turn" (defArgs s_shortest_turn) (defBody s_shortest_turn) (defScope s_shortest_turn) .none kv_shortest_turn do_shortest_turn pm_shortest_turn an_shortest_turn cd_shortest_turn ct_shortest_turn), sl_shortest_turn⟩)
    (e_shortest_turn : PySem.W.codeIn K cd_shortest_turn "shortest_turn" = true)
    (k_shortest_turn : PySem.W.keepIn K (.ref f_shortest_turn) = true)
    (a_moved_by : PySem.W.nsIn K mainGlobals "moved_by" = some (some (.ref f_moved_by)))
    (l_moved_by : K.lookup f_moved_by = some ⟨oc_moved_by, od_moved_by, .func (PySem.W.fnOf "moved_by" "moved_by" (defArgs s_moved_by) (defBody s_moved_by) (defScope s_moved_by) .none kv_moved_by do_moved_by pm_moved_by an_moved_by cd_moved_by ct_moved_by), sl_moved_by⟩)
    (e_moved_by : PySem.W.codeIn K cd_moved_by "moved_by" = true)
    (k_moved_by : PySem.W.keepIn K (.ref f_moved_by) = true)
    (a_merged : PySem.W.nsIn K mainGlobals "merged" = some (some (.ref f_merged)))
    (l_merged : K.lookup f_merged = some ⟨oc_merged, od_merged, .func (PySem.W.fnOf "merged" "merged" (defArgs s_merged) (defBody s_merged) (defScope s_merged) .none kv_merged do_merged pm_merged an_merged cd_merged ct_merged), sl_merged⟩)
    (e_merged : PySem.W.codeIn K cd_merged "merged" = true)
    (k_merged : PySem.W.keepIn K (.ref f_merged) = true)
    (a_first_behind : PySem.W.nsIn K mainGlobals "first_behind" = some (some (.ref f_first_behind)))
    (l_first_behind : K.lookup f_first_behind = some ⟨oc_first_behind, od_first_behind, .func (PySem.W.fnOf "first_behind" "first_behind" (defArgs s_first_behind) (defBody s_first_behind) (defScope s_first_behind) .none kv_first_behind do_first_behind pm_first_behind an_first_behind cd_first_behind ct_first_behind), sl_first_behind⟩)
    (e_first_behind : PySem.W.codeIn K cd_first_behind "first_behind" = true)
    (k_first_behind : PySem.W.keepIn K (.ref f_first_behind) = true)
    (a_last_unlike : PySem.W.nsIn K mainGlobals "last_unlike" = some (some (.ref f_last_unlike)))
    (l_last_unlike : K.lookup f_last_unlike = some ⟨oc_last_unlike, od_last_unlike, .func (PySem.W.fnOf "last_unlike" "last_unlike" (defArgs s_last_unlike) (defBody s_last_unlike) (defScope s_last_unlike) .none kv_last_unlike do_last_unlike pm_last_unlike an_last_unlike cd_last_unlike ct_last_unlike), sl_last_unlike⟩)
    (e_last_unlike : PySem.W.codeIn K cd_last_unlike "last_unlike" = true)
    (k_last_unlike : PySem.W.keepIn K (.ref f_last_unlike) = true)
    (a__law_cell : PySem.W.nsIn K mainGlobals "_law_cell" = some (some (.ref f__law_cell)))
    (l__law_cell : K.lookup f__law_cell = some ⟨oc__law_cell, od__law_cell, .func (PySem.W.fnOf "_law_cell" "_law_cell" (defArgs s__law_cell) (defBody s__law_cell) (defScope s__law_cell) .none kv__law_cell do__law_cell pm__law_cell an__law_cell cd__law_cell ct__law_cell), sl__law_cell⟩)
    (e__law_cell : PySem.W.codeIn K cd__law_cell "_law_cell" = true)
    (k__law_cell : PySem.W.keepIn K (.ref f__law_cell) = true)
    (a__law_tidy : PySem.W.nsIn K mainGlobals "_law_tidy" = some (some (.ref f__law_tidy)))
    (l__law_tidy : K.lookup f__law_tidy = some ⟨oc__law_tidy, od__law_tidy, .func (PySem.W.fnOf "_law_tidy" "_law_tidy" (defArgs s__law_tidy) (defBody s__law_tidy) (defScope s__law_tidy) .none kv__law_tidy do__law_tidy pm__law_tidy an__law_tidy cd__law_tidy ct__law_tidy), sl__law_tidy⟩)
    (e__law_tidy : PySem.W.codeIn K cd__law_tidy "_law_tidy" = true)
    (k__law_tidy : PySem.W.keepIn K (.ref f__law_tidy) = true)
    (a__law_in : PySem.W.nsIn K mainGlobals "_law_in" = some (some (.ref f__law_in)))
    (l__law_in : K.lookup f__law_in = some ⟨oc__law_in, od__law_in, .func (PySem.W.fnOf "_law_in" "_law_in" (defArgs s__law_in) (defBody s__law_in) (defScope s__law_in) .none kv__law_in do__law_in pm__law_in an__law_in cd__law_in ct__law_in), sl__law_in⟩)
    (e__law_in : PySem.W.codeIn K cd__law_in "_law_in" = true)
    (k__law_in : PySem.W.keepIn K (.ref f__law_in) = true)
    (a__law_hit : PySem.W.nsIn K mainGlobals "_law_hit" = some (some (.ref f__law_hit)))
    (l__law_hit : K.lookup f__law_hit = some ⟨oc__law_hit, od__law_hit, .func (PySem.W.fnOf "_law_hit" "_law_hit" (defArgs s__law_hit) (defBody s__law_hit) (defScope s__law_hit) .none kv__law_hit do__law_hit pm__law_hit an__law_hit cd__law_hit ct__law_hit), sl__law_hit⟩)
    (e__law_hit : PySem.W.codeIn K cd__law_hit "_law_hit" = true)
    (k__law_hit : PySem.W.keepIn K (.ref f__law_hit) = true)
    (a__law_row : PySem.W.nsIn K mainGlobals "_law_row" = some (some (.ref f__law_row)))
    (l__law_row : K.lookup f__law_row = some ⟨oc__law_row, od__law_row, .func (PySem.W.fnOf "_law_row" "_law_row" (defArgs s__law_row) (defBody s__law_row) (defScope s__law_row) .none kv__law_row do__law_row pm__law_row an__law_row cd__law_row ct__law_row), sl__law_row⟩)
    (e__law_row : PySem.W.codeIn K cd__law_row "_law_row" = true)
    (k__law_row : PySem.W.keepIn K (.ref f__law_row) = true)
    (a_least_period : PySem.W.nsIn K mainGlobals "least_period" = some (some (.ref f_least_period)))
    (l_least_period : K.lookup f_least_period = some ⟨oc_least_period, od_least_period, .func (PySem.W.fnOf "least_period" "least_period" (defArgs s_least_period) (defBody s_least_period) (defScope s_least_period) .none kv_least_period do_least_period pm_least_period an_least_period cd_least_period ct_least_period), sl_least_period⟩)
    (e_least_period : PySem.W.codeIn K cd_least_period "least_period" = true)
    (k_least_period : PySem.W.keepIn K (.ref f_least_period) = true)
    (a_cut : PySem.W.nsIn K mainGlobals "cut" = some (some (.ref f_cut)))
    (l_cut : K.lookup f_cut = some ⟨oc_cut, od_cut, .func (PySem.W.fnOf "cut" "cut" (defArgs s_cut) (defBody s_cut) (defScope s_cut) .none kv_cut do_cut pm_cut an_cut cd_cut ct_cut), sl_cut⟩)
    (e_cut : PySem.W.codeIn K cd_cut "cut" = true)
    (k_cut : PySem.W.keepIn K (.ref f_cut) = true)
    (a__law_description : PySem.W.nsIn K mainGlobals "_law_description" = some (some (.ref f__law_description)))
    (l__law_description : K.lookup f__law_description = some ⟨oc__law_description, od__law_description, .func (PySem.W.fnOf "_law_description" "_law_description" (defArgs s__law_description) (defBody s__law_description) (defScope s__law_description) .none kv__law_description do__law_description pm__law_description an__law_description cd__law_description ct__law_description), sl__law_description⟩)
    (e__law_description : PySem.W.codeIn K cd__law_description "_law_description" = true)
    (k__law_description : PySem.W.keepIn K (.ref f__law_description) = true)
    (a_turned : PySem.W.nsIn K mainGlobals "turned" = some (some (.ref f_turned)))
    (l_turned : K.lookup f_turned = some ⟨oc_turned, od_turned, .func (PySem.W.fnOf "turned" "turned" (defArgs s_turned) (defBody s_turned) (defScope s_turned) .none kv_turned do_turned pm_turned an_turned cd_turned ct_turned), sl_turned⟩)
    (e_turned : PySem.W.codeIn K cd_turned "turned" = true)
    (k_turned : PySem.W.keepIn K (.ref f_turned) = true)
    (a_last_difference : PySem.W.nsIn K mainGlobals "last_difference" = some (some (.ref f_last_difference)))
    (l_last_difference : K.lookup f_last_difference = some ⟨oc_last_difference, od_last_difference, .func (PySem.W.fnOf "last_difference" "last_difference" (defArgs s_last_difference) (defBody s_last_difference) (defScope s_last_difference) .none kv_last_difference do_last_difference pm_last_difference an_last_difference cd_last_difference ct_last_difference), sl_last_difference⟩)
    (e_last_difference : PySem.W.codeIn K cd_last_difference "last_difference" = true)
    (k_last_difference : PySem.W.keepIn K (.ref f_last_difference) = true)
    (a_cycle_from : PySem.W.nsIn K mainGlobals "cycle_from" = some (some (.ref f_cycle_from)))
    (l_cycle_from : K.lookup f_cycle_from = some ⟨oc_cycle_from, od_cycle_from, .func (PySem.W.fnOf "cycle_from" "cycle_from" (defArgs s_cycle_from) (defBody s_cycle_from) (defScope s_cycle_from) .none kv_cycle_from do_cycle_from pm_cycle_from an_cycle_from cd_cycle_from ct_cycle_from), sl_cycle_from⟩)
    (e_cycle_from : PySem.W.codeIn K cd_cycle_from "cycle_from" = true)
    (k_cycle_from : PySem.W.keepIn K (.ref f_cycle_from) = true)
    (a_normal : PySem.W.nsIn K mainGlobals "normal" = some (some (.ref f_normal)))
    (l_normal : K.lookup f_normal = some ⟨oc_normal, od_normal, .func (PySem.W.fnOf "normal" "normal" (defArgs s_normal) (defBody s_normal) (defScope s_normal) .none kv_normal do_normal pm_normal an_normal cd_normal ct_normal), sl_normal⟩)
    (e_normal : PySem.W.codeIn K cd_normal "normal" = true)
    (k_normal : PySem.W.keepIn K (.ref f_normal) = true)
    (a_Spans___init__ : PySem.W.findIn K (.ref c_Spans) "__init__" = some (some (.ref f_Spans___init__)))
    (i_Spans___init__ : PySem.W.isFn K (.ref f_Spans___init__) = true)
    (l_Spans___init__ : K.lookup f_Spans___init__ = some ⟨oc_Spans___init__, od_Spans___init__, .func (PySem.W.fnOf "__init__" "Spans.__init__" (defArgs s_Spans___init__) (defBody s_Spans___init__) (defScope s_Spans___init__) .none kv_Spans___init__ do_Spans___init__ pm_Spans___init__ an_Spans___init__ cd_Spans___init__ ct_Spans___init__), sl_Spans___init__⟩)
    (e_Spans___init__ : PySem.W.codeIn K cd_Spans___init__ "Spans.__init__" = true)
    (k_Spans___init__ : PySem.W.keepIn K (.ref f_Spans___init__) = true)
    (a_law : PySem.W.nsIn K mainGlobals "law" = some (some (.ref f_law)))
    (l_law : K.lookup f_law = some ⟨oc_law, od_law, .func (PySem.W.fnOf "law" "law" (defArgs s_law) (defBody s_law) (defScope s_law) .none kv_law do_law pm_law an_law cd_law ct_law), sl_law⟩)
    (e_law : PySem.W.codeIn K cd_law "law" = true)
    (k_law : PySem.W.keepIn K (.ref f_law) = true)
    (pure_law : ∀ (c : Cl) (ns : List Int), ns.length ≤ 63 → G_law c [.lst (ns.map D.int)] = some (.ok (.bl true))) :
    ∃ fd : FuncData, (∀ (s : Shared) (v : Value), BindsTo s fd ⟨[v], []⟩ [("script", v)]) ∧ ∀ base : Heap, K.In base → base.Ns mainGlobals mg → FnOk l.prog w K mg base (L2.CX l.prog w) 8 fa fd ["script"] (spLaw K) := by
  have e := hfa.symm.trans (PySem.W.mg_of X G a_law)
  cases e
  have F__law_digits := fun_mk (st := s__law_digits) l__law_digits e__law_digits k__law_digits
  have b__law_digits := F__law_digits.binds (ps := ["cell", "sizes"]) fun _ _ _ _ _ _ us hl => match us, hl with | [_, _], _ => rfl
  have F__law_rich := fun_mk (st := s__law_rich) l__law_rich e__law_rich k__law_rich
  have b__law_rich := F__law_rich.binds (ps := ["cell"]) fun _ _ _ _ _ _ us hl => match us, hl with | [_], _ => rfl
  have F_check_spans := fun_mk (st := s_check_spans) l_check_spans e_check_spans k_check_spans
  have b_check_spans := F_check_spans.binds (ps := ["spans", "bound"]) fun _ _ _ _ _ _ us hl => match us, hl with | [_, _], _ => rfl
  have F_runs := fun_mk (st := s_runs) l_runs e_runs k_runs
  have b_runs := F_runs.binds (ps := ["period", "cycle"]) fun _ _ _ _ _ _ us hl => match us, hl with | [_, _], _ => rfl
  have F_is_full := fun_mk (st := s_is_full) l_is_full e_is_full k_is_full
  have b_is_full := F_is_full.binds (ps := ["wheel"]) fun _ _ _ _ _ _ us hl => match us, hl with | [_], _ => rfl
  have F_shortest_turn := fun_mk (st := s_shortest_turn) l_shortest_turn e_shortest_turn k_shortest_turn
  have b_shortest_turn := F_shortest_turn.binds (ps := ["rows"]) fun _ _ _ _ _ _ us hl => match us, hl with | [_], _ => rfl
  have F_moved_by := fun_mk (st := s_moved_by) l_moved_by e_moved_by k_moved_by
  have b_moved_by := F_moved_by.binds (ps := ["spans", "by"]) fun _ _ _ _ _ _ us hl => match us, hl with | [_, _], _ => rfl
  have F_merged := fun_mk (st := s_merged) l_merged e_merged k_merged
  have b_merged := F_merged.binds (ps := ["spans"]) fun _ _ _ _ _ _ us hl => match us, hl with | [_], _ => rfl
  have F_first_behind := fun_mk (st := s_first_behind) l_first_behind e_first_behind k_first_behind
  have b_first_behind := F_first_behind.binds (ps := ["spans", "instant"]) fun _ _ _ _ _ _ us hl => match us, hl with | [_, _], _ => rfl
  have F_last_unlike := fun_mk (st := s_last_unlike) l_last_unlike e_last_unlike k_last_unlike
  have b_last_unlike := F_last_unlike.binds (ps := ["first", "second"]) fun _ _ _ _ _ _ us hl => match us, hl with | [_, _], _ => rfl
  have F__law_cell := fun_mk (st := s__law_cell) l__law_cell e__law_cell k__law_cell
  have b__law_cell := F__law_cell.binds (ps := ["script", "k"]) fun _ _ _ _ _ _ us hl => match us, hl with | [_, _], _ => rfl
  have F__law_tidy := fun_mk (st := s__law_tidy) l__law_tidy e__law_tidy k__law_tidy
  have b__law_tidy := F__law_tidy.binds (ps := ["rows", "low", "high"]) fun _ _ _ _ _ _ us hl => match us, hl with | [_, _, _], _ => rfl
  have F__law_in := fun_mk (st := s__law_in) l__law_in e__law_in k__law_in
  have b__law_in := F__law_in.binds (ps := ["row", "instant"]) fun _ _ _ _ _ _ us hl => match us, hl with | [_, _], _ => rfl
  have F__law_hit := fun_mk (st := s__law_hit) l__law_hit e__law_hit k__law_hit
  have b__law_hit := F__law_hit.binds (ps := ["rows", "instant"]) fun _ _ _ _ _ _ us hl => match us, hl with | [_, _], _ => rfl
  have F__law_row := fun_mk (st := s__law_row) l__law_row e__law_row k__law_row
  have b__law_row := F__law_row.binds (ps := ["cell", "bound"]) fun _ _ _ _ _ _ us hl => match us, hl with | [_, _], _ => rfl
  have F_least_period := fun_mk (st := s_least_period) l_least_period e_least_period k_least_period
  have b_least_period := F_least_period.binds (ps := ["period", "cycle"]) fun _ _ _ _ _ _ us hl => match us, hl with | [_, _], _ => rfl
  have F_cut := fun_mk (st := s_cut) l_cut e_cut k_cut
  have b_cut := F_cut.binds (ps := ["spans", "start", "stop"]) fun _ _ _ _ _ _ us hl => match us, hl with | [_, _, _], _ => rfl
  have F__law_description := fun_mk (st := s__law_description) l__law_description e__law_description k__law_description
  have b__law_description := F__law_description.binds (ps := ["cell"]) fun _ _ _ _ _ _ us hl => match us, hl with | [_], _ => rfl
  have F_turned := fun_mk (st := s_turned) l_turned e_turned k_turned
  have b_turned := F_turned.binds (ps := ["wheel", "start", "stop"]) fun _ _ _ _ _ _ us hl => match us, hl with | [_, _, _], _ => rfl
  have F_last_difference := fun_mk (st := s_last_difference) l_last_difference e_last_difference k_last_difference
  have b_last_difference := F_last_difference.binds (ps := ["first", "second", "start", "stop"]) fun _ _ _ _ _ _ us hl => match us, hl with | [_, _, _, _], _ => rfl
  have F_cycle_from := fun_mk (st := s_cycle_from) l_cycle_from e_cycle_from k_cycle_from
  have b_cycle_from := F_cycle_from.binds (ps := ["wheel", "start"]) fun _ _ _ _ _ _ us hl => match us, hl with | [_, _], _ => rfl
  have F_normal := fun_mk (st := s_normal) l_normal e_normal k_normal
  have b_normal := F_normal.binds (ps := ["head", "since", "period", "cycle"]) fun _ _ _ _ _ _ us hl => match us, hl with | [_, _, _, _], _ => rfl
  have F_Spans___init__ := fun_mk (st := s_Spans___init__) l_Spans___init__ e_Spans___init__ k_Spans___init__
  have b_Spans___init__ := F_Spans___init__.binds (ps := ["self", "head", "since", "period", "cycle"]) fun _ _ _ _ _ _ us hl => match us, hl with | [_, _, _, _, _], _ => rfl
  have F_law := fun_mk (st := s_law) l_law e_law k_law
  have b_law := F_law.binds (ps := ["script"]) fun _ _ _ _ _ _ us hl => match us, hl with | [_], _ => rfl
  have kb_Spans_4_ := FL.kbn_of b_Spans___init__ rfl
  let T : Txt K mg := {
    c := ⟨c_Spans, c_InvalidSpans⟩,
    cls_Spans := ⟨pg_Spans, hd_Spans, po_Spans, sa_Spans⟩,
    gc_Spans := PySem.W.mg_of X G ac_Spans,
    na_Spans_cycle := na_Spans_cycle,
    na_Spans_head := na_Spans_head,
    na_Spans_period := na_Spans_period,
    na_Spans_since := na_Spans_since,
    n_abs := PySem.W.mg_none_of X G n_abs,
    n_int := PySem.W.mg_none_of X G n_int,
    n_isinstance := PySem.W.mg_none_of X G n_isinstance,
    n_len := PySem.W.mg_none_of X G n_len,
    n_list := PySem.W.mg_none_of X G n_list,
    n_max := PySem.W.mg_none_of X G n_max,
    n_min := PySem.W.mg_none_of X G n_min,
    n_range := PySem.W.mg_none_of X G n_range,
    n_sorted := PySem.W.mg_none_of X G n_sorted,
    n_tuple := PySem.W.mg_none_of X G n_tuple,
    n_zip := PySem.W.mg_none_of X G n_zip,
    x_InvalidSpans := x_InvalidSpans,
    gx_InvalidSpans := PySem.W.mg_of X G ac_InvalidSpans,
    kx_InvalidSpans := kx_InvalidSpans,
    bx_InvalidSpans := bx_InvalidSpans,
    tx_InvalidSpans := tx_InvalidSpans,
    f__law_digits := f__law_digits,
    d__law_digits := _,
    F__law_digits := F__law_digits,
    b__law_digits := b__law_digits,
    g__law_digits := PySem.W.mg_of X G a__law_digits,
    f__law_rich := f__law_rich,
    d__law_rich := _,
    F__law_rich := F__law_rich,
    b__law_rich := b__law_rich,
    g__law_rich := PySem.W.mg_of X G a__law_rich,
    f_check_spans := f_check_spans,
    d_check_spans := _,
    F_check_spans := F_check_spans,
    b_check_spans := b_check_spans,
    g_check_spans := PySem.W.mg_of X G a_check_spans,
    f_runs := f_runs,
    d_runs := _,
    F_runs := F_runs,
    b_runs := b_runs,
    g_runs := PySem.W.mg_of X G a_runs,
    f_is_full := f_is_full,
    d_is_full := _,
    F_is_full := F_is_full,
    b_is_full := b_is_full,
    g_is_full := PySem.W.mg_of X G a_is_full,
    f_shortest_turn := f_shortest_turn,
    d_shortest_turn := _,
    F_shortest_turn := F_shortest_turn,
    b_shortest_turn := b_shortest_turn,
    g_shortest_turn := PySem.W.mg_of X G a_shortest_turn,
    f_moved_by := f_moved_by,
    d_moved_by := _,
    F_moved_by := F_moved_by,
    b_moved_by := b_moved_by,
    g_moved_by := PySem.W.mg_of X G a_moved_by,
    f_merged := f_merged,
    d_merged := _,
    F_merged := F_merged,
    b_merged := b_merged,
    g_merged := PySem.W.mg_of X G a_merged,
    f_first_behind := f_first_behind,
    d_first_behind := _,
    F_first_behind := F_first_behind,
    b_first_behind := b_first_behind,
    g_first_behind := PySem.W.mg_of X G a_first_behind,
    f_last_unlike := f_last_unlike,
    d_last_unlike := _,
    F_last_unlike := F_last_unlike,
    b_last_unlike := b_last_unlike,
    g_last_unlike := PySem.W.mg_of X G a_last_unlike,
    f__law_cell := f__law_cell,
    d__law_cell := _,
    F__law_cell := F__law_cell,
    b__law_cell := b__law_cell,
    g__law_cell := PySem.W.mg_of X G a__law_cell,
    f__law_tidy := f__law_tidy,
    d__law_tidy := _,
    F__law_tidy := F__law_tidy,
    b__law_tidy := b__law_tidy,
    g__law_tidy := PySem.W.mg_of X G a__law_tidy,
    f__law_in := f__law_in,
    d__law_in := _,
    F__law_in := F__law_in,
    b__law_in := b__law_in,
    g__law_in := PySem.W.mg_of X G a__law_in,
    f__law_hit := f__law_hit,
    d__law_hit := _,
    F__law_hit := F__law_hit,
    b__law_hit := b__law_hit,
    g__law_hit := PySem.W.mg_of X G a__law_hit,
    f__law_row := f__law_row,
    d__law_row := _,
    F__law_row := F__law_row,
    b__law_row := b__law_row,
    g__law_row := PySem.W.mg_of X G a__law_row,
    f_least_period := f_least_period,
    d_least_period := _,
    F_least_period := F_least_period,
    b_least_period := b_least_period,
    g_least_period := PySem.W.mg_of X G a_least_period,
    f_cut := f_cut,
    d_cut := _,
    F_cut := F_cut,
    b_cut := b_cut,
    g_cut := PySem.W.mg_of X G a_cut,
    f__law_description := f__law_description,
    d__law_description := _,
    F__law_description := F__law_description,
    b__law_description := b__law_description,
    g__law_description := PySem.W.mg_of X G a__law_description,
    f_turned := f_turned,
    d_turned := _,
    F_turned := F_turned,
    b_turned := b_turned,
    g_turned := PySem.W.mg_of X G a_turned,
    f_last_difference := f_last_difference,
    d_last_difference := _,
    F_last_difference := F_last_difference,
    b_last_difference := b_last_difference,
    g_last_difference := PySem.W.mg_of X G a_last_difference,
    f_cycle_from := f_cycle_from,
    d_cycle_from := _,
    F_cycle_from := F_cycle_from,
    b_cycle_from := b_cycle_from,
    g_cycle_from := PySem.W.mg_of X G a_cycle_from,
    f_normal := f_normal,
    d_normal := _,
    F_normal := F_normal,
    b_normal := b_normal,
    g_normal := PySem.W.mg_of X G a_normal,
    f_Spans___init__ := f_Spans___init__,
    d_Spans___init__ := _,
    F_Spans___init__ := F_Spans___init__,
    b_Spans___init__ := b_Spans___init__,
    mk_Spans := ⟨mk_Spans, a_Spans___init__, i_Spans___init__, kc_Spans⟩,
    f_law := fa,
    d_law := _,
    F_law := F_law,
    b_law := b_law,
    g_law := PySem.W.mg_of X G a_law,
    gv_Spans_4_ := _,
    kb_Spans_4_ := kb_Spans_4_ }
  exact ⟨_, fun s v => .of_eq rfl, fun base _ _ => law_of (fun ns h => pure_law T.c ns h) (ok_law T)⟩
end Lk24
open PySem PySem.W PyProof.Rows
set_option maxRecDepth 100000 in
set_option maxHeartbeats 0 in
theorem PySem.Challenge.cw_dayspread_k24_normal_form_holds : PySem.Challenge.rw_dayspread_k24_normal_form.Holds := by
  w_on; o_law; k_head; (case hw => w_witness2)
  k_fill
  refine L2.walk_of (l := PySem.Challenge.rw_dayspread_k24_normal_form) (n := 63) (k := 8) (x := "script") (CX := fun w => L2.CX PySem.Challenge.pw_dayspread_k24_normal_form w) (sp := fun w => FL.spLaw _) rfl (by decide) rfl ⟨rfl, by decide, by decide⟩ (fun w h Y => PySem.W.kIn_of Y) ?F (fun _ _ a ns hl _ hS => ⟨a, ns, rfl, hS, hl, fun _ => rfl⟩) (fun _ _ _ _ _ h => FL.cx_false h)
  case F =>
    intro w mg fa h KX G hmg
    refine' Lk24.all_mk KX G hmg ?ac_Spans ?ac_InvalidSpans ?pg_Spans ?hd_Spans ?po_Spans ?sa_Spans ?mk_Spans ?kc_Spans ?na_Spans_cycle ?na_Spans_head ?na_Spans_period ?na_Spans_since ?n_abs ?n_int ?n_isinstance ?n_len ?n_list ?n_max ?n_min ?n_range ?n_sorted ?n_tuple ?n_zip ?x_InvalidSpans ?kx_InvalidSpans ?bx_InvalidSpans ?tx_InvalidSpans ?a__law_digits ?l__law_digits ?e__law_digits ?k__law_digits ?a__law_rich ?l__law_rich ?e__law_rich ?k__law_rich ?a_check_spans ?l_check_spans ?e_check_spans ?k_check_spans ?a_runs ?l_runs ?e_runs ?k_runs ?a_is_full ?l_is_full ?e_is_full ?k_is_full ?a_shortest_turn ?l_shortest_turn ?e_shortest_turn ?k_shortest_turn ?a_moved_by ?l_moved_by ?e_moved_by ?k_moved_by ?a_merged ?l_merged ?e_merged ?k_merged ?a_first_behind ?l_first_behind ?e_first_behind ?k_first_behind ?a_last_unlike ?l_last_unlike ?e_last_unlike ?k_last_unlike ?a__law_cell ?l__law_cell ?e__law_cell ?k__law_cell ?a__law_tidy ?l__law_tidy ?e__law_tidy ?k__law_tidy ?a__law_in ?l__law_in ?e__law_in ?k__law_in ?a__law_hit ?l__law_hit ?e__law_hit ?k__law_hit ?a__law_row ?l__law_row ?e__law_row ?k__law_row ?a_least_period ?l_least_period ?e_least_period ?k_least_period ?a_cut ?l_cut ?e_cut ?k_cut ?a__law_description ?l__law_description ?e__law_description ?k__law_description ?a_turned ?l_turned ?e_turned ?k_turned ?a_last_difference ?l_last_difference ?e_last_difference ?k_last_difference ?a_cycle_from ?l_cycle_from ?e_cycle_from ?k_cycle_from ?a_normal ?l_normal ?e_normal ?k_normal ?a_Spans___init__ ?i_Spans___init__ ?l_Spans___init__ ?e_Spans___init__ ?k_Spans___init__ ?a_law ?l_law ?e_law ?k_law Lk24.pure_law
    (case ac_Spans => k_is)
    (case ac_InvalidSpans => k_is)
    (case pg_Spans => k_is)
    (case hd_Spans => k_is)
    (case po_Spans => k_is)
    (case sa_Spans => k_is)
    (case mk_Spans => k_is)
    (case kc_Spans => k_is)
    (case na_Spans_cycle => k_is)
    (case na_Spans_head => k_is)
    (case na_Spans_period => k_is)
    (case na_Spans_since => k_is)
    (case n_abs => k_is)
    (case n_int => k_is)
    (case n_isinstance => k_is)
    (case n_len => k_is)
    (case n_list => k_is)
    (case n_max => k_is)
    (case n_min => k_is)
    (case n_range => k_is)
    (case n_sorted => k_is)
    (case n_tuple => k_is)
    (case n_zip => k_is)
    (case x_InvalidSpans => k_exc)
    (case kx_InvalidSpans => k_is)
    (case bx_InvalidSpans => k_is)
    (case tx_InvalidSpans => k_is)
    (case a__law_digits => k_is)
    (case l__law_digits => k_is)
    (case e__law_digits => k_is)
    (case k__law_digits => k_is)
    (case a__law_rich => k_is)
    (case l__law_rich => k_is)
    (case e__law_rich => k_is)
    (case k__law_rich => k_is)
    (case a_check_spans => k_is)
    (case l_check_spans => k_is)
    (case e_check_spans => k_is)
    (case k_check_spans => k_is)
    (case a_runs => k_is)
    (case l_runs => k_is)
    (case e_runs => k_is)
    (case k_runs => k_is)
    (case a_is_full => k_is)
    (case l_is_full => k_is)
    (case e_is_full => k_is)
    (case k_is_full => k_is)
    (case a_shortest_turn => k_is)
    (case l_shortest_turn => k_is)
    (case e_shortest_turn => k_is)
    (case k_shortest_turn => k_is)
    (case a_moved_by => k_is)
    (case l_moved_by => k_is)
    (case e_moved_by => k_is)
    (case k_moved_by => k_is)
    (case a_merged => k_is)
    (case l_merged => k_is)
    (case e_merged => k_is)
    (case k_merged => k_is)
    (case a_first_behind => k_is)
    (case l_first_behind => k_is)
    (case e_first_behind => k_is)
    (case k_first_behind => k_is)
    (case a_last_unlike => k_is)
    (case l_last_unlike => k_is)
    (case e_last_unlike => k_is)
    (case k_last_unlike => k_is)
    (case a__law_cell => k_is)
    (case l__law_cell => k_is)
    (case e__law_cell => k_is)
    (case k__law_cell => k_is)
    (case a__law_tidy => k_is)
    (case l__law_tidy => k_is)
    (case e__law_tidy => k_is)
    (case k__law_tidy => k_is)
    (case a__law_in => k_is)
    (case l__law_in => k_is)
    (case e__law_in => k_is)
    (case k__law_in => k_is)
    (case a__law_hit => k_is)
    (case l__law_hit => k_is)
    (case e__law_hit => k_is)
    (case k__law_hit => k_is)
    (case a__law_row => k_is)
    (case l__law_row => k_is)
    (case e__law_row => k_is)
    (case k__law_row => k_is)
    (case a_least_period => k_is)
    (case l_least_period => k_is)
    (case e_least_period => k_is)
    (case k_least_period => k_is)
    (case a_cut => k_is)
    (case l_cut => k_is)
    (case e_cut => k_is)
    (case k_cut => k_is)
    (case a__law_description => k_is)
    (case l__law_description => k_is)
    (case e__law_description => k_is)
    (case k__law_description => k_is)
    (case a_turned => k_is)
    (case l_turned => k_is)
    (case e_turned => k_is)
    (case k_turned => k_is)
    (case a_last_difference => k_is)
    (case l_last_difference => k_is)
    (case e_last_difference => k_is)
    (case k_last_difference => k_is)
    (case a_cycle_from => k_is)
    (case l_cycle_from => k_is)
    (case e_cycle_from => k_is)
    (case k_cycle_from => k_is)
    (case a_normal => k_is)
    (case l_normal => k_is)
    (case e_normal => k_is)
    (case k_normal => k_is)
    (case a_Spans___init__ => k_is)
    (case i_Spans___init__ => k_is)
    (case l_Spans___init__ => k_is)
    (case e_Spans___init__ => k_is)
    (case k_Spans___init__ => k_is)
    (case a_law => k_is)
    (case l_law => k_is)
    (case e_law => k_is)
    (case k_law => k_is)
