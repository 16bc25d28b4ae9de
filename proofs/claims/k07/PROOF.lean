import PyProof.Rows.All
import Wide.All
import OpenK.AllK
import Wide.FinOn
import HandS.ForMost
import HandS.ForExc
import HandS.Evl
import HandS.IsInst
import HandS.Flow
import HandS.TupLe
import HandS.Steps
import HandS.More
import HandS.ExcOwn
import HandS.Strs
import HandS.SetBool
import HandS.HotCalls
import HandS.ExcIs
import HandS.TryOnly
import HandS.Conv
import HandS.Walk
import HandS.RevRange
import HandS.Style
import HandS.TupAny
import HandS.NoneIn
import HandS.SortRule
import KE.KUnpackStar
import HandS.DictTup
import HandS.DictComp
import HandS.TupLen
import HandS.Deep
import HandS.EndTab
import KE.SortKeyHeap
import KE.KDictCopyH
import HandS.AnyAll
import HandS.Zip
import HandS.FStr
import PySem.Challenge.RW_blindplan_k07_plans_written
set_option Elab.async false
set_option linter.all false
set_option maxRecDepth 100000
set_option maxHeartbeats 200000000
/-! # Data, what stands for data in a frozen part of the heap, and what a reading evaluates to -/
namespace Bp
open PySem PySem.Spec PyProof.Rows L2 Evl

/-! ## data -/
inductive D where
  | non | bl (b : Bool) | int (i : Int) | str (x : Str) | lst (xs : List D) | tup (xs : List D) | dct0 | obj (c : Addr) (ns : List Str) (vs : List D) | scr (K : PySem.W.Frag) (ns : List Int)

inductive Rp (F : Hp) : V → D → Prop
  | non : Rp F .non .non
  | bl (b : Bool) : Rp F (.bl b) (.bl b)
  | int (i : Int) : Rp F (.int i) (.int i)
  | str (x : Str) : Rp F (.str x) (.str x)
  | lst {a : Addr} {vs : List V} {ds : List D} (h : F a = some (.lst vs)) (n : vs.length = ds.length) (r : ∀ (i : Nat) v d, vs[i]? = some v → ds[i]? = some d → Rp F v d) : Rp F (.ref a) (.lst ds)
  | tup {a : Addr} {vs : List V} {ds : List D} (h : F a = some (.tup vs)) (n : vs.length = ds.length) (r : ∀ (i : Nat) v d, vs[i]? = some v → ds[i]? = some d → Rp F v d) : Rp F (.ref a) (.tup ds)
  | dct0 {a : Addr} (h : F a = some (.dK [])) : Rp F (.ref a) .dct0
  | obj {a dx c : Addr} {ns : List Str} {vs : List V} {ds : List D} (h : F a = some (.ins c dx (ns.zip vs))) (m : ns.length = vs.length) (n : vs.length = ds.length) (r : ∀ (i : Nat) v d, vs[i]? = some v → ds[i]? = some d → Rp F v d) : Rp F (.ref a) (.obj c ns ds)
  | scr {a : Addr} {K : PySem.W.Frag} {ns : List Int} (h : SqL K F a (ns.map V.int)) : Rp F (.ref a) (.scr K ns)

theorem Rp.mono {F F' : Hp} (e : Ex F F') : ∀ {v : V} {d : D}, Rp F v d → Rp F' v d
  | _, _, .non => .non
  | _, _, .bl b => .bl b
  | _, _, .int i => .int i
  | _, _, .str x => .str x
  | _, _, .lst h n r => .lst (e _ _ h) n fun i v d a b => (r i v d a b).mono e
  | _, _, .tup h n r => .tup (e _ _ h) n fun i v d a b => (r i v d a b).mono e
  | _, _, .dct0 h => .dct0 (e _ _ h)
  | _, _, .obj h m n r => .obj (e _ _ h) m n fun i v d a b => (r i v d a b).mono e
  | _, _, .scr h => .scr (ex_l e h)

/-- lists of values that stand for lists of data -/
structure Rps (F : Hp) (vs : List V) (ds : List D) : Prop where
  n : vs.length = ds.length
  r : ∀ (i : Nat) v d, vs[i]? = some v → ds[i]? = some d → Rp F v d
theorem Rps.mono {F F' : Hp} (e : Ex F F') {vs : List V} {ds : List D} (h : Rps F vs ds) : Rps F' vs ds := ⟨h.n, fun i v d a b => (h.r i v d a b).mono e⟩
theorem Rps.nil {F : Hp} : Rps F [] [] := ⟨rfl, fun i v d a => by simp at a⟩
theorem Rps.cons {F : Hp} {v : V} {d : D} {vs : List V} {ds : List D} (h : Rp F v d) (t : Rps F vs ds) : Rps F (v :: vs) (d :: ds) := by
  refine ⟨by simp [t.n], fun i v' d' a b => ?_⟩
  cases i with
  | zero => simp at a b; subst a; subst b; exact h
  | succ i => exact t.r i v' d' (by simpa using a) (by simpa using b)
theorem Rps.snoc {F : Hp} {v : V} {d : D} {vs : List V} {ds : List D} (t : Rps F vs ds) (h : Rp F v d) : Rps F (vs ++ [v]) (ds ++ [d]) := by
  refine ⟨by simp [t.n], fun i v' d' a b => ?_⟩
  by_cases hi : i < vs.length
  · rw [List.getElem?_append_left hi] at a
    rw [List.getElem?_append_left (by rw [← t.n]; exact hi)] at b
    exact t.r i v' d' a b
  · have hi' : ¬ i < ds.length := by rw [← t.n]; exact hi
    rw [List.getElem?_append_right (by omega)] at a b
    have n := t.n
    have e0 : i - vs.length = i - ds.length := by omega
    rw [e0] at a
    cases hj : i - ds.length with
    | zero => rw [hj] at a b; simp at a b; subst a; subst b; exact h
    | succ j => rw [hj] at a; simp at a
theorem Rps.append {F : Hp} {vs us : List V} {ds es : List D} (t : Rps F vs ds) (u : Rps F us es) : Rps F (vs ++ us) (ds ++ es) := by
  refine ⟨by simp [t.n, u.n], fun i v' d' a b => ?_⟩
  by_cases hi : i < vs.length
  · rw [List.getElem?_append_left hi] at a
    rw [List.getElem?_append_left (by rw [← t.n]; exact hi)] at b
    exact t.r i v' d' a b
  · have hi' : ¬ i < ds.length := by rw [← t.n]; exact hi
    rw [List.getElem?_append_right (by omega)] at a b
    have n := t.n
    have e0 : i - vs.length = i - ds.length := by omega
    rw [e0] at a
    exact u.r _ v' d' a b
theorem Rps.uncons {F : Hp} {vs : List V} {d : D} {ds : List D} (h : Rps F vs (d :: ds)) : ∃ v us, vs = v :: us ∧ Rp F v d ∧ Rps F us ds := by
  cases vs with
  | nil => have := h.n; simp at this
  | cons v us => exact ⟨v, us, rfl, h.r 0 v d rfl rfl, by have := h.n; simpa using this, fun i a b x y => h.r (i + 1) a b (by simpa using x) (by simpa using y)⟩
theorem Rps.unnil {F : Hp} {vs : List V} (h : Rps F vs []) : vs = [] := List.length_eq_zero_iff.mp (by rw [h.n]; rfl)
theorem Rps.get {F : Hp} {vs : List V} {ds : List D} {i : Nat} {d : D} (h : Rps F vs ds) (e : ds[i]? = some d) : ∃ v, vs[i]? = some v ∧ Rp F v d := by
  obtain ⟨hi, _⟩ := List.getElem?_eq_some_iff.mp e
  have hv : i < vs.length := by rw [h.n]; exact hi
  exact ⟨vs[i], List.getElem?_eq_getElem hv, h.r i _ d (List.getElem?_eq_getElem hv) e⟩
theorem Rps.getv {F : Hp} {vs : List V} {ds : List D} {i : Nat} {v : V} (h : Rps F vs ds) (e : vs[i]? = some v) : ∃ d, ds[i]? = some d ∧ Rp F v d := by
  obtain ⟨hi, _⟩ := List.getElem?_eq_some_iff.mp e
  have hd : i < ds.length := by rw [← h.n]; exact hi
  exact ⟨ds[i], List.getElem?_eq_getElem hd, h.r i v _ e (List.getElem?_eq_getElem hd)⟩
theorem Rp.list {F : Hp} {v : V} {ds : List D} (h : Rp F v (.lst ds)) : ∃ a vs, v = .ref a ∧ F a = some (.lst vs) ∧ Rps F vs ds := by
  cases h with
  | lst h n r => exact ⟨_, _, rfl, h, n, r⟩
theorem Rp.tuple {F : Hp} {v : V} {ds : List D} (h : Rp F v (.tup ds)) : ∃ a vs, v = .ref a ∧ F a = some (.tup vs) ∧ Rps F vs ds := by
  cases h with
  | tup h n r => exact ⟨_, _, rfl, h, n, r⟩
theorem Rp.mkL {F : Hp} {a : Addr} {vs : List V} {ds : List D} (h : F a = some (.lst vs)) (r : Rps F vs ds) : Rp F (.ref a) (.lst ds) := .lst h r.n r.r
theorem Rp.mkT {F : Hp} {a : Addr} {vs : List V} {ds : List D} (h : F a = some (.tup vs)) (r : Rps F vs ds) : Rp F (.ref a) (.tup ds) := .tup h r.n r.r
theorem Rp.eint {F : Hp} {v : V} {i : Int} (h : Rp F v (.int i)) : v = .int i := by cases h; rfl
theorem Rp.ebl {F : Hp} {v : V} {b : Bool} (h : Rp F v (.bl b)) : v = .bl b := by cases h; rfl
theorem Rp.enon {F : Hp} {v : V} (h : Rp F v .non) : v = .non := by cases h; rfl
theorem Rp.estr {F : Hp} {v : V} {x : Str} (h : Rp F v (.str x)) : v = .str x := by cases h; rfl
theorem Rps.ints {F : Hp} : ∀ ns : List Int, Rps F (ns.map V.int) (ns.map D.int)
  | [] => .nil
  | n :: ns => .cons (.int n) (Rps.ints ns)
theorem Rps.eints {F : Hp} : ∀ {ns : List Int} {vs : List V}, Rps F vs (ns.map D.int) → vs = ns.map V.int
  | [], vs, h => h.unnil
  | n :: ns, vs, h => by
    obtain ⟨v, us, rfl, h1, h2⟩ := Rps.uncons (d := .int n) (ds := ns.map D.int) h
    rw [h1.eint, Rps.eints h2]; rfl

/-! ## to the library's data, for == -/
mutual
def D.toPy : D → PyData
  | .non => .none
  | .bl b => .bool b
  | .int i => .int i
  | .str x => .str x
  | .lst xs => .list (toPys xs)
  | .tup xs => .tuple (toPys xs)
  | .dct0 => .dict []
  | .obj _ _ _ => .dict []
  | .scr _ _ => .dict []
def toPys : List D → List PyData
  | [] => []
  | x :: xs => x.toPy :: toPys xs
end
theorem toPys_map : ∀ xs : List D, toPys xs = xs.map D.toPy
  | [] => rfl
  | x :: xs => by rw [toPys, List.map_cons, toPys_map xs]
mutual
theorem dp_of {K : PySem.W.Frag} {F H : Hp} (e : Ex F H) : ∀ (d : D) (v : V), d.toPy.canLay0 = true → Rp F v d → Dp K H v d.toPy
  | .non, _, _, h => by cases h; exact .non
  | .bl b, _, _, h => by cases h; exact .bl b
  | .int i, _, _, h => by cases h; exact .int i
  | .str x, _, _, h => by cases h; exact .str x
  | .lst ds, _, c, h => by
    obtain ⟨a, vs, rfl, ha, hr⟩ := h.list
    unfold D.toPy
    exact .lst (Or.inl (Or.inl (e _ _ ha))) (dps_of e ds vs (by simpa [D.toPy, PyData.canLay0] using c) hr)
  | .tup ds, _, c, h => by
    obtain ⟨a, vs, rfl, ha, hr⟩ := h.tuple
    unfold D.toPy
    exact .tup (Or.inl (Or.inl (e _ _ ha))) (dps_of e ds vs (by simpa [D.toPy, PyData.canLay0] using c) hr)
  | .dct0, _, c, _ => by simp [D.toPy, PyData.canLay0] at c
  | .obj _ _ _, _, c, _ => by simp [D.toPy, PyData.canLay0] at c
  | .scr _ _, _, c, _ => by simp [D.toPy, PyData.canLay0] at c
theorem dps_of {K : PySem.W.Frag} {F H : Hp} (e : Ex F H) : ∀ (ds : List D) (vs : List V), PyData.canLayAll0 (toPys ds) = true → Rps F vs ds → DpAll K H vs (toPys ds)
  | [], vs, _, h => by rw [h.unnil]; exact .nil
  | d :: ds, vs, c, h => by
    obtain ⟨v, us, rfl, h1, h2⟩ := h.uncons
    have c' : d.toPy.canLay0 = true ∧ PyData.canLayAll0 (toPys ds) = true := by simpa [toPys, PyData.canLayAll0] using c
    unfold toPys
    exact .cons (dp_of e d v c'.1 h1) (dps_of e ds us c'.2 h2)
end
def eqD (d e : D) : Bool := PyData.eqv d.toPy e.toPy
def okE (d : D) : Bool := SeqAt.shaped d.toPy

/-! ## frames: F the frozen part of H -/
structure Nx (F H F2 H2 : Hp) : Prop where
  f : Ex F F2
  h : Ex H H2
  fh : Ex F2 H2
  n : ∀ p, H p ≠ none → F p = none → F2 p = none
theorem Nx.refl {F H : Hp} (e : Ex F H) : Nx F H F H := ⟨Ex.refl F, Ex.refl H, e, fun _ _ h => h⟩
theorem Ex.ne {H H2 : Hp} (e : Ex H H2) {p : Addr} (h : H p ≠ none) : H2 p ≠ none := by
  cases q : H p with
  | none => exact absurd q h
  | some o => rw [e p o q]; exact fun z => nomatch z
theorem Nx.trans {F H F2 H2 F3 H3 : Hp} (a : Nx F H F2 H2) (b : Nx F2 H2 F3 H3) : Nx F H F3 H3 :=
  ⟨a.f.trans b.f, a.h.trans b.h, b.fh, fun p h q => b.n p (Ex.ne a.h h) (a.n p h q)⟩
/-- the frozen part forgotten again -/
theorem Nx.drop {F H F2 H2 : Hp} (a : Nx F H F2 H2) : Nx F H F H2 := ⟨Ex.refl F, a.h, a.f.trans a.fh, fun _ _ h => h⟩
theorem Nx.up {F H F2 H2 H3 : Hp} (a : Nx F H F2 H2) (e : Ex H2 H3) : Nx F H F2 H3 := ⟨a.f, a.h.trans e, a.fh.trans e, a.n⟩
/-- a new object, frozen at once -/
theorem Nx.new {F H : Hp} {p : Addr} {o : HO} (e : Ex F H) (hp : H p = none) : Nx F H (upd F p o) (upd H p o) := by
  have fp := fresh_back e hp
  refine ⟨Ex.new fp, Ex.new hp, fun b u h => ?_, fun b h q => ?_⟩
  · by_cases hb : b = p
    · subst hb; rw [upd_same] at h ⊢; exact h
    · rw [upd_ne hb] at h ⊢; exact e b u h
  · have hb : b ≠ p := fun z => h (by rw [z]; exact hp)
    rw [upd_ne hb]; exact q
/-- an object that stands outside the frozen part is frozen -/
theorem Nx.freeze {F0 H0 F H : Hp} {p : Addr} {o : HO} (a : Nx F0 H0 F H) (h0 : H0 p = none) (fp : F p = none) (hp : H p = some o) : Nx F0 H0 (upd F p o) H := by
  refine ⟨a.f.trans (Ex.new fp), a.h, fun b u h => ?_, fun b h q => ?_⟩
  · by_cases hb : b = p
    · subst hb; rw [upd_same] at h; rw [hp]; exact h
    · rw [upd_ne hb] at h; exact a.fh b u h
  · have hb : b ≠ p := fun z => h (by rw [z]; exact h0)
    rw [upd_ne hb]; exact a.n b h q
/-- an object outside the frozen part changes -/
theorem Nx.mut {F0 H0 F H : Hp} {p : Addr} {o : HO} (a : Nx F0 H0 F H) (h0 : H0 p = none) (fp : F p = none) : Nx F0 H0 F (upd H p o) :=
  ⟨a.f, Ex.mut a.h h0, Ex.mut a.fh fp, a.n⟩

/-! ## what evaluates to what -/
def ED (te : TE) (σ : L2.St) (F : Hp) (d : D) : Prop := ∀ F1 H1, Ex F F1 → Ex F1 H1 → ∀ Q : VK, (∀ v F2 H2, Nx F1 H1 F2 H2 → Rp F2 v d → Q v H2) → te σ H1 Q
def ET (tt : TT) (σ : L2.St) (F : Hp) (b : Bool) : Prop := ∀ F1 H1, Ex F F1 → Ex F1 H1 → ∀ Q : Bool → Hp → Prop, (∀ F2 H2, Nx F1 H1 F2 H2 → Q b H2) → tt σ H1 Q
def EA (ta : TA) (σ : L2.St) (F : Hp) (ds : List D) : Prop := ∀ F1 H1, Ex F F1 → Ex F1 H1 → ∀ Q : List V → Hp → Prop, (∀ vs F2 H2, Nx F1 H1 F2 H2 → Rps F2 vs ds → Q vs H2) → ta σ H1 Q
def EO (to : TO) (σ : L2.St) (F : Hp) (o : Option Int) : Prop := ∀ F1 H1, Ex F F1 → Ex F1 H1 → ∀ Q : Option Int → Hp → Prop, (∀ F2 H2, Nx F1 H1 F2 H2 → Q o H2) → to σ H1 Q
def RD (r : R2) (F : Hp) (x y z : D) : Prop := ∀ F1 H1 v u, Ex F F1 → Ex F1 H1 → Rp F1 v x → Rp F1 u y → ∀ Q : VK, (∀ w F2 H2, Nx F1 H1 F2 H2 → Rp F2 w z → Q w H2) → r v u H1 Q
def RL (r : List V → Hp → VK → Prop) (F : Hp) (xs : List D) (z : D) : Prop := ∀ F1 H1 vs, Ex F F1 → Ex F1 H1 → Rps F1 vs xs → ∀ Q : VK, (∀ w F2 H2, Nx F1 H1 F2 H2 → Rp F2 w z → Q w H2) → r vs H1 Q

section
variable {K : PySem.W.Frag} {σ : L2.St} {F F' : Hp} {ta tb te tx : TE} {t u : TT} {x y z d : D} {r : R2}
theorem ED.mono (e : Ex F F') (h : ED te σ F d) : ED te σ F' d := fun F1 H1 a b Q q => h F1 H1 (e.trans a) b Q q
theorem ET.mono {b : Bool} (e : Ex F F') (h : ET t σ F b) : ET t σ F' b := fun F1 H1 a b Q q => h F1 H1 (e.trans a) b Q q
theorem ED.is {d' : D} (h : ED te σ F d) (e : d = d') : ED te σ F d' := e ▸ h
theorem ET.is {b b' : Bool} (h : ET t σ F b) (e : b = b') : ET t σ F b' := e ▸ h
theorem ed_var {i : Nat} {v : V} (h : σ[i]? = some (some v)) (r : Rp F v d) : ED (tVar i) σ F d := fun F1 H1 e1 e2 _ q => ⟨v, h, q v F1 H1 (Nx.refl e2) (r.mono e1)⟩
theorem ed_c {v : V} (r : Rp F v d) : ED (tC v) σ F d := fun F1 H1 e1 e2 _ q => q v F1 H1 (Nx.refl e2) (r.mono e1)
theorem ed_int {i : Int} : ED (tC (.int i)) σ F (.int i) := ed_c (.int i)
theorem ed_bl {b : Bool} : ED (tC (.bl b)) σ F (.bl b) := ed_c (.bl b)
theorem ed_str {b : Str} : ED (tC (.str b)) σ F (.str b) := ed_c (.str b)
theorem ed_non : ED (tC .non) σ F .non := ed_c .non
theorem ed_op (ha : ED ta σ F x) (hb : ED tb σ F y) (hr : RD r F x y z) : ED (tOp r ta tb) σ F z := fun F1 H1 e1 e2 Q q =>
  ha F1 H1 e1 e2 _ fun v F2 H2 n2 r2 => hb F2 H2 (e1.trans n2.f) n2.fh _ fun w F3 H3 n3 r3 => hr F3 H3 v w ((e1.trans n2.f).trans n3.f) n3.fh (r2.mono n3.f) r3 Q fun w' F4 H4 n4 r4 => q w' F4 H4 ((n2.trans n3).trans n4) r4
theorem ea_nil : EA tNil σ F [] := fun F1 H1 e1 e2 _ q => q [] F1 H1 (Nx.refl e2) .nil
theorem ea_cons {tr : TA} {ds : List D} (ha : ED ta σ F x) (hr : EA tr σ F ds) : EA (tCons ta tr) σ F (x :: ds) := fun F1 H1 e1 e2 Q q =>
  ha F1 H1 e1 e2 _ fun v F2 H2 n2 r2 => hr F2 H2 (e1.trans n2.f) n2.fh _ fun vs F3 H3 n3 r3 => q _ F3 H3 (n2.trans n3) (.cons (r2.mono n3.f) r3)
theorem ed_tup {ta : TA} {ds : List D} (h : EA ta σ F ds) (hl : ds.length ≤ 100000) : ED (tTup ta) σ F (.tup ds) := fun F1 H1 e1 e2 Q q =>
  h F1 H1 e1 e2 _ fun vs F2 H2 n2 r2 => ⟨sz_of (by rw [r2.n]; exact hl), fun p hp => q _ _ _ (n2.trans (Nx.new n2.fh hp)) (Rp.mkT upd_same (r2.mono (Ex.new (fresh_back n2.fh hp))))⟩
theorem ed_lst {ta : TA} {ds : List D} (h : EA ta σ F ds) (hl : ds.length ≤ 100000) : ED (tLst ta) σ F (.lst ds) := fun F1 H1 e1 e2 Q q =>
  h F1 H1 e1 e2 _ fun vs F2 H2 n2 r2 => ⟨sz_of (by rw [r2.n]; exact hl), fun p hp => q _ _ _ (n2.trans (Nx.new n2.fh hp)) (Rp.mkL upd_same (r2.mono (Ex.new (fresh_back n2.fh hp))))⟩
theorem ed_cb {r : List V → Hp → VK → Prop} {ta : TA} {ds : List D} (h : EA ta σ F ds) (hr : RL r F ds z) : ED (tCB r ta) σ F z := fun F1 H1 e1 e2 Q q =>
  h F1 H1 e1 e2 _ fun vs F2 H2 n2 r2 => hr F2 H2 vs (e1.trans n2.f) n2.fh r2 Q fun w F3 H3 n3 r3 => q w F3 H3 (n2.trans n3) r3

/-! ### operators -/
theorem rd_I0 {g : Int → Int → V} {i j : Int} {z : D} (h : ∀ F, Rp F (g i j) z) : RD (rI0 g) F (.int i) (.int j) z := fun F1 H1 v u _ e2 rv ru Q q =>
  ⟨i, j, rv.eint, ru.eint, q _ F1 H1 (Nx.refl e2) (h F1)⟩
theorem rd_I {C : Int → Int → Prop} {g : Int → Int → V} {i j : Int} {z : D} (hc : C i j) (h : ∀ F, Rp F (g i j) z) : RD (rI C g) F (.int i) (.int j) z := fun F1 H1 v u _ e2 rv ru Q q =>
  ⟨i, j, rv.eint, ru.eint, hc, q _ F1 H1 (Nx.refl e2) (h F1)⟩
theorem rd_add {i j : Int} : RD (rI0 fun i j => .int (i + j)) F (.int i) (.int j) (.int (i + j)) := rd_I0 fun _ => .int _
theorem rd_sub {i j : Int} : RD (rI0 fun i j => .int (i - j)) F (.int i) (.int j) (.int (i - j)) := rd_I0 fun _ => .int _
theorem rd_mul {i j : Int} (h : CMul i j) : RD (rI CMul fun i j => .int (i * j)) F (.int i) (.int j) (.int (i * j)) := rd_I h fun _ => .int _
theorem rd_fdiv {i j : Int} (h : CDiv i j) : RD (rI CDiv fun i j => .int (i / j)) F (.int i) (.int j) (.int (i / j)) := rd_I h fun _ => .int _
theorem rd_mod {i j : Int} (h : 0 < j) : RD (rI (fun _ j => 0 < j) fun i j => .int (i % j)) F (.int i) (.int j) (.int (i % j)) := rd_I h fun _ => .int _
theorem rd_lt {i j : Int} : RD (rI0 fun i j => .bl (decide (i < j))) F (.int i) (.int j) (.bl (decide (i < j))) := rd_I0 fun _ => .bl _
theorem rd_le {i j : Int} : RD (rI0 fun i j => .bl (decide (i ≤ j))) F (.int i) (.int j) (.bl (decide (i ≤ j))) := rd_I0 fun _ => .bl _
theorem rd_gt {i j : Int} : RD (rI0 fun i j => .bl (decide (j < i))) F (.int i) (.int j) (.bl (decide (j < i))) := rd_I0 fun _ => .bl _
theorem rd_ge {i j : Int} : RD (rI0 fun i j => .bl (decide (j ≤ i))) F (.int i) (.int j) (.bl (decide (j ≤ i))) := rd_I0 fun _ => .bl _
theorem rd_eqD (hx : okE x = true) (hy : okE y = true) : RD (rEqD K) F x y (.bl (eqD x y)) := fun F1 H1 v u _ e2 rv ru Q q =>
  ⟨x.toPy, y.toPy, dp_of e2 x v (SeqAt.canLay_of_shaped hx) rv, dp_of e2 y u (SeqAt.canLay_of_shaped hy) ru, hx, hy, q _ F1 H1 (Nx.refl e2) (.bl _)⟩
theorem rd_neD (hx : okE x = true) (hy : okE y = true) : RD (rNeD K) F x y (.bl (!eqD x y)) := fun F1 H1 v u _ e2 rv ru Q q =>
  ⟨x.toPy, y.toPy, dp_of e2 x v (SeqAt.canLay_of_shaped hx) rv, dp_of e2 y u (SeqAt.canLay_of_shaped hy) ru, hx, hy, q _ F1 H1 (Nx.refl e2) (.bl _)⟩
def isNonD : D → Bool
  | .non => true
  | _ => false
theorem isNon_rp {v : V} {d : D} (r : Rp F v d) : decide (v = .non) = isNonD d := by cases r <;> rfl
theorem rd_isN : RD rIsN F x .non (.bl (isNonD x)) := fun F1 H1 v u _ e2 rv ru Q q => ⟨ru.enon, q _ F1 H1 (Nx.refl e2) (by rw [isNon_rp rv]; exact .bl _)⟩
theorem rd_notN : RD rNotN F x .non (.bl (!isNonD x)) := fun F1 H1 v u _ e2 rv ru Q q => ⟨ru.enon, q _ F1 H1 (Nx.refl e2) (by rw [isNon_rp rv]; exact .bl _)⟩
/-- xs[i] of a list, of a tuple -/
theorem rd_ixL {ds : List D} {i : Int} {d : D} (h : atI ds i = some d) : RD (rIxL K) F (.lst ds) (.int i) d := fun F1 H1 v u _ e2 rv ru Q q => by
  obtain ⟨a, vs, rfl, ha, hr⟩ := rv.list
  unfold atI at h
  cases hj : ixN ds.length i with
  | none => rw [hj] at h; cases h
  | some j =>
    rw [hj] at h
    obtain ⟨w, hw, rw_⟩ := hr.get (show ds[j]? = some d from h)
    refine ⟨a, vs, i, w, rfl, ru.eint, Or.inl (Or.inl (e2 _ _ ha)), ?_, q w F1 H1 (Nx.refl e2) rw_⟩
    unfold atI
    rw [hr.n, hj]; exact hw
theorem rd_ixT {ds : List D} {i : Int} {d : D} (h : atI ds i = some d) : RD (rIxT K) F (.tup ds) (.int i) d := fun F1 H1 v u _ e2 rv ru Q q => by
  obtain ⟨a, vs, rfl, ha, hr⟩ := rv.tuple
  unfold atI at h
  cases hj : ixN ds.length i with
  | none => rw [hj] at h; cases h
  | some j =>
    rw [hj] at h
    obtain ⟨w, hw, rw_⟩ := hr.get (show ds[j]? = some d from h)
    refine ⟨a, vs, i, w, rfl, ru.eint, Or.inl (Or.inl (e2 _ _ ha)), ?_, q w F1 H1 (Nx.refl e2) rw_⟩
    unfold atI
    rw [hr.n, hj]; exact hw
/-- x in a list of whole numbers -/
theorem inV_ints {i : Int} : ∀ ns : List Int, inV (.int i) (ns.map V.int) = decide (i ∈ ns)
  | [] => rfl
  | n :: ns => by
    have ih := inV_ints (i := i) ns
    unfold inV at ih ⊢
    rw [List.map_cons, List.any_cons, ih]
    have e : eqV (.int n) (.int i) = decide (n = i) := rfl
    rw [e]
    by_cases h : n = i
    · subst h; simp
    · have h' : ¬ i = n := fun z => h z.symm
      simp [h, h']
theorem flat_ints (ns : List Int) : (ns.map V.int).all flatV = true := List.all_eq_true.mpr fun x hx => by
  obtain ⟨n, _, rfl⟩ := List.mem_map.mp hx
  rfl
theorem rd_in {i : Int} {ns : List Int} : RD (rIn K false) F (.int i) (.lst (ns.map D.int)) (.bl (decide (i ∈ ns))) := fun F1 H1 v u _ e2 rv ru Q q => by
  obtain ⟨a, vs, rfl, ha, hr⟩ := ru.list
  have e := hr.eints
  subst e
  rw [rv.eint]
  refine ⟨a, _, rfl, Or.inl (Or.inl (Or.inl (e2 _ _ ha))), rfl, flat_ints ns, ?_⟩
  rw [inV_ints]
  exact q _ F1 H1 (Nx.refl e2) (.bl _)
theorem rd_notIn {i : Int} {ns : List Int} : RD (rIn K true) F (.int i) (.lst (ns.map D.int)) (.bl (!decide (i ∈ ns))) := fun F1 H1 v u _ e2 rv ru Q q => by
  obtain ⟨a, vs, rfl, ha, hr⟩ := ru.list
  have e := hr.eints
  subst e
  rw [rv.eint]
  refine ⟨a, _, rfl, Or.inl (Or.inl (Or.inl (e2 _ _ ha))), rfl, flat_ints ns, ?_⟩
  rw [inV_ints]
  exact q _ F1 H1 (Nx.refl e2) (.bl _)
/-- xs + ys, both lists -/
theorem rd_cat {xs ys : List D} (h : xs.length + ys.length ≤ 100000) : RD rCat F (.lst xs) (.lst ys) (.lst (xs ++ ys)) := fun F1 H1 v u _ e2 rv ru Q q => by
  obtain ⟨a, vs, rfl, ha, hr⟩ := rv.list
  obtain ⟨b, us, rfl, hb, hs⟩ := ru.list
  refine ⟨a, b, vs, us, rfl, rfl, e2 _ _ ha, e2 _ _ hb, sz_of (by rw [hr.n, hs.n]; exact h), fun p hp => ?_⟩
  exact q _ _ _ (Nx.new e2 hp) (Rp.mkL upd_same ((hr.append hs).mono (Ex.new (fresh_back e2 hp))))
theorem ed_un {i : Int} (ha : ED ta σ F (.int i)) : ED (tUn (rU fun i => .int (-i)) ta) σ F (.int (-i)) := fun F1 H1 e1 e2 Q q =>
  ha F1 H1 e1 e2 _ fun v F2 H2 n2 r2 => ⟨i, r2.eint, q _ F2 H2 n2 (.int _)⟩

/-! ### tests, values of truth -/
theorem et_test {b : Bool} (h : ED te σ F (.bl b)) : ET (tTest te) σ F b := fun F1 H1 e1 e2 _ q => h F1 H1 e1 e2 _ fun v F2 H2 n2 r2 => ⟨b, r2.ebl, q F2 H2 n2⟩
theorem et_B {b : Bool} (h : ED te σ F (.bl b)) : ET (tB te) σ F b := fun F1 H1 e1 e2 _ q => h F1 H1 e1 e2 _ fun v F2 H2 n2 r2 => ⟨b, r2.ebl, q F2 H2 n2⟩
theorem et_and {a b : Bool} (h1 : ET t σ F a) (h2 : a = true → ET u σ F b) : ET (tAnd t u) σ F (a && b) := fun F1 H1 e1 e2 Q q => h1 F1 H1 e1 e2 _ fun F2 H2 n2 => by
  cases a with
  | true =>
    show u σ H2 Q
    exact h2 rfl F2 H2 (e1.trans n2.f) n2.fh Q fun F3 H3 n3 => q F3 H3 (n2.trans n3)
  | false => exact q F2 H2 n2
theorem et_or {a b : Bool} (h1 : ET t σ F a) (h2 : a = false → ET u σ F b) : ET (tOr t u) σ F (a || b) := fun F1 H1 e1 e2 Q q => h1 F1 H1 e1 e2 _ fun F2 H2 n2 => by
  cases a with
  | true => exact q F2 H2 n2
  | false =>
    show u σ H2 Q
    exact h2 rfl F2 H2 (e1.trans n2.f) n2.fh Q fun F3 H3 n3 => q F3 H3 (n2.trans n3)
theorem et_not {a : Bool} (h1 : ET t σ F a) : ET (tNot t) σ F (!a) := fun F1 H1 e1 e2 _ q => h1 F1 H1 e1 e2 _ fun F2 H2 n2 => q F2 H2 n2
theorem ed_and {a b : Bool} (h1 : ED ta σ F (.bl a)) (h2 : a = true → ED tb σ F (.bl b)) : ED (tAndV ta tb) σ F (.bl (a && b)) := fun F1 H1 e1 e2 Q q => h1 F1 H1 e1 e2 _ fun v F2 H2 n2 r2 => ⟨a, r2.ebl, by
  cases a with
  | true =>
    show tb σ H2 Q
    exact h2 rfl F2 H2 (e1.trans n2.f) n2.fh Q fun v F3 H3 n3 r3 => q v F3 H3 (n2.trans n3) r3
  | false => exact q _ F2 H2 n2 (.bl _)⟩
theorem ed_or {a b : Bool} (h1 : ED ta σ F (.bl a)) (h2 : a = false → ED tb σ F (.bl b)) : ED (tOrV ta tb) σ F (.bl (a || b)) := fun F1 H1 e1 e2 Q q => h1 F1 H1 e1 e2 _ fun v F2 H2 n2 r2 => ⟨a, r2.ebl, by
  cases a with
  | true => exact q _ F2 H2 n2 (.bl _)
  | false =>
    show tb σ H2 Q
    exact h2 rfl F2 H2 (e1.trans n2.f) n2.fh Q fun v F3 H3 n3 r3 => q v F3 H3 (n2.trans n3) r3⟩
theorem ed_not {a : Bool} (h1 : ED ta σ F (.bl a)) : ED (tNotV ta) σ F (.bl (!a)) := fun F1 H1 e1 e2 Q q => h1 F1 H1 e1 e2 _ fun v F2 H2 n2 r2 => ⟨a, r2.ebl, q _ F2 H2 n2 (.bl _)⟩
theorem ed_if {b : Bool} (h : ET t σ F b) (h1 : b = true → ED ta σ F d) (h2 : b = false → ED tb σ F d) : ED (tIf t ta tb) σ F d := fun F1 H1 e1 e2 Q q => h F1 H1 e1 e2 _ fun F2 H2 n2 => by
  cases b with
  | true =>
    show ta σ H2 Q
    exact h1 rfl F2 H2 (e1.trans n2.f) n2.fh Q fun v F3 H3 n3 r3 => q v F3 H3 (n2.trans n3) r3
  | false =>
    show tb σ H2 Q
    exact h2 rfl F2 H2 (e1.trans n2.f) n2.fh Q fun v F3 H3 n3 r3 => q v F3 H3 (n2.trans n3) r3
/-- a <= b <= c: the chain -/
theorem ed_chain {r r' : R2} {a b : Bool} {x y w : D} {tc : TE} (ha : ED ta σ F x) (hb : ED tb σ F y) (hr : RD r F x y (.bl a)) (hc : a = true → ED tc σ F w) (hr' : a = true → RD r' F y w (.bl b)) : ED (tChain r r' ta tb tc) σ F (.bl (a && b)) := fun F1 H1 e1 e2 Q q =>
  ha F1 H1 e1 e2 _ fun v F2 H2 n2 r2 => hb F2 H2 (e1.trans n2.f) n2.fh _ fun u F3 H3 n3 r3 =>
    hr F3 H3 v u ((e1.trans n2.f).trans n3.f) n3.fh (r2.mono n3.f) r3 _ fun w' F4 H4 n4 r4 => ⟨a, r4.ebl, by
      cases a with
      | true =>
        show tc σ H4 _
        exact hc rfl F4 H4 (((e1.trans n2.f).trans n3.f).trans n4.f) n4.fh _ fun p F5 H5 n5 r5 =>
          hr' rfl F5 H5 u p ((((e1.trans n2.f).trans n3.f).trans n4.f).trans n5.f) n5.fh (r3.mono (n4.f.trans n5.f)) r5 Q fun z F6 H6 n6 r6 => q z F6 H6 ((((n2.trans n3).trans n4).trans n5).trans n6) r6
      | false => exact q _ F4 H4 ((n2.trans n3).trans n4) (.bl _)⟩
end
end Bp
namespace Bp
open PySem PySem.Spec PyProof.Rows L2 Evl

/-! ## rules of our own: the type of a value, also of a dict; `is True` -/
def kTypD (x : V) (H : Hp) (Q : VK) : Prop := kTyp x H Q ∨ ∃ p kvs, x = .ref p ∧ H p = some (.dK kvs) ∧ Q (.ty "dict") H
section
variable {X : Cx}
theorem call_typD : CallR X (.type "type") (r1 kTypD) := by
  refine call_r1 fun pins s σ H x v Q I r h => ?_
  rcases h with h | ⟨p, kvs, e, hp, q⟩
  · exact rl_type pins s σ H x v Q I r h
  · subst e
    obtain rfl : v = Value.ref p := r
    obtain ⟨_, ys, vs, _, od, es, ep, h1, h2, _⟩ := I.hok p _ hp
    exact call_type_of (Tx := "dict") ⟨od, h1, h2.1⟩ (by decide +kernel) ⟨.ty "dict", H, I, rfl, q⟩
theorem pe_typD {a : Expr} {ta : TE} {p pos : Pos} (hg : Gl X "type") (hm : X.mg "type" = none) (ha : PE X a ta) (na : starEach [a] X.env = (false, eval a X.env) :: starEach [] X.env := by rfl) :
    PE X (.Call (.Name "type" p) [a] [] pos) (tThenZ ta kTypD) := pe_callTy call_typD hg hm (by decide +kernel) (pa_cons ha pa_nil na) (he := na)
def rIsTy : R2 := fun x y H Q => ∃ m n, x = .ty m ∧ y = .ty n ∧ Q (.bl (decide (m = n))) H
theorem op_isTy' : OpR X (compareOp .Is) rIsTy := op_isTy
/-- x is True, x is False: whatever x is -/
def rIsBo : R2 := fun x y H Q => ∃ b, y = .bl b ∧ Q (.bl (decide (x = .bl b))) H
def rNotBo : R2 := fun x y H Q => ∃ b, y = .bl b ∧ Q (.bl (!decide (x = .bl b))) H
theorem plain_bool {x : V} {v : Value} (r : RelV x v) (b : Bool) : plainIs v (.bool b) = true ∧ (v = .bool b ↔ x = .bl b) := by
  cases x with
  | non => cases (show v = Value.none from r); exact ⟨rfl, by simp⟩
  | bl y => cases (show v = Value.bool y from r); exact ⟨rfl, by simp⟩
  | int i => obtain ⟨t, rfl⟩ := (show ∃ t, v = Value.int i t from r); exact ⟨rfl, by simp⟩
  | str y => obtain ⟨t, rfl⟩ := (show ∃ t, v = Value.str y t from r); exact ⟨rfl, by simp⟩
  | byt y => obtain ⟨t, rfl⟩ := (show ∃ t, v = Value.bytes y t from r); exact ⟨rfl, by simp⟩
  | flt y => obtain ⟨t, rfl⟩ := (show ∃ t, v = Value.float y t from r); exact ⟨rfl, by simp⟩
  | ty n => cases (show v = Value.type n from r); exact ⟨rfl, by simp⟩
  | ref p => cases (show v = Value.ref p from r); exact ⟨rfl, by simp⟩
theorem op_isBo : OpR X (compareOp .Is) rIsBo := by
  intro pins s σ H x y v u Q I rx ry h
  obtain ⟨b, rfl, q⟩ := h
  cases (show u = Value.bool b from ry)
  obtain ⟨h1, h2⟩ := plain_bool rx b
  by_cases e : x = .bl b
  · have ev := h2.mpr e
    subst ev
    exact wpAny_is_self rfl ⟨.bl true, H, I, rfl, by simpa [e] using q⟩
  · exact wpAny_is_other h1 (fun z => e (h2.mp z)) ⟨.bl false, H, I, rfl, by simpa [e] using q⟩
theorem op_notBo : OpR X (compareOp .IsNot) rNotBo := by
  intro pins s σ H x y v u Q I rx ry h
  obtain ⟨b, rfl, q⟩ := h
  cases (show u = Value.bool b from ry)
  obtain ⟨h1, h2⟩ := plain_bool rx b
  by_cases e : x = .bl b
  · have ev := h2.mpr e
    subst ev
    exact wpAny_isNot_self rfl ⟨.bl false, H, I, rfl, by simpa [e] using q⟩
  · exact wpAny_isNot_other h1 (fun z => e (h2.mp z)) ⟨.bl true, H, I, rfl, by simpa [e] using q⟩
end

/-! ## their readings over data -/
def tyD : D → String
  | .non => "NoneType"
  | .bl _ => "bool"
  | .int _ => "int"
  | .str _ => "str"
  | .lst _ => "list"
  | .tup _ => "tuple"
  | .dct0 => "dict"
  | .obj _ _ _ => "object"
  | .scr _ _ => "script"
def isBo (b : Bool) : D → Bool
  | .bl c => c == b
  | _ => false
def noObj : D → Bool
  | .obj _ _ _ => false
  | .scr _ _ => false
  | _ => true
section
variable {K : PySem.W.Frag} {σ : L2.St} {F F' : Hp} {ta tb te tx : TE} {t u : TT} {x y z d : D} {r : R2}
theorem ed_typ {T : String} (h : ED ta σ F d) (no : noObj d = true) : ED (tOp rIsTy (tThenZ ta kTypD) (tC (.ty T))) σ F (.bl (decide (tyD d = T))) := fun F1 H1 e1 e2 Q q =>
  h F1 H1 e1 e2 _ fun v F2 H2 n2 r2 => by
    have fin : rIsTy (.ty (tyD d)) (.ty T) H2 Q := ⟨_, _, rfl, rfl, q _ F2 H2 n2 (.bl _)⟩
    show kTypD v H2 fun x H1 => rIsTy x (.ty T) H1 Q
    cases r2 with
    | non => exact Or.inl ⟨_, rfl, fin⟩
    | bl b => exact Or.inl ⟨_, rfl, fin⟩
    | int i => exact Or.inl ⟨_, rfl, fin⟩
    | str x => exact Or.inl ⟨_, rfl, fin⟩
    | lst ha hn hr => exact Or.inl ⟨"list", by simp only [zTyV, n2.fh _ _ ha], fin⟩
    | tup ha hn hr => exact Or.inl ⟨"tuple", by simp only [zTyV, n2.fh _ _ ha], fin⟩
    | dct0 ha => exact Or.inr ⟨_, _, rfl, n2.fh _ _ ha, fin⟩
    | obj _ _ _ _ => cases no
    | scr _ => cases no
theorem bo_rp {v : V} {d : D} (b : Bool) (r : Rp F v d) : decide (v = .bl b) = isBo b d := by
  cases r with
  | bl c => cases c <;> cases b <;> rfl
  | _ => rfl
theorem rd_isBo {b : Bool} : RD rIsBo F x (.bl b) (.bl (isBo b x)) := fun F1 H1 v u _ e2 rv ru Q q => ⟨b, ru.ebl, q _ F1 H1 (Nx.refl e2) (by rw [bo_rp b rv]; exact .bl _)⟩
theorem rd_notBo {b : Bool} : RD rNotBo F x (.bl b) (.bl (!isBo b x)) := fun F1 H1 v u _ e2 rv ru Q q => ⟨b, ru.ebl, q _ F1 H1 (Nx.refl e2) (by rw [bo_rp b rv]; exact .bl _)⟩
/-- isinstance(x, T), T a built-in type -/
theorem ed_isi {T : String} {b : Bool} (h : ED ta σ F d) (no : noObj d = true) (hk : kitB (tyD d) T = some b) : ED (tCB (rIsi K) (tCons ta (tCons (tC (.ty T)) tNil))) σ F (.bl b) := fun F1 H1 e1 e2 Q q =>
  h F1 H1 e1 e2 _ fun v F2 H2 n2 r2 => by
    refine ⟨v, .ty T, .type (tyD d), .type T, b, rfl, .ty T, ?_, kit_ty hk, q _ F2 H2 n2 (.bl _)⟩
    cases r2 with
    | non => exact .base .non
    | bl b => exact .base (.bl b)
    | int i => exact .base (.int i)
    | str x => exact .base (.str x)
    | lst ha hn hr => exact .base (.lst (n2.fh _ _ ha))
    | tup ha hn hr => exact .base (.tup (n2.fh _ _ ha))
    | dct0 ha => exact .base (.dK (n2.fh _ _ ha))
    | obj _ _ _ _ => cases no
    | scr _ => cases no
/-! ## built-ins -/
def rLenS' (K : PySem.W.Frag) : List V → Hp → VK → Prop := fun xs H Q => ∃ p ys, xs = [.ref p] ∧ (SqL K H p ys ∨ SqT K H p ys) ∧ Q (.int ys.length) H
def rListS' (K : PySem.W.Frag) : List V → Hp → VK → Prop := fun xs H Q => ∃ p ys, xs = [.ref p] ∧ (SqL K H p ys ∨ SqT K H p ys) ∧ ∀ l, H l = none → Q (.ref l) (upd H l (.lst ys))
def rMax2' : List V → Hp → VK → Prop := fun xs H Q => ∃ i j, xs = [.int i, .int j] ∧ Q (.int (if j > i then j else i)) H
def rMin2' : List V → Hp → VK → Prop := fun xs H Q => ∃ i j, xs = [.int i, .int j] ∧ Q (.int (if j < i then j else i)) H
theorem cl_len {X : Cx} : CallR X (.builtin "len") (rLenS' X.K) := call_len_seq
theorem cl_list {X : Cx} : CallR X (.type "list") (rListS' X.K) := call_list_of
theorem cl_max2 {X : Cx} (hc : X.calm = true) : CallR X (.builtin "max") rMax2' := call_max2 hc
theorem cl_min2 {X : Cx} (hc : X.calm = true) : CallR X (.builtin "min") rMin2' := call_min2 hc
theorem rl_lenL {ds : List D} : RL (rLenS' K) F [.lst ds] (.int ds.length) := fun F1 H1 vs _ e2 rv Q q => by
  obtain ⟨v, us, rfl, h1, h2⟩ := rv.uncons
  rw [h2.unnil]
  obtain ⟨a, ws, rfl, ha, hr⟩ := h1.list
  exact ⟨a, ws, rfl, Or.inl (Or.inl (Or.inl (e2 _ _ ha))), q _ F1 H1 (Nx.refl e2) (by rw [hr.n]; exact .int _)⟩
theorem rl_lenT {ds : List D} : RL (rLenS' K) F [.tup ds] (.int ds.length) := fun F1 H1 vs _ e2 rv Q q => by
  obtain ⟨v, us, rfl, h1, h2⟩ := rv.uncons
  rw [h2.unnil]
  obtain ⟨a, ws, rfl, ha, hr⟩ := h1.tuple
  exact ⟨a, ws, rfl, Or.inr (Or.inl (Or.inl (e2 _ _ ha))), q _ F1 H1 (Nx.refl e2) (by rw [hr.n]; exact .int _)⟩
theorem rl_list {ds : List D} : RL (rListS' K) F [.lst ds] (.lst ds) := fun F1 H1 vs _ e2 rv Q q => by
  obtain ⟨v, us, rfl, h1, h2⟩ := rv.uncons
  rw [h2.unnil]
  obtain ⟨a, ws, rfl, ha, hr⟩ := h1.list
  exact ⟨a, ws, rfl, Or.inl (Or.inl (Or.inl (e2 _ _ ha))), fun p hp => q _ _ _ (Nx.new e2 hp) (Rp.mkL upd_same (hr.mono (Ex.new (fresh_back e2 hp))))⟩
theorem rl_max2 {i j : Int} : RL rMax2' F [.int i, .int j] (.int (if j > i then j else i)) := fun F1 H1 vs _ e2 rv Q q => by
  obtain ⟨v, us, rfl, h1, h2⟩ := rv.uncons
  obtain ⟨w, us', rfl, h3, h4⟩ := h2.uncons
  rw [h4.unnil, h1.eint, h3.eint]
  exact ⟨i, j, rfl, q _ F1 H1 (Nx.refl e2) (.int _)⟩
theorem rl_min2 {i j : Int} : RL rMin2' F [.int i, .int j] (.int (if j < i then j else i)) := fun F1 H1 vs _ e2 rv Q q => by
  obtain ⟨v, us, rfl, h1, h2⟩ := rv.uncons
  obtain ⟨w, us', rfl, h3, h4⟩ := h2.uncons
  rw [h4.unnil, h1.eint, h3.eint]
  exact ⟨i, j, rfl, q _ F1 H1 (Nx.refl e2) (.int _)⟩
/-! ## slices -/
theorem Rps.take {vs : List V} {ds : List D} (h : Rps F vs ds) (n : Nat) : Rps F (vs.take n) (ds.take n) := by
  refine ⟨by simp [h.n], fun i v d a b => ?_⟩
  rw [List.getElem?_take] at a b
  split at a
  · rename_i hi
    rw [if_pos hi] at b
    exact h.r i v d a b
  · cases a
theorem Rps.drop {vs : List V} {ds : List D} (h : Rps F vs ds) (n : Nat) : Rps F (vs.drop n) (ds.drop n) := by
  refine ⟨by simp [h.n], fun i v d a b => ?_⟩
  rw [List.getElem?_drop] at a b
  exact h.r _ v d a b
def cutL (xs : List D) (lo hi : Option Int) : List D := (xs.drop (HT.sIx xs.length 0 lo)).take (HT.sIx xs.length xs.length hi - HT.sIx xs.length 0 lo)
theorem eo_none : EO tNoPart σ F none := fun F1 H1 _ e2 _ q => q F1 H1 (Nx.refl e2)
theorem eo_some {i : Int} (h : ED te σ F (.int i)) : EO (tPart te) σ F (some i) := fun F1 H1 e1 e2 _ q => h F1 H1 e1 e2 _ fun v F2 H2 n2 r2 => ⟨i, r2.eint, q F2 H2 n2⟩
theorem ed_sl {tl th : TO} {ds : List D} {lo hi : Option Int} (h : ED te σ F (.lst ds)) (h1 : EO tl σ F lo) (h2 : EO th σ F hi) : ED (tSl (rSlL K) te tl th) σ F (.lst (cutL ds lo hi)) := fun F1 H1 e1 e2 Q q =>
  h F1 H1 e1 e2 _ fun v F2 H2 n2 r2 => h1 F2 H2 (e1.trans n2.f) n2.fh _ fun F3 H3 n3 => h2 F3 H3 ((e1.trans n2.f).trans n3.f) n3.fh _ fun F4 H4 n4 => by
    obtain ⟨a, vs, rfl, ha, hr⟩ := r2.list
    have ha4 := (n3.f.trans n4.f) _ _ ha
    refine ⟨a, vs, rfl, Or.inl (Or.inl (n4.fh _ _ ha4)), fun p hp => ?_⟩
    refine q _ _ _ (((n2.trans n3).trans n4).trans (Nx.new n4.fh hp)) (Rp.mkL upd_same ?_)
    have e : Rps F2 (cutV vs lo hi) (cutL ds lo hi) := by
      unfold cutV cutL
      rw [hr.n]
      exact (hr.drop _).take _
    exact e.mono ((n3.f.trans n4.f).trans (Ex.new (fresh_back n4.fh hp)))
end

/-! ## calls of defs whose promise is a relation on data -/
def spR (R : List D → D → Prop) : Sp := fun vs H Q _ => ∃ F ds d, Ex F H ∧ Rps F vs ds ∧ R ds d ∧ ∀ v F2 H2, Nx F H F2 H2 → Rp F2 v d → Q v H2
/-- it may raise: R what is told, W which class is raised -/
def spX (R : List D → D → Prop) (W : List D → Addr → Prop) : Sp := fun vs H Q E => ∃ F ds, Ex F H ∧ Rps F vs ds ∧ ((∃ d, R ds d ∧ ∀ v F2 H2, Nx F H F2 H2 → Rp F2 v d → Q v H2) ∨ (∃ C, W ds C ∧ ∀ H2, Ex H H2 → E (.ref C) none H2))
section
variable {K : PySem.W.Frag} {σ : L2.St} {F F' : Hp} {ta tb te tx : TE} {t u : TT} {x y z d : D} {r : R2} {R : List D → D → Prop} {W : List D → Addr → Prop}
theorem ed_call {E : XK} {ta : TA} {ds : List D} (h : EA ta σ F ds) (hR : R ds d) : ED (tCall (spR R) [] E ta) σ F d := fun F1 H1 e1 e2 Q q =>
  h F1 H1 e1 e2 _ fun vs F2 H2 n2 r2 => ⟨F2, ds, d, n2.fh, by rw [List.append_nil]; exact r2, hR, fun v F3 H3 n3 r3 => q v F3 H3 (n2.trans n3) r3⟩
theorem ed_callX {E : XK} {ta : TA} {ds : List D} (h : EA ta σ F ds) (hR : R ds d) : ED (tCall (spX R W) [] E ta) σ F d := fun F1 H1 e1 e2 Q q =>
  h F1 H1 e1 e2 _ fun vs F2 H2 n2 r2 => ⟨F2, ds, n2.fh, by rw [List.append_nil]; exact r2, Or.inl ⟨d, hR, fun v F3 H3 n3 r3 => q v F3 H3 (n2.trans n3) r3⟩⟩
theorem len_R {n : Nat} (h : ∀ ds d, R ds d → ds.length = n) : ∀ vs H Q E, spR R vs H Q E → vs.length = n := fun vs H Q E ⟨F, ds, d, _, r, hR, _⟩ => r.n.trans (h ds d hR)
end

/-! ## statements -/
section
variable {K : PySem.W.Frag} {σ : L2.St} {F H : Hp} {ta tb te tx : TE} {t u : TT} {x y z d : D} {D0 : Ends} {tu tw tz : TS} {g : TG}
theorem s_asg {i : Nat} (e : Ex F H) (h : ED te σ F d) (k : ∀ v F1 H1, Nx F H F1 H1 → Rp F1 v d → D0.nx (σ.set i (some v)) H1) : tAsg te (gName i) D0 σ H := h F H (Ex.refl F) e _ k
theorem q_asg {i : Nat} (e : Ex F H) (h : ED te σ F d) (k : ∀ v F1 H1, Nx F H F1 H1 → Rp F1 v d → tz D0 (σ.set i (some v)) H1) : tSeq (tAsg te (gName i)) tz D0 σ H := h F H (Ex.refl F) e _ k
theorem q_int {i : Nat} {n : Int} (e : Ex F H) (h : ED te σ F (.int n)) (k : ∀ H1, Nx F H F H1 → tz D0 (σ.set i (some (.int n))) H1) : tSeq (tAsg te (gName i)) tz D0 σ H := h F H (Ex.refl F) e _ fun v F1 H1 n1 r => by
  rw [r.eint]; exact k H1 n1.drop
theorem s_int {i : Nat} {n : Int} (e : Ex F H) (h : ED te σ F (.int n)) (k : ∀ H1, Nx F H F H1 → D0.nx (σ.set i (some (.int n))) H1) : tAsg te (gName i) D0 σ H := h F H (Ex.refl F) e _ fun v F1 H1 n1 r => by
  show D0.nx _ _
  rw [r.eint]; exact k H1 n1.drop
theorem s_ret (e : Ex F H) (h : ED te σ F d) (k : ∀ v F1 H1, Nx F H F1 H1 → Rp F1 v d → D0.rt v H1) : tRet te D0 σ H := h F H (Ex.refl F) e _ k
theorem s_drop (e : Ex F H) (h : ED te σ F d) (k : ∀ H1, Nx F H F H1 → D0.nx σ H1) : tDrop te D0 σ H := h F H (Ex.refl F) e _ fun v F1 H1 n1 _ => k H1 n1.drop
theorem q_drop (e : Ex F H) (h : ED te σ F d) (k : ∀ H1, Nx F H F H1 → tz D0 σ H1) : tSeq (tDrop te) tz D0 σ H := h F H (Ex.refl F) e _ fun v F1 H1 n1 _ => k H1 n1.drop
theorem s_if {b : Bool} (e : Ex F H) (h : ET t σ F b) (h1 : b = true → ∀ H1, Nx F H F H1 → tu D0 σ H1) (h2 : b = false → ∀ H1, Nx F H F H1 → tw D0 σ H1) : tIfS t tu tw D0 σ H := h F H (Ex.refl F) e _ fun F1 H1 n1 => by
  cases b with
  | true => exact h1 rfl H1 n1.drop
  | false => exact h2 rfl H1 n1.drop
theorem q_if {b : Bool} (e : Ex F H) (h : ET t σ F b) (h1 : b = true → ∀ H1, Nx F H F H1 → tu { D0 with nx := tz D0 } σ H1) (h2 : b = false → ∀ H1, Nx F H F H1 → tw { D0 with nx := tz D0 } σ H1) : tSeq (tIfS t tu tw) tz D0 σ H := s_if (D0 := { D0 with nx := tz D0 }) e h h1 h2
theorem q_when {b : Bool} (e : Ex F H) (h : ET t σ F b) (h1 : b = true → ∀ H1, Nx F H F H1 → tu { D0 with nx := tz D0 } σ H1) (h2 : b = false → ∀ H1, Nx F H F H1 → tz D0 σ H1) : tSeq (tIfS t tu tNext) tz D0 σ H := s_if (D0 := { D0 with nx := tz D0 }) e h h1 h2
theorem set_same {σ : L2.St} {i : Nat} {v : V} (h : σ[i]? = some (some v)) : σ.set i (some v) = σ := by
  obtain ⟨hi, e⟩ := List.getElem?_eq_some_iff.mp h
  rw [← e]
  exact List.set_getElem_self hi
/-- if c: x = e, told by what x holds behind it -/
theorem q_whenAsg {b : Bool} {i : Nat} (e : Ex F H) (h : ET t σ F b) (h1 : b = true → ED te σ F d) (h2 : b = false → ∃ v, σ[i]? = some (some v) ∧ Rp F v d) (k : ∀ v F1 H1, Nx F H F1 H1 → Rp F1 v d → tz D0 (σ.set i (some v)) H1) :
    tSeq (tIfS t (tAsg te (gName i)) tNext) tz D0 σ H := q_when e h (fun hb H1 n1 => s_asg (D0 := { D0 with nx := tz D0 }) n1.fh (h1 hb) fun v F2 H2 n2 r2 => k v F2 H2 (n1.trans n2) r2) (fun hb H1 n1 => by
  obtain ⟨v, hv, r⟩ := h2 hb
  have := k v F H1 n1 r
  rw [set_same hv] at this
  exact this)
theorem q_whenInt {b : Bool} {i : Nat} {n : Int} (e : Ex F H) (h : ET t σ F b) (h1 : b = true → ED te σ F (.int n)) (h2 : b = false → σ[i]? = some (some (.int n))) (k : ∀ H1, Nx F H F H1 → tz D0 (σ.set i (some (.int n))) H1) :
    tSeq (tIfS t (tAsg te (gName i)) tNext) tz D0 σ H := q_whenAsg e h h1 (fun hb => ⟨_, h2 hb, .int n⟩) fun v F1 H1 n1 r => by rw [r.eint]; exact k H1 n1.drop
/-- a new empty list that will be changed: it stays outside the frozen part -/
theorem q_new {i : Nat} (e : Ex F H) (k : ∀ p, H p = none → tz D0 (σ.set i (some (.ref p))) (upd H p (.lst []))) : tSeq (tAsg (tLst tNil) (gName i)) tz D0 σ H := ⟨Nat.zero_le _, fun p hp => k p hp⟩
/-- xs.append(e), xs outside the frozen part -/
theorem s_app {l : Addr} {vs : List V} {i : Nat} (e : Ex F H) (fl : F l = none) (hi : σ[i]? = some (some (.ref l))) (hl : H l = some (.lst vs)) (hz : vs.length < 100000) (h : ED te σ F d)
    (k : ∀ v F1 H1, Nx F H F1 H1 → F1 l = none → Rp F1 v d → D0.nx σ (upd H1 l (.lst (vs ++ [v])))) : tDrop (tBM K "list" rAppend (tVar i) (tCons te tNil)) D0 σ H :=
  ⟨.ref l, hi, Or.inl ⟨rfl, vs, sq_of hl⟩, h F H (Ex.refl F) e _ fun v F1 H1 n1 r1 => ⟨l, vs, v, rfl, rfl, n1.h _ _ hl, sz_lt hz, k v F1 H1 n1 (n1.n l (by rw [hl]; exact fun z => nomatch z) fl) r1⟩⟩
theorem q_app {l : Addr} {vs : List V} {i : Nat} (e : Ex F H) (fl : F l = none) (hi : σ[i]? = some (some (.ref l))) (hl : H l = some (.lst vs)) (hz : vs.length < 100000) (h : ED te σ F d)
    (k : ∀ v F1 H1, Nx F H F1 H1 → F1 l = none → Rp F1 v d → tz D0 σ (upd H1 l (.lst (vs ++ [v])))) : tSeq (tDrop (tBM K "list" rAppend (tVar i) (tCons te tNil))) tz D0 σ H := s_app (D0 := { D0 with nx := tz D0 }) e fl hi hl hz h k
/-! ### loops -/
theorem s_forL {ds : List D} {tl : TE} {j : Nat} (e : Ex F H) (h : ED tl σ F (.lst ds))
    (k : ∀ F1 H1, Nx F H F1 H1 → ∃ P : Nat → L2.St → Hp → Prop, P 0 σ H1 ∧ (∀ i σ' H', P i σ' H' → Ex F1 H') ∧
      (∀ i v d σ' H', ds[i]? = some d → Rp F1 v d → P i σ' H' → tu { D0 with nx := P (i + 1), ct := P (i + 1), bk := D0.nx } (σ'.set j (some v)) H') ∧ (∀ σ' H', P ds.length σ' H' → D0.nx σ' H')) : tFor (iList K tl) (gName j) tu D0 σ H :=
  h F H (Ex.refl F) e _ fun v F1 H1 n1 r1 => by
    obtain ⟨a, vs, rfl, ha, hr⟩ := r1.list
    obtain ⟨P, p0, pe, ps, pd⟩ := k F1 H1 n1
    refine ⟨a, rfl, ⟨vs, sq_of (n1.fh _ _ ha)⟩, for_list (xs := vs) P p0 (fun i σ' H' _ p => sq_of (pe i σ' H' p _ _ ha)) (fun i x σ' H' hx p => ?_) (fun σ' H' p => pd σ' H' (by rw [← hr.n]; exact p))⟩
    obtain ⟨d, hd, rd⟩ := hr.getv hx
    exact ps i x d σ' H' hd rd p
theorem q_forL {ds : List D} {tl : TE} {j : Nat} (e : Ex F H) (h : ED tl σ F (.lst ds))
    (k : ∀ F1 H1, Nx F H F1 H1 → ∃ P : Nat → L2.St → Hp → Prop, P 0 σ H1 ∧ (∀ i σ' H', P i σ' H' → Ex F1 H') ∧
      (∀ i v d σ' H', ds[i]? = some d → Rp F1 v d → P i σ' H' → tu { D0 with nx := P (i + 1), ct := P (i + 1), bk := tz D0 } (σ'.set j (some v)) H') ∧ (∀ σ' H', P ds.length σ' H' → tz D0 σ' H')) : tSeq (tFor (iList K tl) (gName j) tu) tz D0 σ H :=
  s_forL (D0 := { D0 with nx := tz D0 }) e h k
theorem q_forT {ds : List D} {tl : TE} {j : Nat} (e : Ex F H) (h : ED tl σ F (.tup ds))
    (k : ∀ F1 H1, Nx F H F1 H1 → ∃ P : Nat → L2.St → Hp → Prop, P 0 σ H1 ∧ (∀ i σ' H', P i σ' H' → Ex F1 H') ∧
      (∀ i v d σ' H', ds[i]? = some d → Rp F1 v d → P i σ' H' → tu { D0 with nx := P (i + 1), ct := P (i + 1), bk := tz D0 } (σ'.set j (some v)) H') ∧ (∀ σ' H', P ds.length σ' H' → tz D0 σ' H')) : tSeq (tFor (iTup K tl) (gName j) tu) tz D0 σ H :=
  h F H (Ex.refl F) e _ fun v F1 H1 n1 r1 => by
    obtain ⟨a, vs, rfl, ha, hr⟩ := r1.tuple
    obtain ⟨P, p0, pe, ps, pd⟩ := k F1 H1 n1
    refine ⟨a, rfl, ⟨vs, st_of (n1.fh _ _ ha)⟩, for_tup (D := { D0 with nx := tz D0 }) (xs := vs) P p0 (fun i σ' H' _ p => st_of (pe i σ' H' p _ _ ha)) (fun i x σ' H' hx p => ?_) (fun σ' H' p => pd σ' H' (by rw [← hr.n]; exact p))⟩
    obtain ⟨d, hd, rd⟩ := hr.getv hx
    exact ps i x d σ' H' hd rd p
theorem q_forR {n : Int} {ta : TA} {j : Nat} (e : Ex F H) (h : EA ta σ F [.int n]) (hn : 0 ≤ n ∧ n ≤ 100000)
    (k : ∀ H1, Nx F H F H1 → ∃ P : Nat → L2.St → Hp → Prop, P 0 σ H1 ∧
      (∀ (i : Nat) σ' H', (i : Int) < n → P i σ' H' → tu { D0 with nx := P (i + 1), ct := P (i + 1), bk := tz D0 } (σ'.set j (some (.int (i : Int)))) H') ∧ (∀ σ' H', P n.toNat σ' H' → tz D0 σ' H')) : tSeq (tFor (iRng1 ta) (gName j) tu) tz D0 σ H :=
  h F H (Ex.refl F) e _ fun vs F1 H1 n1 r1 => by
    obtain ⟨v, us, rfl, h1, h2⟩ := r1.uncons
    rw [h2.unnil, h1.eint]
    obtain ⟨P, p0, ps, pd⟩ := k H1 n1.drop
    refine ⟨n, rfl, by omega, by omega, for_range (D := { D0 with nx := tz D0 }) (lo := 0) (n := n.toNat) P p0 (fun i σ' H' hi p => ?_) pd⟩
    have e0 : (0 : Int) + (i : Int) = (i : Int) := Int.zero_add _
    show tu _ (σ'.set j (some (.int ((0 : Int) + (i : Int))))) H'
    rw [e0]
    exact ps i σ' H' (by omega) p
end

/-! ## comprehensions -/
section
variable {K : PySem.W.Frag} {σ : L2.St} {F H : Hp} {ta tb te tx : TE} {t u : TT} {x y z d : D} {D0 : Ends}
/-- what stands while a comprehension runs: D the list that grows, outside the frozen part -/
structure Cw (F1 H1 : Hp) (Dl : Addr) (ds : List D) (H' : Hp) : Prop where
  ex : ∃ Fi vs, Nx F1 H1 Fi H' ∧ Fi Dl = none ∧ H' Dl = some (.lst vs) ∧ Rps Fi vs ds
  h0 : H1 Dl = none
theorem Cw.start {F1 H1 : Hp} {Dl : Addr} (e : Ex F1 H1) (hD : H1 Dl = none) : Cw F1 H1 Dl [] (upd H1 Dl (.lst [])) :=
  ⟨⟨F1, [], (Nx.refl e).mut hD (fresh_back e hD), fresh_back e hD, upd_same, .nil⟩, hD⟩
theorem Cw.done {F1 H1 : Hp} {Dl : Addr} {ds : List D} {H' : Hp} (p : Cw F1 H1 Dl ds H') : ∃ F2, Nx F1 H1 F2 H' ∧ Rp F2 (.ref Dl) (.lst ds) := by
  obtain ⟨Fi, vs, n, f, h, r⟩ := p.ex
  exact ⟨_, n.freeze p.h0 f h, Rp.mkL upd_same (r.mono (Ex.new f))⟩
theorem Cw.turn {F1 H1 : Hp} {Dl : Addr} {ds : List D} {H' : Hp} {σ2 : L2.St} {b : Bool} {d : D} {N : Hp → Prop} (p : Cw F1 H1 Dl ds H') (hl : ds.length < 50000) (ht : ET t σ2 F1 b) (he : b = true → ED te σ2 F1 d)
    (hn : ∀ H'', Cw F1 H1 Dl (ds ++ if b = true then [d] else []) H'' → N H'') :
    t σ2 H' fun b H3 => if b = true then te σ2 H3 fun y H4 => ∃ acc, H4 Dl = some (.lst acc) ∧ acc.length < sizeLine ∧ N (upd H4 Dl (.lst (acc ++ [y]))) else N H3 := by
  obtain ⟨Fi, vs, n, f, h, r⟩ := p.ex
  refine ht Fi H' n.f n.fh _ fun F2 H2 n2 => ?_
  have f2 := n2.n Dl (by rw [h]; exact fun z => nomatch z) f
  have h2 := n2.h _ _ h
  cases b with
  | true =>
    show te σ2 H2 _
    refine he rfl F2 H2 (n.f.trans n2.f) n2.fh _ fun v F3 H3 n3 r3 => ?_
    have f3 := n3.n Dl (by rw [h2]; exact fun z => nomatch z) f2
    have h3 := n3.h _ _ h2
    refine ⟨vs, h3, sz_lt (by rw [r.n]; omega), hn _ ⟨⟨F3, vs ++ [v], ((n.trans n2).trans n3).mut p.h0 f3, f3, upd_same, ?_⟩, p.h0⟩⟩
    exact (r.mono (n2.f.trans n3.f)).snoc r3
  | false =>
    show N H2
    refine hn _ ⟨⟨F2, vs, n.trans n2, f2, h2, ?_⟩, p.h0⟩
    rw [if_neg Bool.false_ne_true, List.append_nil]
    exact r.mono n2.f
theorem take_filter_map {α β : Type} {xs : List α} {f : α → Bool} {g : α → β} {i : Nat} {x : α} (h : xs[i]? = some x) :
    ((xs.take (i + 1)).filter f).map g = ((xs.take i).filter f).map g ++ if f x = true then [g x] else [] := by
  rw [List.take_add_one, h, List.filter_append, List.map_append]
  congr 1
  by_cases hf : f x = true
  · simp [hf]
  · simp [hf]
/-- [g for x in xs if f], over a list of data that stand for xs by emb -/
theorem ed_lc {α : Type} {emb : α → D} {xs : List α} {tl : TE} {j : Nat} {ws : List Nat} (f : α → Bool) (g : α → D) (h : ED tl σ F (.lst (xs.map emb))) (hz : xs.length < 50000) (hw : ∀ x, wipe ((wipe σ ws).set j (some x)) ws = wipe σ ws)
    (ht : ∀ x v F1, x ∈ xs → Ex F F1 → Rp F1 v (emb x) → ET t ((wipe σ ws).set j (some v)) F1 (f x)) (he : ∀ x v F1, x ∈ xs → Ex F F1 → Rp F1 v (emb x) → f x = true → ED te ((wipe σ ws).set j (some v)) F1 (g x)) :
    ED (tLc (iList K tl) (gName j) t te ws) σ F (.lst ((xs.filter f).map g)) := fun F0 H0 e1 e2 Q q => h F0 H0 e1 e2 _ fun v F1 H1 n1 r1 => by
  obtain ⟨a, vs, rfl, ha, hr⟩ := r1.list
  refine ⟨a, rfl, ⟨vs, sq_of (n1.fh _ _ ha)⟩, fun Dl hD => ?_⟩
  refine lc_list (xs := vs) (fun i H' => Cw F1 H1 Dl (((xs.take i).filter f).map g) H') (Cw.start n1.fh hD) (fun i H' _ p => ?_) (fun i x H' hi p => ⟨hw x, ?_⟩) (fun H' p => ?_)
  · obtain ⟨Fi, us, n, _⟩ := p.ex
    exact sq_of (n.fh _ _ (n.f _ _ ha))
  · obtain ⟨d, hd, rd⟩ := hr.getv hi
    rw [List.getElem?_map] at hd
    cases hx : xs[i]? with
    | none => rw [hx] at hd; cases hd
    | some y =>
      rw [hx] at hd
      obtain rfl : emb y = d := Option.some.inj hd
      have hm : y ∈ xs := List.mem_of_getElem? hx
      refine Cw.turn p ?_ (ht y x F1 hm (e1.trans n1.f) rd) (fun hf => he y x F1 hm (e1.trans n1.f) rd hf) (fun H'' p' => ?_)
      · rw [List.length_map]
        have := List.length_filter_le f (xs.take i)
        have := List.length_take_le i xs
        rw [List.length_take] at *
        omega
      · rw [take_filter_map hx]
        exact p'
  · have hn : vs.length = xs.length := by rw [hr.n, List.length_map]
    have ef : xs.take vs.length = xs := List.take_of_length_le (by omega)
    rw [ef] at p
    obtain ⟨F2, n2, r2⟩ := p.done
    exact q _ F2 H' (n1.trans n2) r2
theorem Cw.app {F1 H1 : Hp} {Dl : Addr} {ds : List D} {H' : Hp} {j : Nat} (p : Cw F1 H1 Dl ds H') (hl : ds.length < 50000) (hj : σ[j]? = some (some (.ref Dl))) (he : ∀ F', Ex F1 F' → ED te σ F' d) (k : ∀ H'', Cw F1 H1 Dl (ds ++ [d]) H'' → D0.nx σ H'') :
    tDrop (tBM K "list" rAppend (tVar j) (tCons te tNil)) D0 σ H' := by
  obtain ⟨Fi, vs, n, f, h, r⟩ := p.ex
  exact s_app n.fh f hj h (by rw [r.n]; omega) (he Fi n.f) fun v F2 H2 n2 f2 r2 => k _ ⟨⟨F2, vs ++ [v], (n.trans n2).mut p.h0 f2, f2, upd_same, (r.mono n2.f).snoc r2⟩, p.h0⟩
/-- what stands while such a list grows: some frozen part, not holding it -/
theorem Cw.fz {F1 H1 : Hp} {Dl : Addr} {ds : List D} {H' : Hp} (p : Cw F1 H1 Dl ds H') : Ex F1 H' := by
  obtain ⟨Fi, vs, n, _⟩ := p.ex
  exact n.f.trans n.fh
theorem Cw.up {F1 H1 : Hp} {Dl : Addr} {ds : List D} {H' H'' : Hp} (p : Cw F1 H1 Dl ds H') (e : Ex H' H'') : Cw F1 H1 Dl ds H'' := by
  obtain ⟨Fi, vs, n, f, h, r⟩ := p.ex
  exact ⟨⟨Fi, vs, n.up e, f, e _ _ h, r⟩, p.h0⟩
/-- over range(n) -/
theorem ed_lcR {n : Int} {ta : TA} {j : Nat} {ws : List Nat} (f : Nat → Bool) (g : Nat → D) (h : EA ta σ F [.int n]) (hz : 0 ≤ n ∧ n < 50000) (hw : ∀ x, wipe ((wipe σ ws).set j (some x)) ws = wipe σ ws)
    (ht : ∀ (x : Nat) F1, (x : Int) < n → Ex F F1 → ET t ((wipe σ ws).set j (some (.int (x : Int)))) F1 (f x)) (he : ∀ (x : Nat) F1, (x : Int) < n → Ex F F1 → f x = true → ED te ((wipe σ ws).set j (some (.int (x : Int)))) F1 (g x)) :
    ED (tLc (iRng1 ta) (gName j) t te ws) σ F (.lst (((List.range n.toNat).filter f).map g)) := fun F0 H0 e1 e2 Q q => h F0 H0 e1 e2 _ fun vs F1 H1 n1 r1 => by
  obtain ⟨v, us, rfl, h1, h2⟩ := r1.uncons
  rw [h2.unnil, h1.eint]
  refine ⟨n, rfl, by omega, by omega, fun Dl hD => ?_⟩
  refine lc_range (lo := 0) (n := n.toNat) (fun i H' => Cw F1 H1 Dl ((((List.range n.toNat).take i).filter f).map g) H') (Cw.start n1.fh hD) (fun i H' hi p => ⟨hw _, ?_⟩) (fun H' p => ?_)
  · have e0 : (0 : Int) + (i : Int) = (i : Int) := Int.zero_add _
    rw [e0]
    have hx : (List.range n.toNat)[i]? = some i := by rw [List.getElem?_range hi]
    refine Cw.turn p ?_ (ht i F1 (by omega) (e1.trans n1.f)) (fun hf => he i F1 (by omega) (e1.trans n1.f) hf) (fun H'' p' => ?_)
    · rw [List.length_map]
      have := List.length_filter_le f ((List.range n.toNat).take i)
      rw [List.length_take] at *
      omega
    · rw [take_filter_map hx]
      exact p'
  · have ef : (List.range n.toNat).take n.toNat = List.range n.toNat := List.take_of_length_le (by simp)
    rw [ef] at p
    obtain ⟨F2, n2, r2⟩ := p.done
    exact q _ F2 H' (n1.trans n2) r2
/-- without an if -/
theorem et_yes : ET tYes σ F true := fun F1 H1 _ e2 _ q => q F1 H1 (Nx.refl e2)
end
end Bp
namespace Bp
open PySem PySem.Spec PyProof.Rows L2 Evl

/-! ## {e for x in xs if ..}, e a whole number: a set of whole numbers. The machine's steps are those of the library's own set comprehension of truth values (PpSet); what the set holds is told by SetO. -/
abbrev seti0 (w : World) (p : Addr) : HO := SetO w p (fun _ => false) 0
abbrev seti1 (w : World) (p : Addr) (S : Int → Bool) (n : Nat) (c : Int) : HO :=
  SetO w p (fun j => S j || decide (j = c)) (if S c = true then n else n + 1)
def tSi (w : World) (wi : TI) (g : TG) (tt : TT) (te : TE) (own : List Nat) : TE := fun σ H Q =>
  wi σ H fun J H1 => ∀ p, H1 p = none →
    ∃ W : Nat → Nat → Hp → Prop, (∃ m, W 0 m (upd H1 p (seti0 w p))) ∧
      ∀ i m H, W i m H → (J.stop i H ∧ Q (.ref p) H) ∨
        (J.go i H ∧ ∃ N : Hp → Prop, (∀ H', N H' → ∃ m', m' < m ∧ W (i + 1) m' H') ∧
          ∀ x H', J.yld i H x H' → g x (wipe σ own) H' fun σ2 H2 =>
            wipe σ2 own = wipe σ own ∧ tt σ2 H2 fun b H3 =>
              if b = true then te σ2 H3 fun y H4 => ∃ (c : Int) (S : Int → Bool) (n : Nat), y = .int c ∧
                H4 p = some (SetO w p S n) ∧ n + 1 < scanBound ∧ N (upd H4 p (seti1 w p S n c))
              else N H3)
section
variable {X : Cx}
/-- one more member -/
theorem add_seti {pins : List (Addr × Obj)} {σ : L2.St} {H : Hp} {s : Shared} {E : Value → Shared → Prop} {p : Addr}
    {S : Int → Bool} {n : Nat} {c : Int} {t : Tok} {Q : Value → Shared → Prop} (I : Inv X pins σ H s)
    (hp : H p = some (SetO X.w p S n)) (few : n + 1 < scanBound)
    (h : ∀ s', Inv X pins σ (upd H p (seti1 X.w p S n c)) s' → Q .none s') :
    wpAny (model X.prog X.w) X.A (call (.builtin "set.add") [.ref p, .int c t]) Q E s :=
  setR_add (setO_get I hp) few fun h' sb fresh => by
    obtain ⟨o, es, ep, tb, ho, more⟩ := fresh
    exact h _ (I.write (e := p) (t' := s.toks + 1) (by rw [hp]; trivial) (.inl rfl)
      (fun b u hb hu => (sb.2 b hb).trans hu) ⟨o, ho⟩ (setO_new ⟨o, es, ep, tb, ho, more⟩))
variable {elt tg iter : Expr} {ifs : List Expr} {scope : Scope} {own : List (PySem.Str × Nat)} {pos : Pos}
  {wi : TI} {g : TG} {tt : TT} {te : TE}
theorem pe_si (calm : X.calm = true) (nd : X.N.Nodup) (hi : PI X tg iter wi) (ok : BlkOk X.N X.env.scope scope own)
    (hg : ∀ s H C cl fp, PG (X.blk s H scope (compEnvC scope cl C X.env) fp) tg g)
    (ht : ∀ s H C cl fp, PTs (X.blk s H scope (compEnvC scope cl C X.env) fp) ifs tt)
    (he : ∀ s H C cl fp, PE (X.blk s H scope (compEnvC scope cl C X.env) fp) elt te)
    (hs : ∀ x, foldedSetIterable iter X.env x = pure x := by intro _; rfl) :
    PE X (.SetComp elt [⟨tg, iter, ifs, 0⟩] scope pos) (tSi X.w wi g tt te (own.map (·.2))) := by
  refine ⟨fun pins s σ H Q I h => ?_⟩
  rw [PpSet.eval_SetComp]
  have caught : ∀ y ∈ scope.names, y.2 = .free → ∃ c, X.env.cells.lookup y.1 = some c := by
    intro y hy e
    exact I.ok.has _ (ok.free y hy e)
  refine wpAny_comprehension_free rfl hs (closure_ok caught) ok.kind (fun y hy e => by rw [ok.uniq y hy, e])
    (thn (hi.run pins s σ H _ I h) fun xv sA hx => thn hx fun itv sB hB => ?_)
  obtain ⟨it, fp, tn, J, HB, e, IB, T, stB, fB, q⟩ := hB
  subst e
  refine PpSet.newSet_ok (newEnv_comp ?_)
  -- the new set, at p
  obtain ⟨p, ep⟩ : ∃ p, s.heap.objs.size ≤ sB.heap.objs.size ∨ True → p = sB.heap.objs.size := ⟨_, fun _ => rfl⟩
  have ep := ep (Or.inr True.intro)
  rw [← ep]
  have pn : HB p = none := IB.hok.fresh (Nat.le_of_eq ep.symm)
  obtain ⟨W, ⟨m0, w0⟩, turn⟩ := q p pn
  let O : Obj := { cls := .type "set", dict := none, data := .set #[] 0 (.fresh 0 0 (!X.w.params.followText "set-order")) }
  obtain ⟨sC, eC⟩ : ∃ z : Shared, z = { sB with heap := sB.heap.push O } := ⟨_, rfl⟩
  obtain ⟨HC, eH⟩ : ∃ z : Hp, z = upd HB p (seti0 X.w p) := ⟨_, rfl⟩
  have hpC : sC.heap = sB.heap.push O := by rw [eC]
  have IC : Inv X pins σ HC sC := by
    rw [eC, eH]
    refine IB.laid (t' := sB.toks) (fun b o e => Heap.get?_push_of_some _ e) (Nat.le_of_eq ep.symm) ?_
    rw [ep]
    exact setO_new (setR_fresh X.w)
  have fC : ∀ b ∈ fp, FpOk X pins HC b ∧ b < sC.heap.objs.size := by
    intro b hb
    obtain ⟨o, ho, _⟩ := T.obj _ _ stB b hb
    have lt := Heap.lt_size ho
    rw [eH]
    refine ⟨⟨?_, (fB b hb).2⟩, by rw [hpC, Heap.size_push]; exact Nat.lt_succ_of_lt lt⟩
    rw [upd_ne (by rw [ep]; exact Nat.ne_of_lt lt)]
    exact (fB b hb).1
  have stC : tn 0 sC.heap := T.keep _ _ _ stB fun b _ o e => by rw [hpC]; exact Heap.get?_push_of_some _ e
  have ID := block_start IC ok nd fC
  -- the block's own frame
  obtain ⟨L, eL⟩ : ∃ z, z = sC.heap.objs.size := ⟨_, rfl⟩
  obtain ⟨cl, ecl⟩ : ∃ z, z = cellsFrom (L + 1) scope.names (cloFrom X.env.cells scope.names []) := ⟨_, rfl⟩
  have pg := hg sC HC L cl fp
  have pt := ht sC HC L cl fp
  have pe := he sC HC L cl fp
  rw [← eC, ← eL]
  rw [← eL, ← ecl] at ID
  show codeAny _ _ (.compStart _ 0 (.ref it) (.ref p) (compEnvC scope (cellsFrom (L + 1) scope.names (cloFrom X.env.cells scope.names [])) L X.env))
    (compPost _ _ _ none (EP X pins σ Q) (.ref p) L) { sC with heap := pushCells (sC.heap.push { cls := .type "dict", data := .dict #[] }) scope.names }
  rw [← ecl]
  rw [← eH] at w0
  obtain ⟨ce, ece⟩ : ∃ z, z = compEnvC scope cl L X.env := ⟨_, rfl⟩
  have ceL : ce.locals = L := by rw [ece]; rfl
  rw [← ece] at ID pg pt pe ⊢
  obtain ⟨sD, eD⟩ : ∃ z : Shared, z = { sC with heap := pushCells (sC.heap.push { cls := .type "dict", data := .dict #[] }) scope.names } := ⟨_, rfl⟩
  rw [← eD] at ID ⊢
  have stD : tn 0 sD.heap := T.keep _ _ _ stC fun b _ o e => by rw [eD]; exact pushCells_keeps _ _ _ _ (Heap.get?_push_of_some _ e)
  have nofp : ∀ b ∈ fp, HC b = none := fun b hb => (fC b hb).1.1
  have fpOk : ∀ {σ' : L2.St} {H' : Hp} {s' : Shared}, Inv (X.blk sC HC scope ce fp) [] σ' H' s' → (∀ b ∈ fp, H' b = none) →
      ∀ b ∈ fp, FpOk (X.blk sC HC scope ce fp) [] H' b := by
    intro σ' H' s' I' hn b hb
    refine ⟨hn b hb, (I'.ok.exf b hb).1, I'.ok.exfs b hb, .inl hb, fun x c e => (I'.ok.exf b hb).2 x c e, ?_⟩
    intro z hz
    rw [List.nil_append] at hz
    cases hz
  have loop : codeAny (model X.prog X.w) X.A (.compLoop (.SetComp elt [⟨tg, iter, ifs, 0⟩] scope pos) 0 (.ref it) (.ref p) ce)
      (compPost (model X.prog X.w) X.A X.xe none (EP X pins σ Q) (.ref p) L) sD := by
    refine PpSet.compLoopS_any (fun n s' => ∃ i H', Inv (X.blk sC HC scope ce fp) [] (wipe σ (own.map (·.2))) H' s' ∧
      tn i s'.heap ∧ (∀ b ∈ fp, H' b = none) ∧ W i n H') ?_ m0 ⟨0, HC, ID, stD, nofp, w0⟩
    rintro n s5 ⟨i, H5, I5, st5, n5, w5⟩
    rcases turn i n H5 w5 with ⟨stop, fine⟩ | ⟨go, N, hN, step⟩
    · -- no item is left
      refine thnF (T.done (X.blk sC HC scope ce fp) rfl rfl rfl calm i [] s5 _ H5 (fun _ _ => False) I5 (fpOk I5 n5) st5 stop) ?_
      intro r s6 ⟨hr, I6⟩
      subst hr
      have I7 : Inv X pins σ H5 s6 := IC.call' (ch := fp) I6.os I6.base I6.hok I6.bare fun b hb => by
        have k := (fC b hb).1.2
        exact ⟨k.2.2.1, k.1, k.2.2.2.1, k.2.2.2.2⟩
      have free : H5 L = none := ceL ▸ (show H5 ce.locals = none from I6.free)
      obtain ⟨m, hm, _⟩ := I6.loc
      have hm : s6.heap.Ns L m := ceL ▸ (show s6.heap.Ns ce.locals m from hm)
      obtain ⟨f0, f1, f2, f3, f4, f5⟩ := IC.fpOk (Nat.le_of_eq eL.symm) free
      refine ⟨m, hm, fun h'' sb => ?_⟩
      exact ⟨.ref p, H5, I7.turned (t' := s6.toks) (fun b o hb e => (sb.2 b hb).trans e) f0 f1 f3 f4 f5, rfl, fine⟩
    · -- the next item
      refine thnF (T.item (X.blk sC HC scope ce fp) rfl rfl rfl calm i [] s5 _ H5 (fun _ _ => False) I5 (fpOk I5 n5) st5 go) ?_
      intro r s6 ⟨u, hr, h6⟩
      subst hr
      refine thnF h6 fun _ s7 ⟨x, H7, I7, r7, y7, st7, n7⟩ => ?_
      refine thnF (pg.run _ s7 _ H7 x u _ (I7.pinned (fpOk I7 n7) (T.obj _ _ st7)) r7 (step x H7 y7)) ?_
      intro _ s8 ⟨σ8, H8, I8, back, q8⟩
      refine thnF (pt.run _ s8 σ8 H8 _ I8 q8) fun b s9 ⟨H9, I9, q9⟩ => ?_
      have next : ∀ {s' : Shared} {H' : Hp}, Inv (X.blk sC HC scope ce fp) ([] ++ pinsAt fp s7.heap) σ8 H' s' → N H' →
          ∃ m, m < n ∧ ∃ i H', Inv (X.blk sC HC scope ce fp) [] (wipe σ (own.map (·.2))) H' s' ∧ tn i s'.heap ∧ (∀ b ∈ fp, H' b = none) ∧ W i m H' := by
        intro s' H' I' nx
        obtain ⟨m', lt, w'⟩ := hN H' nx
        have stay : ∀ b ∈ fp, ∀ o, s7.heap.get? b = some o → s'.heap.get? b = some o ∧ H' b = none := by
          intro b hb o e
          have k := I'.pin (b, o) (List.mem_append_right _ (List.mem_append_right _ (mem_pinsAt hb e)))
          exact ⟨k.1, k.2.1⟩
        refine ⟨m', lt, i + 1, H', (I'.unpinned (pins := [])).weak (by rw [← back, wipe_length]) (fun j v e => ?_), ?_, ?_, w'⟩
        · exact (wipe_some (back ▸ e)).1
        · exact T.keep _ _ _ st7 fun b hb o e => (stay b hb o e).1
        · intro b hb
          obtain ⟨o, e, _⟩ := T.obj _ _ st7 b hb
          exact (stay b hb o e).2
      cases b with
      | false => exact next I9 (by rw [if_neg Bool.false_ne_true] at q9; exact q9)
      | true =>
        rw [if_pos rfl] at q9 ⊢
        refine thnF (pe.run _ s9 σ8 H9 _ I9 q9) ?_
        intro z sE ⟨yv, HE, IE, rE, c, S0, n0, ey, hE, few, nx⟩
        subst ey
        obtain ⟨t, rfl⟩ := (show ∃ t, z = Value.int c t from rE)
        exact add_seti (X := X.blk sC HC scope ce fp) IE hE few fun sF IF => next IF nx
  exact PpSet.codeAny_compStart_set loop (T.self X.A 0 _ _ _ stD loop)
end
end Bp
namespace Bp
open PySem PySem.Spec PyProof.Rows L2 Evl

/-! ## rising lists without repetition -/
def ins (k : Int) : List Int → List Int
  | [] => [k]
  | x :: xs => if k < x then k :: x :: xs else if k = x then x :: xs else x :: ins k xs
def srt (l : List Int) : List Int := l.foldr ins []
theorem mem_ins {k j : Int} : ∀ {l : List Int}, j ∈ ins k l ↔ j = k ∨ j ∈ l
  | [] => by simp [ins]
  | x :: xs => by
    unfold ins
    by_cases h1 : k < x
    · rw [if_pos h1]; simp
    · rw [if_neg h1]
      by_cases h2 : k = x
      · rw [if_pos h2]; subst h2; simp
      · rw [if_neg h2, List.mem_cons, mem_ins, List.mem_cons]
        constructor
        · rintro (h | h | h)
          · exact .inr (.inl h)
          · exact .inl h
          · exact .inr (.inr h)
        · rintro (h | h | h)
          · exact .inr (.inl h)
          · exact .inl h
          · exact .inr (.inr h)
theorem mem_srt {j : Int} : ∀ {l : List Int}, j ∈ srt l ↔ j ∈ l
  | [] => by simp [srt]
  | x :: xs => by
    have ih := mem_srt (j := j) (l := xs)
    show j ∈ ins x (srt xs) ↔ _
    rw [mem_ins, ih, List.mem_cons]
theorem ins_up {k : Int} : ∀ {l : List Int}, l.Pairwise (· < ·) → (ins k l).Pairwise (· < ·)
  | [], _ => by simp [ins]
  | x :: xs, h => by
    have h' := List.pairwise_cons.mp h
    unfold ins
    by_cases h1 : k < x
    · rw [if_pos h1]
      refine List.pairwise_cons.mpr ⟨fun y hy => ?_, h⟩
      rcases List.mem_cons.mp hy with e | e
      · rw [e]; exact h1
      · have := h'.1 y e; omega
    · rw [if_neg h1]
      by_cases h2 : k = x
      · rw [if_pos h2]; exact h
      · rw [if_neg h2]
        refine List.pairwise_cons.mpr ⟨fun y hy => ?_, ins_up h'.2⟩
        rcases mem_ins.mp hy with e | e
        · rw [e]; omega
        · exact h'.1 y e
theorem srt_up : ∀ l : List Int, (srt l).Pairwise (· < ·)
  | [] => List.Pairwise.nil
  | x :: xs => ins_up (srt_up xs)
theorem up_ext : ∀ {l m : List Int}, l.Pairwise (· < ·) → m.Pairwise (· < ·) → (∀ k, k ∈ l ↔ k ∈ m) → l = m
  | [], [], _, _, _ => rfl
  | [], y :: m, _, _, h => by have := (h y).mpr (by simp); simp at this
  | x :: l, [], _, _, h => by have := (h x).mp (by simp); simp at this
  | x :: l, y :: m, hl, hm, h => by
    have hl' := List.pairwise_cons.mp hl
    have hm' := List.pairwise_cons.mp hm
    have e : x = y := by
      have h1 := (h x).mp (by simp)
      have h2 := (h y).mpr (by simp)
      rcases List.mem_cons.mp h1 with e | e
      · exact e
      · rcases List.mem_cons.mp h2 with e2 | e2
        · exact e2.symm
        · have := hm'.1 x e; have := hl'.1 y e2; omega
    subst e
    have : l = m := up_ext hl'.2 hm'.2 fun k => by
      constructor
      · intro hk
        have := (h k).mp (List.mem_cons_of_mem _ hk)
        rcases List.mem_cons.mp this with e | e
        · have := hl'.1 k hk; omega
        · exact e
      · intro hk
        have := (h k).mpr (List.mem_cons_of_mem _ hk)
        rcases List.mem_cons.mp this with e | e
        · have := hm'.1 k hk; omega
        · exact e
    rw [this]

/-! ## sorted({g for x in xs}) -/
section
variable {K : PySem.W.Frag} {w : World} {σ : L2.St} {F H : Hp} {ta tb te tx : TE} {t u : TT} {x y z d : D} {D0 : Ends}
structure Sw (w : World) (F1 H1 : Hp) (p : Addr) (ns : List Int) (H' : Hp) : Prop where
  ex : ∃ Fi S n, Nx F1 H1 Fi H' ∧ Fi p = none ∧ H' p = some (SetO w p S n) ∧ (∀ k, S k = true ↔ k ∈ ns) ∧ n ≤ ns.length
  h0 : H1 p = none
theorem Sw.turn {F1 H1 : Hp} {p : Addr} {ns : List Int} {H' : Hp} {σ2 : L2.St} {c : Int} {N : Hp → Prop} (s : Sw w F1 H1 p ns H') (hl : ns.length < 1000) (he : ED te σ2 F1 (.int c)) (hn : ∀ H'', Sw w F1 H1 p (ns ++ [c]) H'' → N H'') :
    tYes σ2 H' fun b H3 => if b = true then te σ2 H3 fun y H4 => ∃ (c : Int) (S : Int → Bool) (n : Nat), y = .int c ∧ H4 p = some (SetO w p S n) ∧ n + 1 < scanBound ∧ N (upd H4 p (seti1 w p S n c)) else N H3 := by
  obtain ⟨Fi, S, n, nx, f, h, hs, hle⟩ := s.ex
  show te σ2 H' _
  refine he Fi H' nx.f nx.fh _ fun v F2 H2 n2 r2 => ?_
  have f2 := n2.n p (by rw [h]; exact fun z => nomatch z) f
  have h2 := n2.h _ _ h
  refine ⟨c, S, n, r2.eint, h2, Nat.lt_of_le_of_lt (show n + 1 ≤ 1000 by omega) (by decide), hn _ ⟨⟨F2, _, _, (nx.trans n2).mut s.h0 f2, f2, upd_same, fun k => ?_, ?_⟩, s.h0⟩⟩
  · rw [Bool.or_eq_true, hs k, List.mem_append, decide_eq_true_iff, List.mem_singleton]
  · rw [List.length_append, List.length_singleton]
    split <;> omega
theorem take_map_succ {α β : Type} {xs : List α} {g : α → β} {i : Nat} {x : α} (h : xs[i]? = some x) : (xs.take (i + 1)).map g = (xs.take i).map g ++ [g x] := by
  rw [List.take_add_one, h, List.map_append]; rfl
theorem ed_sortedSi {α : Type} {emb : α → D} {xs : List α} {tl : TE} {j : Nat} {ws : List Nat} (g : α → Int) (h : ED tl σ F (.lst (xs.map emb))) (hz : xs.length < 64) (hw : ∀ x, wipe ((wipe σ ws).set j (some x)) ws = wipe σ ws)
    (he : ∀ x v F1, x ∈ xs → Ex F F1 → Rp F1 v (emb x) → ED te ((wipe σ ws).set j (some v)) F1 (.int (g x))) :
    ED (tCB (rSortedSet w) (tCons (tSi w (iList K tl) (gName j) tYes te ws) tNil)) σ F (.lst ((srt (xs.map g)).map D.int)) := fun F0 H0 e1 e2 Q q => by
  refine h F0 H0 e1 e2 _ fun v F1 H1 n1 r1 => ?_
  obtain ⟨a, vs, rfl, ha, hr⟩ := r1.list
  have hn : vs.length = xs.length := by rw [hr.n, List.length_map]
  refine ⟨a, rfl, ⟨vs, sq_of (n1.fh _ _ ha)⟩, fun p hp => ?_⟩
  refine ⟨fun i m H' => m = vs.length - i ∧ i ≤ vs.length ∧ Sw w F1 H1 p ((xs.take i).map g) H', ⟨vs.length, by simp, Nat.zero_le _, ⟨F1, fun _ => false, 0, (Nx.refl n1.fh).mut hp (fresh_back n1.fh hp), fresh_back n1.fh hp, upd_same, fun k => by simp, Nat.zero_le _⟩, hp⟩, ?_⟩
  rintro i m H' ⟨rfl, hi, s⟩
  obtain ⟨Fi, S, n, nx, f, hp', hs, hle⟩ := s.ex
  have hA : SqL K H' a vs := sq_of (nx.fh _ _ (nx.f _ _ ha))
  by_cases hlt : i < vs.length
  · refine .inr ⟨⟨vs, vs[i], hA, by simp [hlt]⟩, fun H'' => Sw w F1 H1 p ((xs.take (i + 1)).map g) H'', fun H'' s' => ⟨vs.length - (i + 1), by omega, rfl, hlt, s'⟩, fun x H'' y => ?_⟩
    obtain ⟨e, y⟩ := y
    subst e
    have hx := y vs hA
    obtain ⟨d, hd, rd⟩ := hr.getv hx
    rw [List.getElem?_map] at hd
    cases hxs : xs[i]? with
    | none => rw [hxs] at hd; cases hd
    | some z =>
      rw [hxs] at hd
      obtain rfl : emb z = d := Option.some.inj hd
      refine ⟨hw _, Sw.turn s ?_ (he z x F1 (List.mem_of_getElem? hxs) (e1.trans n1.f) rd) fun H3 s' => ?_⟩
      · rw [List.length_map, List.length_take]; omega
      · rw [take_map_succ hxs]; exact s'
  · have e : i = vs.length := by omega
    subst e
    refine .inl ⟨⟨vs, hA, Nat.le_refl _⟩, p, S, n, rfl, hp', ?_, fun ns p' up mem len hp2 => ?_⟩
    · rw [List.length_map, List.length_take] at hle; omega
    · have et : (xs.take vs.length) = xs := List.take_of_length_le (by omega)
      rw [et] at hs
      have en : ns = srt (xs.map g) := up_ext up (srt_up _) fun k => by rw [mem k, hs k, mem_srt]
      subst en
      exact q _ _ _ ((n1.trans nx).trans (Nx.new nx.fh hp2)) (Rp.mkL upd_same (Rps.ints _))
end
end Bp
namespace Bp
open PySem PySem.Spec PyProof.Rows L2 Evl

/-! ## a def of the program, as its callers need it -/
structure Df (P : Program) (w : World) (K : PySem.W.Frag) (mg : Str → Option Value) (base : Heap) (CX : CXT) (k : Nat) (x : Str) (ps : List Str) (sp : Sp) : Prop where
  ex : ∃ f fd, FnOk P w K mg base CX k f fd ps sp ∧ mg x = some (.ref f) ∧ PySem.W.keepIn K (.ref f) = true ∧ Binds K fd ps []
section
variable {X : Cx} {CX : CXT} {k j : Nat} {x : Str} {ps : List Str} {sp : Sp} {E : XK} {e : Expr} {es : List Expr} {t : TA} {p pos : Pos}
theorem pe_df (c : Df X.prog X.w X.K X.mg X.base CX k x ps sp) (hr : Room j X.A) (hk : k ≤ j) (hx : Passes CX X E) (ha : PA X (e :: es) t) (hg : Gl X x := by rfl)
    (hdb : (x == ("__debug__" : Str)) = false := by decide) (he : starEach (e :: es) X.env = (false, eval e X.env) :: starEach es X.env := by rfl) (hpl : (backTo pos (starEach es X.env)).any (·.1) = false := by rfl) :
    PE X (.Call (.Name x p) (e :: es) [] pos) (tCall sp [] E t) := by
  obtain ⟨f, fd, F, hm, kp, hb⟩ := c.ex
  exact pe_call F (hr.mono hk) hg hm kp hb .nil hx ha hdb he hpl
end

/-- a class of the program with its __init__ -/
structure Dm (P : Program) (w : World) (K : PySem.W.Frag) (mg : Str → Option Value) (base : Heap) (CX : CXT) (k : Nat) (x : Str) (ps : List Str) (sp : Sp) (C : Addr) : Prop where
  ex : ∃ f fd, Mk K C f ∧ FnOk P w K mg base CX k f fd ps sp ∧ mg x = some (.ref C) ∧ Binds K fd ps []
section
variable {X : Cx} {CX : CXT} {k j : Nat} {x : Str} {ps : List Str} {sp : Sp} {E : XK} {e : Expr} {es : List Expr} {t : TA} {p pos : Pos} {C : Addr}
theorem pe_dm (c : Dm X.prog X.w X.K X.mg X.base CX k x ps sp C) (hr : Room j X.A) (hk : k + 1 ≤ j) (hx : Passes CX X E) (ha : PA X (e :: es) t) (hg : Gl X x := by rfl)
    (hdb : (x == ("__debug__" : Str)) = false := by decide) (he : starEach (e :: es) X.env = (false, eval e X.env) :: starEach es X.env := by rfl) (hpl : (backTo pos (starEach es X.env)).any (·.1) = false := by rfl) :
    PE X (.Call (.Name x p) (e :: es) [] pos) (tMake C sp [] E t) := by
  obtain ⟨f, fd, M, F, hm, hb⟩ := c.ex
  exact pe_make M F (hr.mono hk) hg hm hb .nil hx ha hdb he hpl
theorem hu64 {k : Nat} {A : Around} (hr : Room k A) : A.units + 64 < cLine := by have := hr.un; omega
/-- an exception class of the program -/
structure ExcT (K : PySem.W.Frag) (mg : Str → Option Value) (n : Str) (C : Addr) : Prop where
  g : mg n = some (.ref C)
  x : PySem.W.excIn K C [.type "ValueError", .type "Exception", .type "BaseException", .type "object"] "ValueError.__new__" = true
  k : PySem.W.keepIn K (.ref C) = true
  s : PySem.W.subIn K (.ref C) (.type "BaseException") = some true
  t : PySem.W.typeIn K (.ref C) = some (.type "type")
end

/-! ## the rules that name the written part, with that part told ahead: inside a comprehension it is that of the def -/
section
variable {X : Cx} (K : PySem.W.Frag) {e a b : Expr} {ta te : TE} {f : Str} {pos : Pos} {tg l : Expr}
theorem ix_K (h : X.K = K := by rfl) : IxR X (rIx K) := by subst h; exact ix_seq
theorem eq_K (hu : X.A.units + 64 < cLine) (h : X.K = K := by rfl) : OpR X (compareOp .Eq) (rEqD K) := by subst h; exact op_eqD hu
theorem ne_K (hu : X.A.units + 64 < cLine) (h : X.K = K := by rfl) : OpR X (compareOp .NotEq) (rNeD K) := by subst h; exact op_neD hu
theorem in_K (h : X.K = K := by rfl) : OpR X (compareOp .In) (rIn K false) := by subst h; exact op_in_seq
theorem ni_K (h : X.K = K := by rfl) : OpR X (compareOp .NotIn) (rIn K true) := by subst h; exact op_notIn_seq
theorem len_K (h : X.K = K := by rfl) : CallR X (.builtin "len") (rLenS' K) := by subst h; exact cl_len
theorem list_K (h : X.K = K := by rfl) : CallR X (.type "list") (rListS' K) := by subst h; exact cl_list
theorem isi_K (h : X.K = K := by rfl) : CallR X (.builtin "isinstance") (rIsi K) := by subst h; exact call_isi
theorem sl_K (h : X.K = K := by rfl) : SlR X (rSlL K) := by subst h; exact sl_list
theorem fl_K (ha : PE X e ta) (hb : attributeBase e f X.env (eval e X.env) = eval e X.env := by rfl) (h : X.K = K := by rfl) : PE X (.Attribute e f pos) (tFld K ta f) := by subst h; exact pe_fld ha hb
theorem il_K (ha : PE X l te) (h : X.K = K := by rfl) : PI X tg l (iList K te) := by subst h; exact pi_list ha
theorem it_K (ha : PE X l te) (h : X.K = K := by rfl) : PI X tg l (iTup K te) := by subst h; exact pi_tup ha
end

/-! ## operators on values of any kind -/
def rAddA : R2 := fun x y H Q => rI0 (fun i j => .int (i + j)) x y H Q ∨ rCat x y H Q
def rMulA : R2 := fun x y H Q => rI CMul (fun i j => .int (i * j)) x y H Q ∨ rRep x y H Q
theorem op_addA {X : Cx} : OpR X (binaryOp .Add) rAddA := OpR.or op_add op_cat
theorem op_mulA {X : Cx} : OpR X (binaryOp .Mult) rMulA := OpR.or op_mul op_rep
section
variable {K : PySem.W.Frag} {σ : L2.St} {F F' H : Hp} {ta tb te tx : TE} {t u : TT} {x y z d : D} {r r' : R2}
theorem rd_or1 (h : RD r F x y z) : RD (fun x y H Q => r x y H Q ∨ r' x y H Q) F x y z := fun F1 H1 v u a b c d Q q => Or.inl (h F1 H1 v u a b c d Q q)
theorem rd_or2 (h : RD r' F x y z) : RD (fun x y H Q => r x y H Q ∨ r' x y H Q) F x y z := fun F1 H1 v u a b c d Q q => Or.inr (h F1 H1 v u a b c d Q q)
theorem rd_addI {i j : Int} : RD rAddA F (.int i) (.int j) (.int (i + j)) := rd_or1 rd_add
theorem rd_addL {xs ys : List D} (h : xs.length + ys.length ≤ 100000) : RD rAddA F (.lst xs) (.lst ys) (.lst (xs ++ ys)) := rd_or2 (rd_cat h)
theorem rd_mulI {i j : Int} (h : CMul i j) : RD rMulA F (.int i) (.int j) (.int (i * j)) := rd_or1 (rd_mul h)
/-- an item, of a list or a tuple -/
theorem rd_ixl {ds : List D} {i : Int} {d : D} (h : atI ds i = some d) : RD (rIx K) F (.lst ds) (.int i) d := fun F1 H1 v u a b c e Q q => Or.inl (rd_ixL h F1 H1 v u a b c e Q q)
theorem rd_ixt {ds : List D} {i : Int} {d : D} (h : atI ds i = some d) : RD (rIx K) F (.tup ds) (.int i) d := fun F1 H1 v u a b c e Q q => Or.inr (Or.inl (rd_ixT h F1 H1 v u a b c e Q q))
theorem at_nat {ds : List D} {i : Int} {j : Nat} {d : D} (e : i = (j : Int)) (h : ds[j]? = some d) : atI ds i = some d := by
  rw [e]; exact atI_nat h
end

/-! ## a house -/
abbrev hsN : List Str := ["looks", "deeds", "wished"]
def hsD (C : Addr) (l d w : D) : D := .obj C hsN [l, d, w]
section
variable {K : PySem.W.Frag} {σ : L2.St} {F F' H : Hp} {ta tb te tx : TE} {C : Addr} {l d w : D}
theorem Rp.house {v : V} (h : Rp F v (hsD C l d w)) : ∃ a dx v1 v2 v3, v = .ref a ∧ F a = some (.ins C dx [("looks", v1), ("deeds", v2), ("wished", v3)]) ∧ Rp F v1 l ∧ Rp F v2 d ∧ Rp F v3 w := by
  cases h with
  | @obj a dx c ns vs ds h m n r =>
    match vs, n with
    | [v1, v2, v3], _ => exact ⟨a, dx, v1, v2, v3, rfl, h, r 0 _ _ rfl rfl, r 1 _ _ rfl rfl, r 2 _ _ rfl rfl⟩
theorem Rp.mkH {a dx : Addr} {v1 v2 v3 : V} (h : F a = some (.ins C dx [("looks", v1), ("deeds", v2), ("wished", v3)])) (r1 : Rp F v1 l) (r2 : Rp F v2 d) (r3 : Rp F v3 w) : Rp F (.ref a) (hsD C l d w) := by
  have rs : Rps F [v1, v2, v3] [l, d, w] := .cons r1 (.cons r2 (.cons r3 .nil))
  exact .obj (vs := [v1, v2, v3]) h rfl rs.n rs.r
theorem look1 (v1 v2 v3 : V) : List.lookup ("looks" : Str) [("looks", v1), ("deeds", v2), ("wished", v3)] = some v1 := by simp [List.lookup]
theorem look2 (v1 v2 v3 : V) : List.lookup ("deeds" : Str) [("looks", v1), ("deeds", v2), ("wished", v3)] = some v2 := by
  have h : (("deeds" : Str) == ("looks" : Str)) = false := by decide +kernel
  simp [List.lookup, h]
theorem look3 (v1 v2 v3 : V) : List.lookup ("wished" : Str) [("looks", v1), ("deeds", v2), ("wished", v3)] = some v3 := by
  have h : (("wished" : Str) == ("looks" : Str)) = false := by decide +kernel
  have h2 : (("wished" : Str) == ("deeds" : Str)) = false := by decide +kernel
  simp [List.lookup, h, h2]
/-- the class's facts -/
structure HsC (K : PySem.W.Frag) (C : Addr) : Prop where
  cl : Cls K C
  n1 : NoAttr K C "looks"
  n2 : NoAttr K C "deeds"
  n3 : NoAttr K C "wished"
theorem ed_looks (hc : HsC K C) (h : ED ta σ F (hsD C l d w)) : ED (tFld K ta "looks") σ F l := fun F1 H1 e1 e2 Q q => h F1 H1 e1 e2 _ fun v F2 H2 n2 r2 => by
  obtain ⟨a, dx, v1, v2, v3, rfl, ha, h1, h2, h3⟩ := r2.house
  exact ⟨a, C, dx, _, v1, rfl, n2.fh _ _ ha, hc.cl, hc.n1, look1 _ _ _, q v1 F2 H2 n2 h1⟩
theorem ed_deeds (hc : HsC K C) (h : ED ta σ F (hsD C l d w)) : ED (tFld K ta "deeds") σ F d := fun F1 H1 e1 e2 Q q => h F1 H1 e1 e2 _ fun v F2 H2 n2 r2 => by
  obtain ⟨a, dx, v1, v2, v3, rfl, ha, h1, h2, h3⟩ := r2.house
  exact ⟨a, C, dx, _, v2, rfl, n2.fh _ _ ha, hc.cl, hc.n2, look2 _ _ _, q v2 F2 H2 n2 h2⟩
theorem ed_wished (hc : HsC K C) (h : ED ta σ F (hsD C l d w)) : ED (tFld K ta "wished") σ F w := fun F1 H1 e1 e2 Q q => h F1 H1 e1 e2 _ fun v F2 H2 n2 r2 => by
  obtain ⟨a, dx, v1, v2, v3, rfl, ha, h1, h2, h3⟩ := r2.house
  exact ⟨a, C, dx, _, v3, rfl, n2.fh _ _ ha, hc.cl, hc.n3, look3 _ _ _, q v3 F2 H2 n2 h3⟩
end

/-! ## a call that may raise, as a statement -/
section
variable {K : PySem.W.Frag} {σ : L2.St} {F H : Hp} {ta : TA} {R : List D → D → Prop} {W : List D → Addr → Prop} {D0 : Ends} {tz : TS} {E : XK} {ds : List D} {d : D} {C : Addr}
theorem q_dropX (e : Ex F H) (h : EA ta σ F ds) (hW : W ds C) (k : ∀ H2, Ex H H2 → E (.ref C) none H2) : tSeq (tDrop (tCall (spX R W) [] E ta)) tz D0 σ H :=
  h F H (Ex.refl F) e _ fun vs F2 H2 n2 r2 => ⟨F2, ds, n2.fh, by rw [List.append_nil]; exact r2, Or.inr ⟨C, hW, fun H3 e3 => k H3 (n2.h.trans e3)⟩⟩
theorem s_dropX (e : Ex F H) (h : EA ta σ F ds) (hW : W ds C) (k : ∀ H2, Ex H H2 → E (.ref C) none H2) : tDrop (tCall (spX R W) [] E ta) D0 σ H :=
  h F H (Ex.refl F) e _ fun vs F2 H2 n2 r2 => ⟨F2, ds, n2.fh, by rw [List.append_nil]; exact r2, Or.inr ⟨C, hW, fun H3 e3 => k H3 (n2.h.trans e3)⟩⟩
theorem len_X {n : Nat} (h : ∀ ds d, R ds d → ds.length = n) (h' : ∀ ds C, W ds C → ds.length = n) : ∀ vs H Q E, spX R W vs H Q E → vs.length = n := fun vs H Q E ⟨F, ds, _, r, x⟩ => by
  rcases x with ⟨d, hR, _⟩ | ⟨C, hW, _⟩
  · exact r.n.trans (h ds d hR)
  · exact r.n.trans (h' ds C hW)
end

/-! ## data of plain Lean -/
def li (xs : List Int) : D := .lst (xs.map D.int)
def lli (xs : List (List Int)) : D := .lst (xs.map li)
def llli (xs : List (List (List Int))) : D := .lst (xs.map lli)
def prt (p : Int × List Int) : D := .tup [.int p.1, li p.2]
def lpr (ps : List (Int × List Int)) : D := .lst (ps.map prt)
theorem eqv_int (i j : Int) : eqD (.int i) (.int j) = decide (i = j) := by
  show PyData.eqv (.int i) (.int j) = _
  simp only [PyData.eqv]
  rfl
theorem okE_int (i : Int) : okE (.int i) = true := rfl
mutual
theorem eqv_refl : ∀ d : PyData, d.canLay0 = true → PyData.eqv d d = true
  | .none, _ => by simp only [PyData.eqv]
  | .bool b, _ => by simp [PyData.eqv]
  | .int b, _ => by simp [PyData.eqv]
  | .str b, _ => by simp [PyData.eqv]
  | .list xs, h => by simp only [PyData.eqv]; exact eqvAll_refl xs (by simpa [PyData.canLay0] using h)
  | .tuple xs, h => by simp only [PyData.eqv]; exact eqvAll_refl xs (by simpa [PyData.canLay0] using h)
  | .dict _, h => by simp [PyData.canLay0] at h
theorem eqvAll_refl : ∀ ds : List PyData, PyData.canLayAll0 ds = true → PyData.eqvAll ds ds = true
  | [], _ => by simp only [PyData.eqvAll]
  | d :: ds, h => by
    have h' : d.canLay0 = true ∧ PyData.canLayAll0 ds = true := by simpa [PyData.canLayAll0] using h
    simp only [PyData.eqvAll, eqv_refl d h'.1, eqvAll_refl ds h'.2, Bool.and_self]
end
theorem eqD_refl {d : D} (h : okE d = true) : eqD d d = true := eqv_refl _ (SeqAt.canLay_of_shaped h)
/-- lists by items -/
theorem eqD_lst {α : Type} [DecidableEq α] {emb : α → D} (h : ∀ x y, eqD (emb x) (emb y) = decide (x = y)) : ∀ xs ys : List α, eqD (.lst (xs.map emb)) (.lst (ys.map emb)) = decide (xs = ys) := by
  intro xs ys
  have k : ∀ xs ys : List α, PyData.eqvAll (toPys (xs.map emb)) (toPys (ys.map emb)) = decide (xs = ys) := by
    intro xs
    induction xs with
    | nil => intro ys; cases ys <;> simp [toPys, PyData.eqvAll]
    | cons x xs ih =>
      intro ys
      cases ys with
      | nil => simp [toPys, PyData.eqvAll]
      | cons y ys =>
        have hx : PyData.eqv (emb x).toPy (emb y).toPy = decide (x = y) := h x y
        simp only [List.map_cons, toPys, PyData.eqvAll, hx, ih ys]
        by_cases e1 : x = y <;> by_cases e2 : xs = ys <;> simp [e1, e2]
  show PyData.eqv (.list _) (.list _) = _
  simp only [PyData.eqv]
  exact k xs ys
theorem eqD_li (xs ys : List Int) : eqD (li xs) (li ys) = decide (xs = ys) := eqD_lst eqv_int xs ys
theorem eqD_lli (xs ys : List (List Int)) : eqD (lli xs) (lli ys) = decide (xs = ys) := eqD_lst eqD_li xs ys
theorem eqD_prt (p q : Int × List Int) : eqD (prt p) (prt q) = decide (p = q) := by
  obtain ⟨a, b⟩ := p
  obtain ⟨c, d⟩ := q
  have h1 := eqv_int a c
  have h2 := eqD_li b d
  show PyData.eqv (.tuple _) (.tuple _) = _
  unfold eqD at h1 h2
  simp only [PyData.eqv, toPys, PyData.eqvAll, h1, h2, Bool.and_true]
  by_cases e1 : a = c <;> by_cases e2 : b = d <;> simp [e1, e2]
theorem eqD_lpr (xs ys : List (Int × List Int)) : eqD (lpr xs) (lpr ys) = decide (xs = ys) := eqD_lst eqD_prt xs ys
/-- such data may be compared -/
theorem lay_map {α : Type} {emb : α → D} {xs : List α} (h : ∀ x, (emb x).toPy.canLay0 = true) : PyData.canLayAll0 (toPys (xs.map emb)) = true := by
  induction xs with
  | nil => simp [toPys, PyData.canLayAll0]
  | cons x xs ih => simp [toPys, PyData.canLayAll0, h x, ih]
theorem dep_map {α : Type} {emb : α → D} {xs : List α} {n : Nat} (h : ∀ x, (emb x).toPy.depth ≤ n) : PyData.depthAll (toPys (xs.map emb)) ≤ n := by
  induction xs with
  | nil => simp [toPys, PyData.depthAll]
  | cons x xs ih =>
    have := h x
    simp only [List.map_cons, toPys, PyData.depthAll]
    omega
structure Lay (d : D) (n : Nat) : Prop where
  l : d.toPy.canLay0 = true
  d : d.toPy.depth ≤ n
theorem lay_int (i : Int) : Lay (.int i) 0 := ⟨rfl, by simp [D.toPy, PyData.depth]⟩
theorem lay_lst {α : Type} {emb : α → D} {n : Nat} (xs : List α) (h : ∀ x, Lay (emb x) n) : Lay (.lst (xs.map emb)) (n + 1) := by
  have h1 := lay_map (xs := xs) fun x => (h x).l
  have h2 := dep_map (xs := xs) fun x => (h x).d
  refine ⟨by simpa [D.toPy, PyData.canLay0] using h1, ?_⟩
  simp only [D.toPy, PyData.depth]; omega
theorem lay_li (xs : List Int) : Lay (li xs) 1 := lay_lst xs lay_int
theorem lay_lli (xs : List (List Int)) : Lay (lli xs) 2 := lay_lst xs lay_li
theorem lay_llli (xs : List (List (List Int))) : Lay (llli xs) 3 := lay_lst xs lay_lli
theorem lay_prt (p : Int × List Int) : Lay (prt p) 2 := by
  have h := lay_li p.2
  refine ⟨?_, ?_⟩
  · show PyData.canLay0 (.tuple _) = true
    simp only [PyData.canLay0, toPys, PyData.canLayAll0, h.l, D.toPy, Bool.and_self]
  · have := h.d
    show PyData.depth (.tuple _) ≤ 2
    simp only [PyData.depth, toPys, PyData.depthAll, D.toPy]
    omega
theorem lay_lpr (ps : List (Int × List Int)) : Lay (lpr ps) 3 := lay_lst ps lay_prt
theorem Lay.ok {d : D} {n : Nat} (h : Lay d n) (hn : n ≤ 64 := by decide) : okE d = true := by
  show (PyData.canLay0 _ && decide (_ ≤ 64)) = true
  rw [h.l, decide_eq_true (Nat.le_trans h.d hn)]; rfl
theorem okE_li (xs : List Int) : okE (li xs) = true := (lay_li xs).ok
theorem okE_lli (xs : List (List Int)) : okE (lli xs) = true := (lay_lli xs).ok
theorem okE_lpr (xs : List (Int × List Int)) : okE (lpr xs) = true := (lay_lpr xs).ok
theorem okE_nil : okE (.lst []) = true := rfl
end Bp
namespace Bp
open PySem PySem.Spec PyProof.Rows L2 Evl

/-! ## what is told anew: it stands in a part G of the heap that was not there before -/
def un (G1 G2 : Hp) : Hp := fun p => if (G1 p).isSome = true then G1 p else G2 p
theorem un_l {G1 G2 : Hp} : Ex G1 (un G1 G2) := fun p o h => by unfold un; rw [h]; rfl
theorem un_r {G1 G2 : Hp} (d : ∀ p, G2 p ≠ none → G1 p = none) : Ex G2 (un G1 G2) := fun p o h => by
  have := d p (by rw [h]; exact fun z => nomatch z)
  unfold un
  rw [this]
  exact h
theorem un_some {G1 G2 : Hp} {p : Addr} (h : un G1 G2 p ≠ none) : G1 p ≠ none ∨ G2 p ≠ none := by
  unfold un at h
  split at h
  · exact .inl h
  · exact .inr h
theorem un_ex {G1 G2 H : Hp} (a : Ex G1 H) (b : Ex G2 H) : Ex (un G1 G2) H := fun p o h => by
  unfold un at h
  split at h
  · exact a p o h
  · exact b p o h
structure Nw (H G H2 : Hp) : Prop where
  h : Ex H H2
  g : Ex G H2
  n : ∀ p, G p ≠ none → H p = none
def noH : Hp := fun _ => none
theorem Nw.zero (H : Hp) : Nw H noH H := ⟨Ex.refl H, fun _ _ h => (nomatch h), fun _ h => absurd rfl h⟩
theorem Nw.skip {H G H2 H3 : Hp} (a : Nw H G H2) (b : Ex H2 H3) : Nw H G H3 := ⟨a.h.trans b, a.g.trans b, a.n⟩
theorem Nw.pre {H H1 G H2 : Hp} (b : Ex H H1) (a : Nw H1 G H2) : Nw H G H2 := ⟨b.trans a.h, a.g, fun p h => by
  cases q : H p with
  | none => rfl
  | some o => have := a.n p h; rw [b p o q] at this; cases this⟩
theorem Nw.dis {H G H2 G2 H3 : Hp} (a : Nw H G H2) (b : Nw H2 G2 H3) : ∀ p, G2 p ≠ none → G p = none := fun p h => by
  cases q : G p with
  | none => rfl
  | some o => have := b.n p h; rw [a.g p o q] at this; cases this
theorem Nw.join {H G H2 G2 H3 : Hp} (a : Nw H G H2) (b : Nw H2 G2 H3) : Nw H (un G G2) H3 :=
  ⟨a.h.trans b.h, un_ex (a.g.trans b.h) b.g, fun p h => by
    rcases un_some h with h | h
    · exact a.n p h
    · exact (Nw.pre a.h b).n p h⟩
theorem Nw.new {H : Hp} {p : Addr} {o : HO} (hp : H p = none) : Nw H (upd noH p o) (upd H p o) := by
  refine ⟨Ex.new hp, fun b u h => ?_, fun b h => ?_⟩
  · by_cases hb : b = p
    · subst hb; rw [upd_same] at h ⊢; exact h
    · rw [upd_ne hb] at h; exact absurd h (by exact fun z => nomatch z)
  · by_cases hb : b = p
    · rw [hb]; exact hp
    · rw [upd_ne hb] at h; exact absurd rfl h
/-- frozen besides what was -/
theorem Nw.nx {F H G H2 : Hp} (e : Ex F H) (a : Nw H G H2) : Nx F H (un F G) H2 ∧ Ex G (un F G) := by
  have d : ∀ p, G p ≠ none → F p = none := fun p h => by
    cases q : F p with
    | none => rfl
    | some o => have := a.n p h; rw [e p o q] at this; cases this
  refine ⟨⟨un_l, a.h, un_ex (e.trans a.h) a.g, fun p h q => ?_⟩, un_r d⟩
  cases z : un F G p with
  | none => rfl
  | some o =>
    rcases un_some (G1 := F) (G2 := G) (p := p) (by rw [z]; exact fun z => nomatch z) with k | k
    · exact absurd q k
    · exact absurd (a.n p k) h
def EN (te : TE) (σ : L2.St) (F : Hp) (d : D) : Prop := ∀ F1 H1, Ex F F1 → Ex F1 H1 → ∀ Q : VK, (∀ v G H2, Nw H1 G H2 → Rp G v d → Q v H2) → te σ H1 Q
def EAN (ta : TA) (σ : L2.St) (F : Hp) (ds : List D) : Prop := ∀ F1 H1, Ex F F1 → Ex F1 H1 → ∀ Q : List V → Hp → Prop, (∀ vs G H2, Nw H1 G H2 → Rps G vs ds → Q vs H2) → ta σ H1 Q
section
variable {K : PySem.W.Frag} {w : World} {σ : L2.St} {F F' H : Hp} {ta tb te tx : TE} {t u : TT} {x y z d : D} {r : R2}
theorem EN.mono (e : Ex F F') (h : EN te σ F d) : EN te σ F' d := fun F1 H1 a b Q q => h F1 H1 (e.trans a) b Q q
theorem EN.ed (h : EN te σ F d) : ED te σ F d := fun F1 H1 e1 e2 Q q => h F1 H1 e1 e2 Q fun v G H2 n r => by
  obtain ⟨k1, k2⟩ := n.nx e2
  exact q v _ H2 k1 (r.mono k2)
theorem EN.is {d' : D} (h : EN te σ F d) (e : d = d') : EN te σ F d' := e ▸ h
theorem en_int {i : Int} (h : ED te σ F (.int i)) : EN te σ F (.int i) := fun F1 H1 e1 e2 Q q => h F1 H1 e1 e2 Q fun v F2 H2 n r => by
  rw [r.eint]; exact q _ noH H2 ((Nw.zero H1).skip n.h) (.int i)
theorem en_bl {i : Bool} (h : ED te σ F (.bl i)) : EN te σ F (.bl i) := fun F1 H1 e1 e2 Q q => h F1 H1 e1 e2 Q fun v F2 H2 n r => by
  rw [r.ebl]; exact q _ noH H2 ((Nw.zero H1).skip n.h) (.bl i)
theorem en_non (h : ED te σ F .non) : EN te σ F .non := fun F1 H1 e1 e2 Q q => h F1 H1 e1 e2 Q fun v F2 H2 n r => by
  rw [r.enon]; exact q _ noH H2 ((Nw.zero H1).skip n.h) .non
theorem ean_nil : EAN tNil σ F [] := fun F1 H1 e1 e2 _ q => q [] noH H1 (Nw.zero H1) .nil
theorem ean_cons {tr : TA} {ds : List D} (ha : EN ta σ F x) (hr : EAN tr σ F ds) : EAN (tCons ta tr) σ F (x :: ds) := fun F1 H1 e1 e2 Q q =>
  ha F1 H1 e1 e2 _ fun v G H2 n2 r2 => hr F1 H2 e1 (e2.trans n2.h) _ fun vs G2 H3 n3 r3 => q _ (un G G2) H3 (n2.join n3) (.cons (r2.mono un_l) (r3.mono (un_r (n2.dis n3))))
theorem en_tup {ta : TA} {ds : List D} (h : EAN ta σ F ds) (hl : ds.length ≤ 100000) : EN (tTup ta) σ F (.tup ds) := fun F1 H1 e1 e2 Q q =>
  h F1 H1 e1 e2 _ fun vs G H2 n r => ⟨sz_of (by rw [r.n]; exact hl), fun p hp => q _ _ _ (n.join (Nw.new hp)) (Rp.mkT (un_r (n.dis (Nw.new hp)) p _ upd_same) (r.mono un_l))⟩
theorem en_lst {ta : TA} {ds : List D} (h : EAN ta σ F ds) (hl : ds.length ≤ 100000) : EN (tLst ta) σ F (.lst ds) := fun F1 H1 e1 e2 Q q =>
  h F1 H1 e1 e2 _ fun vs G H2 n r => ⟨sz_of (by rw [r.n]; exact hl), fun p hp => q _ _ _ (n.join (Nw.new hp)) (Rp.mkL (un_r (n.dis (Nw.new hp)) p _ upd_same) (r.mono un_l))⟩
/-- a new list of whole numbers -/
theorem en_ints {p : Addr} {H1 : Hp} {ns : List Int} (hp : H1 p = none) : Rp (upd noH p (.lst (ns.map V.int))) (.ref p) (li ns) := Rp.mkL upd_same (Rps.ints ns)
theorem en_list {ns : List Int} (h : ED ta σ F (li ns)) : EN (tCB (rListS' K) (tCons ta tNil)) σ F (li ns) := fun F1 H1 e1 e2 Q q =>
  h F1 H1 e1 e2 _ fun v F2 H2 n2 r2 => by
    obtain ⟨a, ws, rfl, ha, hr⟩ := r2.list
    rw [hr.eints] at ha
    exact ⟨a, _, rfl, Or.inl (Or.inl (Or.inl (n2.fh _ _ ha))), fun p hp => q _ _ _ (Nw.pre n2.h (Nw.new hp)) (en_ints hp)⟩
/-! ### comprehensions -/
structure Cn (F1 H1 : Hp) (Dl : Addr) (ds : List D) (H' : Hp) : Prop where
  ex : ∃ G vs, Nw H1 G H' ∧ Ex F1 H' ∧ G Dl = none ∧ H' Dl = some (.lst vs) ∧ Rps G vs ds
  h0 : H1 Dl = none
  f0 : F1 Dl = none
theorem Cn.start {F1 H1 : Hp} {Dl : Addr} (e : Ex F1 H1) (hD : H1 Dl = none) : Cn F1 H1 Dl [] (upd H1 Dl (.lst [])) :=
  ⟨⟨noH, [], (Nw.zero H1).skip (Ex.new hD), e.trans (Ex.new hD), rfl, upd_same, .nil⟩, hD, fresh_back e hD⟩
theorem Cn.done {F1 H1 : Hp} {Dl : Addr} {ds : List D} {H' : Hp} (p : Cn F1 H1 Dl ds H') : ∃ G, Nw H1 G H' ∧ Rp G (.ref Dl) (.lst ds) := by
  obtain ⟨G, vs, n, e, f, h, r⟩ := p.ex
  refine ⟨upd G Dl (.lst vs), ⟨n.h, fun b u k => ?_, fun b k => ?_⟩, Rp.mkL upd_same (r.mono (Ex.new f))⟩
  · by_cases hb : b = Dl
    · subst hb; rw [upd_same] at k; rw [h]; exact k
    · rw [upd_ne hb] at k; exact n.g b u k
  · by_cases hb : b = Dl
    · rw [hb]; exact p.h0
    · rw [upd_ne hb] at k; exact n.n b k
theorem Cn.turn {F1 H1 : Hp} {Dl : Addr} {ds : List D} {H' : Hp} {σ2 : L2.St} {b : Bool} {d : D} {N : Hp → Prop} (p : Cn F1 H1 Dl ds H') (hl : ds.length < 50000) (ht : ET t σ2 F1 b) (he : b = true → EN te σ2 F1 d)
    (hn : ∀ H'', Cn F1 H1 Dl (ds ++ if b = true then [d] else []) H'' → N H'') :
    t σ2 H' fun b H3 => if b = true then te σ2 H3 fun y H4 => ∃ acc, H4 Dl = some (.lst acc) ∧ acc.length < sizeLine ∧ N (upd H4 Dl (.lst (acc ++ [y]))) else N H3 := by
  obtain ⟨G, vs, n, e, f, h, r⟩ := p.ex
  refine ht F1 H' (Ex.refl F1) e _ fun F2 H2 n2 => ?_
  have h2 := n2.h _ _ h
  have e2 := e.trans n2.h
  have nn := n.skip n2.h
  cases b with
  | true =>
    show te σ2 H2 _
    refine he rfl F1 H2 (Ex.refl F1) e2 _ fun v G3 H3 n3 r3 => ?_
    have g3 : G3 Dl = none := by
      cases q : G3 Dl with
      | none => rfl
      | some o => have := n3.n Dl (by rw [q]; exact fun z => nomatch z); rw [h2] at this; cases this
    have h3 := n3.h _ _ h2
    have gd : un G G3 Dl = none := by
      cases q : un G G3 Dl with
      | none => rfl
      | some o =>
        rcases un_some (G1 := G) (G2 := G3) (p := Dl) (by rw [q]; exact fun z => nomatch z) with k | k
        · exact absurd f k
        · exact absurd g3 k
    have nu := nn.join n3
    refine ⟨vs, h3, sz_lt (by rw [r.n]; omega), hn _ ⟨⟨un G G3, vs ++ [v], ⟨Ex.mut nu.h p.h0, Ex.mut nu.g gd, nu.n⟩, Ex.mut (e2.trans n3.h) p.f0, gd, upd_same, ?_⟩, p.h0, p.f0⟩⟩
    exact (r.mono un_l).snoc (r3.mono (un_r (nn.dis n3)))
  | false =>
    show N H2
    refine hn _ ⟨⟨G, vs, nn, e2, f, h2, ?_⟩, p.h0, p.f0⟩
    rw [if_neg Bool.false_ne_true, List.append_nil]
    exact r
/-- [g for x in xs if f], each g made anew -/
theorem en_lc {α : Type} {emb : α → D} {xs : List α} {tl : TE} {j : Nat} {ws : List Nat} (f : α → Bool) (g : α → D) (h : ED tl σ F (.lst (xs.map emb))) (hz : xs.length < 50000) (hw : ∀ x, wipe ((wipe σ ws).set j (some x)) ws = wipe σ ws)
    (ht : ∀ x v F1, x ∈ xs → Ex F F1 → Rp F1 v (emb x) → ET t ((wipe σ ws).set j (some v)) F1 (f x)) (he : ∀ x v F1, x ∈ xs → Ex F F1 → Rp F1 v (emb x) → f x = true → EN te ((wipe σ ws).set j (some v)) F1 (g x)) :
    EN (tLc (iList K tl) (gName j) t te ws) σ F (.lst ((xs.filter f).map g)) := fun F0 H0 e1 e2 Q q => h F0 H0 e1 e2 _ fun v F1 H1 n1 r1 => by
  obtain ⟨a, vs, rfl, ha, hr⟩ := r1.list
  refine ⟨a, rfl, ⟨vs, Evl.sq_of (n1.fh _ _ ha)⟩, fun Dl hD => ?_⟩
  refine lc_list (xs := vs) (fun i H' => Cn F1 H1 Dl (((xs.take i).filter f).map g) H') (Cn.start n1.fh hD) (fun i H' _ p => ?_) (fun i x H' hi p => ⟨hw x, ?_⟩) (fun H' p => ?_)
  · obtain ⟨G, us, n, e, _⟩ := p.ex
    exact Evl.sq_of (e _ _ ha)
  · obtain ⟨d, hd, rd⟩ := hr.getv hi
    rw [List.getElem?_map] at hd
    cases hx : xs[i]? with
    | none => rw [hx] at hd; cases hd
    | some y =>
      rw [hx] at hd
      obtain rfl : emb y = d := Option.some.inj hd
      have hm : y ∈ xs := List.mem_of_getElem? hx
      refine Cn.turn p ?_ (ht y x F1 hm (e1.trans n1.f) rd) (fun hf => he y x F1 hm (e1.trans n1.f) rd hf) (fun H'' p' => ?_)
      · rw [List.length_map]
        have := List.length_filter_le f (xs.take i)
        rw [List.length_take] at *
        omega
      · rw [take_filter_map hx]
        exact p'
  · have hn : vs.length = xs.length := by rw [hr.n, List.length_map]
    have ef : xs.take vs.length = xs := List.take_of_length_le (by omega)
    rw [ef] at p
    obtain ⟨G, n2, r2⟩ := p.done
    exact q _ G H' (Nw.pre n1.h n2) r2
theorem en_lcR {n : Int} {ta : TA} {j : Nat} {ws : List Nat} (f : Nat → Bool) (g : Nat → D) (h : EA ta σ F [.int n]) (hz : 0 ≤ n ∧ n < 50000) (hw : ∀ x, wipe ((wipe σ ws).set j (some x)) ws = wipe σ ws)
    (ht : ∀ (x : Nat) F1, (x : Int) < n → Ex F F1 → ET t ((wipe σ ws).set j (some (.int (x : Int)))) F1 (f x)) (he : ∀ (x : Nat) F1, (x : Int) < n → Ex F F1 → f x = true → EN te ((wipe σ ws).set j (some (.int (x : Int)))) F1 (g x)) :
    EN (tLc (iRng1 ta) (gName j) t te ws) σ F (.lst (((List.range n.toNat).filter f).map g)) := fun F0 H0 e1 e2 Q q => h F0 H0 e1 e2 _ fun vs F1 H1 n1 r1 => by
  obtain ⟨v, us, rfl, h1, h2⟩ := r1.uncons
  rw [h2.unnil, h1.eint]
  refine ⟨n, rfl, by omega, by omega, fun Dl hD => ?_⟩
  refine lc_range (lo := 0) (n := n.toNat) (fun i H' => Cn F1 H1 Dl ((((List.range n.toNat).take i).filter f).map g) H') (Cn.start n1.fh hD) (fun i H' hi p => ⟨hw _, ?_⟩) (fun H' p => ?_)
  · have e0 : (0 : Int) + (i : Int) = (i : Int) := Int.zero_add _
    rw [e0]
    have hx : (List.range n.toNat)[i]? = some i := by rw [List.getElem?_range hi]
    refine Cn.turn p ?_ (ht i F1 (by omega) (e1.trans n1.f)) (fun hf => he i F1 (by omega) (e1.trans n1.f) hf) (fun H'' p' => ?_)
    · rw [List.length_map]
      have := List.length_filter_le f ((List.range n.toNat).take i)
      rw [List.length_take] at *
      omega
    · rw [take_filter_map hx]
      exact p'
  · have ef : (List.range n.toNat).take n.toNat = List.range n.toNat := List.take_of_length_le (by simp)
    rw [ef] at p
    obtain ⟨G, n2, r2⟩ := p.done
    exact q _ G H' (Nw.pre n1.h n2) r2
/-- sorted({g for x in xs}), the list is new -/
theorem en_sortedSi {α : Type} {emb : α → D} {xs : List α} {tl : TE} {j : Nat} {ws : List Nat} (g : α → Int) (h : ED tl σ F (.lst (xs.map emb))) (hz : xs.length < 64) (hw : ∀ x, wipe ((wipe σ ws).set j (some x)) ws = wipe σ ws)
    (he : ∀ x v F1, x ∈ xs → Ex F F1 → Rp F1 v (emb x) → ED te ((wipe σ ws).set j (some v)) F1 (.int (g x))) :
    EN (tCB (rSortedSet w) (tCons (tSi w (iList K tl) (gName j) tYes te ws) tNil)) σ F (li (srt (xs.map g))) := fun F0 H0 e1 e2 Q q => by
  refine h F0 H0 e1 e2 _ fun v F1 H1 n1 r1 => ?_
  obtain ⟨a, vs, rfl, ha, hr⟩ := r1.list
  have hn : vs.length = xs.length := by rw [hr.n, List.length_map]
  refine ⟨a, rfl, ⟨vs, Evl.sq_of (n1.fh _ _ ha)⟩, fun p hp => ?_⟩
  refine ⟨fun i m H' => m = vs.length - i ∧ i ≤ vs.length ∧ Sw w F1 H1 p ((xs.take i).map g) H', ⟨vs.length, by simp, Nat.zero_le _, ⟨F1, fun _ => false, 0, (Nx.refl n1.fh).mut hp (fresh_back n1.fh hp), fresh_back n1.fh hp, upd_same, fun k => by simp, Nat.zero_le _⟩, hp⟩, ?_⟩
  rintro i m H' ⟨rfl, hi, s⟩
  obtain ⟨Fi, S, n, nx, f, hp', hs, hle⟩ := s.ex
  have hA : SqL K H' a vs := Evl.sq_of (nx.fh _ _ (nx.f _ _ ha))
  by_cases hlt : i < vs.length
  · refine .inr ⟨⟨vs, vs[i], hA, by simp [hlt]⟩, fun H'' => Sw w F1 H1 p ((xs.take (i + 1)).map g) H'', fun H'' s' => ⟨vs.length - (i + 1), by omega, rfl, hlt, s'⟩, fun x H'' y => ?_⟩
    obtain ⟨e, y⟩ := y
    subst e
    have hx := y vs hA
    obtain ⟨d, hd, rd⟩ := hr.getv hx
    rw [List.getElem?_map] at hd
    cases hxs : xs[i]? with
    | none => rw [hxs] at hd; cases hd
    | some z =>
      rw [hxs] at hd
      obtain rfl : emb z = d := Option.some.inj hd
      refine ⟨hw _, Sw.turn s ?_ (he z x F1 (List.mem_of_getElem? hxs) (e1.trans n1.f) rd) fun H3 s' => ?_⟩
      · rw [List.length_map, List.length_take]; omega
      · rw [take_map_succ hxs]; exact s'
  · have e : i = vs.length := by omega
    subst e
    refine .inl ⟨⟨vs, hA, Nat.le_refl _⟩, p, S, n, rfl, hp', ?_, fun ns p' up mem len hp2 => ?_⟩
    · rw [List.length_map, List.length_take] at hle; omega
    · have et : (xs.take vs.length) = xs := List.take_of_length_le (by omega)
      rw [et] at hs
      have en : ns = srt (xs.map g) := up_ext up (srt_up _) fun k => by rw [mem k, hs k, mem_srt]
      subst en
      exact q _ _ _ (Nw.pre (n1.h.trans nx.h) (Nw.new hp2)) (en_ints hp2)
end

/-! ## fields of an instance that is being made: at x, outside the frozen part -/
structure Nq (x : Addr) (H G H2 : Hp) : Prop where
  h : ∀ b o, b ≠ x → H b = some o → H2 b = some o
  g : Ex G H2
  n : ∀ p, G p ≠ none → H p = none
theorem Nq.zero {x : Addr} {H H2 : Hp} (e : Ex H H2) : Nq x H noH H2 := ⟨fun b o _ h => e b o h, fun _ _ h => (nomatch h), fun _ h => absurd rfl h⟩
theorem Nq.step {x : Addr} {H G H2 G2 H3 : Hp} {o : HO} (hx : H x ≠ none) (h2 : H2 x ≠ none) (a : Nq x H G H2) (b : Nw H2 G2 H3) : Nq x H (un G G2) (upd H3 x o) ∧ Ex G (un G G2) ∧ Ex G2 (un G G2) := by
  have gx : G x = none := Classical.byContradiction fun z => hx (a.n x z)
  have g2x : G2 x = none := Classical.byContradiction fun z => h2 (b.n x z)
  have dis : ∀ p, G2 p ≠ none → G p = none := fun p h => by
    cases q : G p with
    | none => rfl
    | some o => have := b.n p h; rw [a.g p o q] at this; cases this
  refine ⟨⟨fun c u hc h => ?_, fun c u h => ?_, fun p h => ?_⟩, un_l, un_r dis⟩
  · rw [upd_ne hc]; exact b.h _ _ (a.h c u hc h)
  · have hc : c ≠ x := fun z => by
      rw [z] at h
      rcases un_some (G1 := G) (G2 := G2) (p := x) (by rw [h]; exact fun z => nomatch z) with k | k
      · exact k gx
      · exact k g2x
    rw [upd_ne hc]
    exact un_ex (fun b' u' h' => b.h _ _ (a.g b' u' h')) b.g c u h
  · rcases un_some h with k | k
    · exact a.n p k
    · have z := b.n p k
      cases q : H p with
      | none => rfl
      | some o =>
        by_cases hp : p = x
        · subst hp; exact absurd z h2
        · rw [a.h p o hp q] at z; cases z
section
variable {K : PySem.W.Frag} {σ : L2.St} {F H : Hp} {d : D} {te : TE} {D0 : Ends} {tz : TS} {i : Nat} {x dx C : Addr} {f : Str} {fs : List (Str × V)}
theorem q_fld (e : Ex F H) (h : EN te σ F d) (hx : σ[i]? = some (some (.ref x))) (ho : H x = some (.ins C dx fs)) (hc : Cls K C) (hn : NoAttr K C f) (hl : fs.length < 1000)
    (k : ∀ y G H1, Nw H G H1 → Rp G y d → tz D0 σ (upd H1 x (.ins C dx (putF f y fs)))) : tSeq (sFld K (tVar i) te f) tz D0 σ H :=
  h F H (Ex.refl F) e _ fun y G H1 n r => ⟨.ref x, hx, x, C, dx, fs, rfl, n.h _ _ ho, hc, hn, hl, k y G H1 n r⟩
theorem s_fld (e : Ex F H) (h : EN te σ F d) (hx : σ[i]? = some (some (.ref x))) (ho : H x = some (.ins C dx fs)) (hc : Cls K C) (hn : NoAttr K C f) (hl : fs.length < 1000)
    (k : ∀ y G H1, Nw H G H1 → Rp G y d → D0.nx σ (upd H1 x (.ins C dx (putF f y fs)))) : sFld K (tVar i) te f D0 σ H :=
  h F H (Ex.refl F) e _ fun y G H1 n r => ⟨.ref x, hx, x, C, dx, fs, rfl, n.h _ _ ho, hc, hn, hl, k y G H1 n r⟩
end
theorem put1 (v1 : V) : putF "looks" v1 [] = [(("looks" : Str), v1)] := rfl
theorem put2 (v1 v2 : V) : putF "deeds" v2 [(("looks" : Str), v1)] = [(("looks" : Str), v1), (("deeds" : Str), v2)] := by
  have h : ¬ (("looks" : Str) = "deeds") := by decide +kernel
  unfold putF
  rw [if_neg h]; rfl
theorem put3 (v1 v2 v3 : V) : putF "wished" v3 [(("looks" : Str), v1), (("deeds" : Str), v2)] = [(("looks" : Str), v1), (("deeds" : Str), v2), (("wished" : Str), v3)] := by
  have h : ¬ (("looks" : Str) = "wished") := by decide +kernel
  have h' : ¬ (("deeds" : Str) = "wished") := by decide +kernel
  unfold putF
  rw [if_neg h]
  unfold putF
  rw [if_neg h']; rfl

/-! ## defs whose answer is made anew -/
def spN (R : List D → D → Prop) (W : List D → Addr → Prop) : Sp := fun vs H Q E => ∃ F ds, Ex F H ∧ Rps F vs ds ∧
  ((∃ d, R ds d ∧ ∀ v G H2, Nw H G H2 → Rp G v d → Q v H2) ∨ (∃ C, W ds C ∧ ∀ H2, Ex H H2 → E (.ref C) none H2))
def noW : List D → Addr → Prop := fun _ _ => False
section
variable {K : PySem.W.Frag} {σ : L2.St} {F F' H : Hp} {d : D} {R : List D → D → Prop} {W : List D → Addr → Prop} {E : XK} {ta : TA} {ds : List D} {C : Addr} {D0 : Ends} {tz : TS}
theorem en_call (h : EA ta σ F ds) (hR : R ds d) : EN (tCall (spN R W) [] E ta) σ F d := fun F1 H1 e1 e2 Q q =>
  h F1 H1 e1 e2 _ fun vs F2 H2 n2 r2 => ⟨F2, ds, n2.fh, by rw [List.append_nil]; exact r2, Or.inl ⟨d, hR, fun v G H3 n3 r3 => q v G H3 (Nw.pre n2.h n3) r3⟩⟩
theorem ed_callN (h : EA ta σ F ds) (hR : R ds d) : ED (tCall (spN R W) [] E ta) σ F d := (en_call h hR).ed
theorem len_N {n : Nat} (h : ∀ ds d, R ds d → ds.length = n) (h' : ∀ ds C, W ds C → ds.length = n) : ∀ vs H Q E, spN R W vs H Q E → vs.length = n := fun vs H Q E ⟨F, ds, _, r, x⟩ => by
  rcases x with ⟨d, hR, _⟩ | ⟨C, hW, _⟩
  · exact r.n.trans (h ds d hR)
  · exact r.n.trans (h' ds C hW)
theorem s_retN (e : Ex F H) (h : EN te σ F d) (k : ∀ v G H1, Nw H G H1 → Rp G v d → D0.rt v H1) : tRet te D0 σ H := h F H (Ex.refl F) e _ k
theorem q_asgN {i : Nat} {te : TE} (e : Ex F H) (h : EN te σ F d) (k : ∀ v G H1, Nw H G H1 → Rp G v d → tz D0 (σ.set i (some v)) H1) : tSeq (tAsg te (gName i)) tz D0 σ H := h F H (Ex.refl F) e _ k
end
end Bp
namespace Bp
open PySem PySem.Spec PyProof.Rows L2 Evl
/-! ## the built-ins' names -/
theorem bt_int : bootBuiltins
    "int" = some (.type "int") := by decide +kernel
theorem bt_str : bootBuiltins
    "str" = some (.type "str") := by decide +kernel
theorem bt_bool : bootBuiltins
    "bool" = some (.type "bool") := by decide +kernel
theorem bt_list : bootBuiltins
    "list" = some (.type "list") := by decide +kernel
theorem bt_tuple : bootBuiltins
    "tuple" = some (.type "tuple") := by decide +kernel
theorem bt_dict : bootBuiltins
    "dict" = some (.type "dict") := by decide +kernel
theorem bt_set : bootBuiltins
    "set" = some (.type "set") := by decide +kernel
theorem bt_type : bootBuiltins
    "type" = some (.type "type") := by decide +kernel
theorem bt_len : bootBuiltins
    "len" = some (.builtin "len") := by decide +kernel
theorem bt_isinstance : bootBuiltins
    "isinstance" = some (.builtin "isinstance") := by decide +kernel
theorem bt_max : bootBuiltins
    "max" = some (.builtin "max") := by decide +kernel
theorem bt_min : bootBuiltins
    "min" = some (.builtin "min") := by decide +kernel
theorem bt_sorted : bootBuiltins
    "sorted" = some (.builtin "sorted") := by decide +kernel
theorem bt_all : bootBuiltins
    "all" = some (.builtin "all") := by decide +kernel
theorem bt_any : bootBuiltins
    "any" = some (.builtin "any") := by decide +kernel
theorem ty_int {d : D} (h : tyD d = "int") : ∃ i, d = .int i := by
  cases d with
  | int i => exact ⟨i, rfl⟩
  | _ => exact absurd h (by simp only [tyD]; decide)
theorem ty_list {d : D} (h : tyD d = "list") : ∃ i, d = .lst i := by
  cases d with
  | lst i => exact ⟨i, rfl⟩
  | _ => exact absurd h (by simp only [tyD]; decide)
/-- where the classes of the program stand -/
structure Ad where
  (hs he bh bg bd bp bs nw bt : Addr)

/-! ## what the defs of the program tell -/
def isWhole : D → Int → Bool
  | .int i, n => decide (0 ≤ i) && decide (i < n)
  | _, _ => false
def R_is_whole (ds : List D) (d : D) : Prop := ∃ x n, ds = [x, .int n] ∧ noObj x = true ∧ d = .bl (isWhole x n)
def isList : D → Int → Int → Bool
  | .lst xs, a, b => decide (a ≤ (xs.length : Int)) && decide ((xs.length : Int) ≤ b)
  | _, _, _ => false
def R_is_list (ds : List D) (d : D) : Prop := ∃ x a b, ds = [x, .int a, .int b] ∧ noObj x = true ∧ d = .bl (isList x a b)
def rises (n : Int) : Int → List D → Bool
  | _, [] => true
  | lo, x :: xs => match x with
    | .int i => decide (0 ≤ i) && decide (i < n) && decide (lo ≤ i) && rises n (i + 1) xs
    | _ => false
def isRising (x : D) (n : Int) : Bool := match x with
  | .lst xs => decide ((xs.length : Int) ≤ n) && rises n 0 xs
  | _ => false
def noObjs : D → Bool
  | .lst xs => xs.all noObj
  | .obj _ _ _ => false
  | .scr _ _ => false
  | _ => true
def R_is_rising (ds : List D) (d : D) : Prop := ∃ x n, ds = [x, .int n] ∧ noObjs x = true ∧ d = .bl (isRising x n)
theorem isList_yes {x : D} {a b : Int} (h : isList x a b = true) : ∃ xs, x = .lst xs ∧ a ≤ (xs.length : Int) ∧ (xs.length : Int) ≤ b := by
  cases x <;> first | cases h | skip
  rename_i xs
  simp only [isList, Bool.and_eq_true, decide_eq_true_eq] at h
  exact ⟨xs, rfl, h⟩
theorem isRising_no {x : D} {n : Int} (h : isList x 0 n = false) : isRising x n = false := by
  cases x <;> first | rfl | skip
  rename_i xs
  have h0 : ¬ ((xs.length : Int) ≤ n) := by simpa [isList] using h
  simp [isRising, h0]
def belowD : D → Int → Bool
  | .int j, lo => decide (j < lo)
  | _, _ => false
theorem rises_bad {d : D} {n lo : Int} {xs : List D} (h : (!isWhole d n || belowD d lo) = true) : rises n lo (d :: xs) = false := by
  cases d <;> first | rfl | skip
  rename_i j
  simp only [isWhole, belowD, Bool.or_eq_true, Bool.not_eq_true', Bool.and_eq_false_iff, decide_eq_false_iff_not, decide_eq_true_eq] at h
  simp only [rises, Bool.and_eq_false_iff, decide_eq_false_iff_not]
  rcases h with (h | h) | h
  · exact .inl (.inl (.inl h))
  · exact .inl (.inl (.inr h))
  · exact .inl (.inr (by omega))
theorem rises_good {d : D} {n lo : Int} {xs : List D} (h : (!isWhole d n || belowD d lo) = false) : ∃ j, d = .int j ∧ 0 ≤ j ∧ j < n ∧ lo ≤ j ∧ rises n lo (d :: xs) = rises n (j + 1) xs := by
  cases d <;> first | (simp [isWhole] at h; done) | skip
  rename_i j
  simp only [isWhole, belowD, Bool.or_eq_false_iff, Bool.not_eq_false', Bool.and_eq_true, decide_eq_false_iff_not, decide_eq_true_eq] at h
  refine ⟨j, rfl, h.1.1, h.1.2, by omega, ?_⟩
  simp only [rises, decide_eq_true h.1.1, decide_eq_true h.1.2, decide_eq_true (show lo ≤ j by omega), Bool.true_and]
def isNilD : D → Bool
  | .lst [] => true
  | _ => false
def isGuess (x : D) (n : Int) : Bool := isRising x n && !isNilD x
theorem isRising_yes {x : D} {n : Int} (h : isRising x n = true) : ∃ xs, x = .lst xs ∧ (xs.length : Int) ≤ n ∧ rises n 0 xs = true := by
  cases x <;> first | cases h | skip
  rename_i xs
  simp only [isRising, Bool.and_eq_true, decide_eq_true_eq] at h
  exact ⟨xs, rfl, h⟩
def R_need_guess (A : Ad) (ds : List D) (d : D) : Prop := ∃ l dd w x, ds = [hsD A.hs (li l) dd w, x] ∧ noObjs x = true ∧ isGuess x l.length = true ∧ d = .bl true
def W_guess (A : Ad) (ds : List D) (C : Addr) : Prop := ∃ l dd w x, ds = [hsD A.hs (li l) dd w, x] ∧ noObjs x = true ∧ isGuess x l.length = false ∧ C = A.bg
/-- a guess of whole numbers -/
def Up (n : Int) (xs : List Int) : Prop := xs.Pairwise (· < ·) ∧ ∀ x ∈ xs, 0 ≤ x ∧ x < n
theorem rises_ints {n : Int} : ∀ {xs : List Int} {lo : Int}, rises n lo (xs.map D.int) = true ↔ (xs.Pairwise (· < ·) ∧ ∀ x ∈ xs, 0 ≤ x ∧ x < n ∧ lo ≤ x)
  | [], _ => by simp [rises]
  | x :: xs, lo => by
    have ih := rises_ints (n := n) (xs := xs) (lo := x + 1)
    simp only [List.map_cons, rises, Bool.and_eq_true, decide_eq_true_eq, ih, List.pairwise_cons, List.mem_cons]
    constructor
    · rintro ⟨⟨⟨h1, h2⟩, h3⟩, h4, h5⟩
      refine ⟨⟨fun y hy => ?_, h4⟩, fun y hy => ?_⟩
      · have := h5 y hy; omega
      · rcases hy with rfl | hy
        · exact ⟨h1, h2, h3⟩
        · have := h5 y hy; exact ⟨this.1, this.2.1, by omega⟩
    · rintro ⟨⟨h1, h2⟩, h3⟩
      have hx := h3 x (.inl rfl)
      refine ⟨⟨⟨hx.1, hx.2.1⟩, hx.2.2⟩, h2, fun y hy => ?_⟩
      have hy' := h3 y (.inr hy)
      exact ⟨hy'.1, hy'.2.1, by have := h1 y hy; omega⟩
theorem up_len {n : Int} (hn : 0 ≤ n) {xs : List Int} (h : Up n xs) : (xs.length : Int) ≤ n := by
  have k : ∀ (xs : List Int) (lo : Int), xs.Pairwise (· < ·) → (∀ x ∈ xs, lo ≤ x ∧ x < n) → lo ≤ n → (xs.length : Int) ≤ n - lo := by
    intro xs
    induction xs with
    | nil => intro lo _ _ h; simp; omega
    | cons x xs ih =>
      intro lo hp hb hl
      have hp' := List.pairwise_cons.mp hp
      have hx := hb x (by simp)
      have := ih (x + 1) hp'.2 (fun y hy => ⟨by have := hp'.1 y hy; omega, (hb y (by simp [hy])).2⟩) (by omega)
      simp; omega
  have := k xs 0 h.1 h.2 hn
  omega
theorem isRising_li {n : Int} (hn : 0 ≤ n) {xs : List Int} : isRising (li xs) n = true ↔ Up n xs := by
  show (decide _ && rises n 0 (xs.map D.int)) = true ↔ _
  rw [Bool.and_eq_true, rises_ints, decide_eq_true_eq, List.length_map]
  constructor
  · rintro ⟨_, h1, h2⟩; exact ⟨h1, fun x hx => ⟨(h2 x hx).1, (h2 x hx).2.1⟩⟩
  · intro h; exact ⟨up_len hn h, h.1, fun x hx => ⟨(h.2 x hx).1, (h.2 x hx).2, (h.2 x hx).1⟩⟩
theorem isGuess_li {n : Int} (hn : 0 ≤ n) {xs : List Int} : isGuess (li xs) n = true ↔ Up n xs ∧ xs ≠ [] := by
  unfold isGuess
  rw [Bool.and_eq_true, isRising_li hn]
  cases xs <;> simp [li, isNilD]
theorem rises_all {n : Int} : ∀ {xs : List D} {lo : Int}, rises n lo xs = true → ∃ ns : List Int, xs = ns.map D.int
  | [], _, _ => ⟨[], rfl⟩
  | x :: xs, lo, h => by
    cases x <;> first | (simp [rises] at h; done) | skip
    rename_i i
    simp only [rises, Bool.and_eq_true] at h
    obtain ⟨ns, e⟩ := rises_all h.2
    exact ⟨i :: ns, by rw [e]; rfl⟩
theorem isRising_ints {x : D} {n : Int} (h : isRising x n = true) : ∃ ns, x = li ns := by
  obtain ⟨xs, rfl, _, h⟩ := isRising_yes h
  obtain ⟨ns, rfl⟩ := rises_all h
  exact ⟨ns, rfl⟩
theorem noObjs_li (xs : List Int) : noObjs (li xs) = true := List.all_eq_true.mpr fun x hx => by
  obtain ⟨n, _, rfl⟩ := List.mem_map.mp hx; rfl
theorem noObj_lst (xs : List D) : noObj (.lst xs) = true := rfl
/-! ## parts, behind, there -/
def lookOf (l : List Int) (r : Int) : Int := l.getD r.toNat 0
theorem atI_li {l : List Int} {r : Int} (h0 : 0 ≤ r) (h1 : r < l.length) : atI (l.map D.int) r = some (.int (lookOf l r)) := by
  have h : r.toNat < l.length := by omega
  refine at_nat (j := r.toNat) (by omega) ?_
  rw [List.getElem?_map, List.getElem?_eq_getElem h]
  unfold lookOf
  rw [List.getD_eq_getElem?_getD, List.getElem?_eq_getElem h]; rfl
def seen (l g : List Int) (k : Int) : List Int := g.filter fun r => decide (lookOf l r = k)
def partsOf (l g : List Int) : List (Int × List Int) := (srt (g.map (lookOf l))).map fun k => (k, seen l g k)
def R_rooms_seen (A : Ad) (ds : List D) (d : D) : Prop := ∃ l dd w g k, ds = [hsD A.hs (li l) dd w, li g, .int k] ∧ (∀ r ∈ g, 0 ≤ r ∧ r < (l.length : Int)) ∧ g.length < 50000 ∧ d = li (seen l g k)
def R_parts (A : Ad) (ds : List D) (d : D) : Prop := ∃ l dd w g, ds = [hsD A.hs (li l) dd w, li g] ∧ isGuess (li g) l.length = true ∧ l.length ≤ 8 ∧ d = lpr (partsOf l g)
def R_is_there (A : Ad) (ds : List D) (d : D) : Prop := ∃ l dd w g, ds = [hsD A.hs (li l) dd (li w), li g] ∧ isGuess (li g) l.length = true ∧ d = .bl (g.all fun r => decide (r ∈ w))
theorem filter_yes {α : Type} (xs : List α) : xs.filter (fun _ => true) = xs := List.filter_eq_self.mpr fun _ _ => rfl
/-! ## houses -/
def isEntry (x : D) (n : Int) : Bool := isGuess x n
def allD (f : D → Bool) : D → Bool
  | .lst xs => xs.all f
  | _ => false
def goodLooks (x : D) : Bool := isList x 1 8 && allD (fun y => isWhole y 10) x
def goodDeed (n : Int) (x : D) : Bool := isList x n n && allD (fun y => isEntry y n) x
def goodDeeds (x : D) (n : Int) : Bool := isList x 1 5 && allD (goodDeed n) x
def lenD : D → Int
  | .lst xs => xs.length
  | _ => 0
def isHouse (l dd w : D) : Bool := goodLooks l && goodDeeds dd (lenD l) && isRising w (lenD l)
/-- no object within, to that depth -/
def noO : Nat → D → Bool
  | 0, d => noObj d
  | n + 1, d => noObj d && (match d with | .lst xs => xs.all (noO n) | _ => true)
theorem noO_obj {n : Nat} {d : D} (h : noO n d = true) : noObj d = true := by
  cases n with
  | zero => exact h
  | succ n => unfold noO at h; exact (Bool.and_eq_true_iff.mp h).1
theorem noO_mem {n : Nat} {xs : List D} (h : noO (n + 1) (.lst xs) = true) {d : D} (hd : d ∈ xs) : noO n d = true := by
  unfold noO at h
  exact List.all_eq_true.mp (Bool.and_eq_true_iff.mp h).2 d hd
theorem noO_objs {d : D} (h : noO 1 d = true) : noObjs d = true := by
  have h1 := noO_obj h
  cases d <;> first | rfl | cases h1 | skip
  unfold noO at h
  exact (Bool.and_eq_true_iff.mp h).2
theorem noO_down : ∀ {n : Nat} {d : D}, noO (n + 1) d = true → noO n d = true
  | 0, d, h => noO_obj h
  | n + 1, d, h => by
    have h' := h
    unfold noO at h ⊢
    have ⟨h1, h2⟩ := Bool.and_eq_true_iff.mp h
    rw [h1, Bool.true_and]
    cases d <;> first | rfl | skip
    rename_i xs
    exact List.all_eq_true.mpr fun x hx => noO_down (List.all_eq_true.mp h2 x hx)
theorem ints_of {n : Int} : ∀ {xs : List D}, (∀ x ∈ xs, isWhole x n = true) → ∃ ns : List Int, xs = ns.map D.int
  | [], _ => ⟨[], rfl⟩
  | x :: xs, h => by
    obtain ⟨ns, e⟩ := ints_of (xs := xs) fun y hy => h y (by simp [hy])
    have hx := h x (by simp)
    cases x <;> first | cases hx | skip
    rename_i i
    exact ⟨i :: ns, by rw [e]; rfl⟩
theorem goodLooks_ints {x : D} (h : goodLooks x = true) : ∃ ns : List Int, x = li ns := by
  unfold goodLooks at h
  have ⟨h1, h2⟩ := Bool.and_eq_true_iff.mp h
  obtain ⟨xs, rfl, _⟩ := isList_yes h1
  obtain ⟨ns, rfl⟩ := ints_of fun x hx => List.all_eq_true.mp (show xs.all _ = true from h2) x hx
  exact ⟨ns, rfl⟩
theorem map_of {α : Type} {emb : α → D} {f : D → Bool} (k : ∀ x, f x = true → ∃ y, x = emb y) : ∀ {xs : List D}, (∀ x ∈ xs, f x = true) → ∃ ys : List α, xs = ys.map emb
  | [], _ => ⟨[], rfl⟩
  | x :: xs, h => by
    obtain ⟨ys, e⟩ := map_of k (xs := xs) fun y hy => h y (by simp [hy])
    obtain ⟨y, rfl⟩ := k x (h x (by simp))
    exact ⟨y :: ys, by rw [e]; rfl⟩
theorem goodDeed_ints {n : Int} {x : D} (h : goodDeed n x = true) : ∃ ns, x = lli ns := by
  unfold goodDeed at h
  have ⟨h1, h2⟩ := Bool.and_eq_true_iff.mp h
  obtain ⟨xs, rfl, _⟩ := isList_yes h1
  obtain ⟨ns, rfl⟩ := map_of (emb := li) (f := fun y => isEntry y n) (fun x hx => isRising_ints (Bool.and_eq_true_iff.mp (show (isRising x n && !isNilD x) = true from hx)).1) fun x hx => List.all_eq_true.mp (show xs.all _ = true from h2) x hx
  exact ⟨ns, rfl⟩
theorem goodDeeds_ints {n : Int} {x : D} (h : goodDeeds x n = true) : ∃ ns, x = llli ns := by
  unfold goodDeeds at h
  have ⟨h1, h2⟩ := Bool.and_eq_true_iff.mp h
  obtain ⟨xs, rfl, _⟩ := isList_yes h1
  obtain ⟨ns, rfl⟩ := map_of (emb := lli) (f := goodDeed n) (fun x hx => goodDeed_ints hx) fun x hx => List.all_eq_true.mp (show xs.all _ = true from h2) x hx
  exact ⟨ns, rfl⟩
def R_need_looks (ds : List D) (d : D) : Prop := ∃ x, ds = [x] ∧ noO 1 x = true ∧ goodLooks x = true ∧ d = .non
def W_need_looks (A : Ad) (ds : List D) (C : Addr) : Prop := ∃ x, ds = [x] ∧ noO 1 x = true ∧ goodLooks x = false ∧ C = A.bh
def R_need_deeds (ds : List D) (d : D) : Prop := ∃ x n, ds = [x, .int n] ∧ noO 3 x = true ∧ goodDeeds x n = true ∧ d = .non
def W_need_deeds (A : Ad) (ds : List D) (C : Addr) : Prop := ∃ x n, ds = [x, .int n] ∧ noO 3 x = true ∧ goodDeeds x n = false ∧ C = A.bh
def R_need_entry (ds : List D) (d : D) : Prop := ∃ x n, ds = [x, .int n] ∧ noO 1 x = true ∧ isEntry x n = true ∧ d = .non
def W_need_entry (A : Ad) (ds : List D) (C : Addr) : Prop := ∃ x n, ds = [x, .int n] ∧ noO 1 x = true ∧ isEntry x n = false ∧ C = A.bh
def R_need_wished (ds : List D) (d : D) : Prop := ∃ x n, ds = [x, .int n] ∧ noO 1 x = true ∧ isRising x n = true ∧ d = .non
def W_need_wished (A : Ad) (ds : List D) (C : Addr) : Prop := ∃ x n, ds = [x, .int n] ∧ noO 1 x = true ∧ isRising x n = false ∧ C = A.bh
theorem two_ways {R W : Prop} {c : Bool} {A1 A2 : Prop} (h : (c = true ∧ A1) ∨ (c = false ∧ A2)) : (c = true → A1) ∧ (c = false → A2) := by
  rcases h with ⟨e, a⟩ | ⟨e, a⟩
  · exact ⟨fun _ => a, fun z => by rw [e] at z; cases z⟩
  · exact ⟨fun z => (by rw [e] at z; cases z), fun _ => a⟩
/-- House(l, dd, w): at x a new instance, behind it with its three fields, in lists of its own -/
def spInit (A : Ad) : Sp := fun vs H Q E => ∃ F x dx us l dd w, vs = .ref x :: us ∧ H x = some (.ins A.hs dx []) ∧ F x = none ∧ Ex F H ∧ Rps F us [l, dd, w] ∧ noO 1 l = true ∧ noO 3 dd = true ∧ noO 1 w = true ∧
  (isHouse l dd w = true → ∀ v1 v2 v3 G H2, (∀ b o, b ≠ x → H b = some o → H2 b = some o) → Ex G H2 → (∀ p, G p ≠ none → H p = none) → H2 x = some (.ins A.hs dx [("looks", v1), ("deeds", v2), ("wished", v3)]) → Rp G v1 l → Rp G v2 dd → Rp G v3 w → Q .non H2) ∧
  (isHouse l dd w = false → ∀ H2, (∀ b o, b ≠ x → H b = some o → H2 b = some o) → E (.ref A.bh) none H2)
/-! ## what the law's helpers tell -/
def cell (ns : List Int) (k : Int) : Int := ns.getD k.toNat 0
def R_cell (K : PySem.W.Frag) (ds : List D) (d : D) : Prop := ∃ ns k, ds = [.scr K ns, .int k] ∧ 0 ≤ k ∧ d = .int (cell ns k)
section
variable {K : PySem.W.Frag} {σ : L2.St} {F : Hp} {te : TE}
def cutI (xs : List Int) (lo hi : Option Int) : List Int := (xs.drop (HT.sIx xs.length 0 lo)).take (HT.sIx xs.length xs.length hi - HT.sIx xs.length 0 lo)
theorem ed_slS {tl th : TO} {ns : List Int} {lo hi : Option Int} (h : ED te σ F (.scr K ns)) (h1 : EO tl σ F lo) (h2 : EO th σ F hi) : ED (tSl (rSlL K) te tl th) σ F (li (cutI ns lo hi)) := fun F1 H1 e1 e2 Q q =>
  h F1 H1 e1 e2 _ fun v F2 H2 n2 r2 => h1 F2 H2 (e1.trans n2.f) n2.fh _ fun F3 H3 n3 => h2 F3 H3 ((e1.trans n2.f).trans n3.f) n3.fh _ fun F4 H4 n4 => by
    cases r2 with
    | @scr a _ _ hs =>
      refine ⟨a, _, rfl, Evl.ex_l ((n3.f.trans n4.f).trans n4.fh) hs, fun p hp => ?_⟩
      refine q _ _ _ (((n2.trans n3).trans n4).trans (Nx.new n4.fh hp)) ?_
      have e : cutV (ns.map V.int) lo hi = (cutI ns lo hi).map V.int := by
        unfold cutV cutI
        rw [List.length_map, List.map_take, List.map_drop]
      rw [e]
      exact Rp.mkL upd_same (Rps.ints _)
end
theorem cell_at (ns : List Int) {k : Int} (hk : 0 ≤ k) : atI (((cutI ns (some k) (some (k + 1))).map D.int) ++ [D.int 0]) 0 = some (.int (cell ns k)) := by
  obtain ⟨j, rfl⟩ := Int.eq_ofNat_of_zero_le hk
  have e : cutI ns (some (j : Int)) (some ((j : Int) + 1)) = (ns.drop j).take 1 := by
    unfold cutI
    have h2 : ((j : Int) + 1) = ((j + 1 : Nat) : Int) := by omega
    rw [h2, HT.sIx_nat, HT.sIx_nat]
    by_cases h : j < ns.length
    · rw [Nat.min_eq_left (by omega), Nat.min_eq_left (by omega)]
      congr 1; omega
    · rw [Nat.min_eq_right (by omega), Nat.min_eq_right (by omega), List.drop_eq_nil_of_le (Nat.le_refl _), List.drop_eq_nil_of_le (by omega)]
      simp
  rw [e]
  refine at_nat (j := 0) rfl ?_
  unfold cell
  rw [Int.toNat_natCast, List.getD_eq_getElem?_getD]
  cases h : ns.drop j with
  | nil =>
    have : ns.length ≤ j := List.drop_eq_nil_iff.mp h
    rw [List.getElem?_eq_none this]; rfl
  | cons x xs =>
    have : ns[j]? = some x := by rw [← List.head?_drop, h]; rfl
    rw [this]; rfl
theorem cutI_len (ns : List Int) {k : Int} (hk : 0 ≤ k) : (cutI ns (some k) (some (k + 1))).length ≤ 1 := by
  obtain ⟨j, rfl⟩ := Int.eq_ofNat_of_zero_le hk
  unfold cutI
  have h2 : ((j : Int) + 1) = ((j + 1 : Nat) : Int) := by omega
  rw [h2, HT.sIx_nat, HT.sIx_nat, List.length_take]
  omega
def isIntD : D → Bool
  | .int _ => true
  | _ => false
def R_int (ds : List D) (d : D) : Prop := ∃ x, ds = [x] ∧ noObj x = true ∧ d = .bl (isIntD x)
def mixed (c r : Int) : Int := (c / 6 * 48271 + r * (7 + c % 101) * 31) % 65537
def upto (m : Int) (f : Int → Bool) : List Int := ((List.range m.toNat).filter fun (k : Nat) => f (k : Int)).map fun (k : Nat) => (k : Int)
def lawTo (c r m : Int) : List Int :=
  if c % 6 = 0 then [(r + 1 + c / 6) % m] else if c % 6 = 1 then [if r - 1 - c / 6 % 2 > 0 then r - 1 - c / 6 % 2 else 0] else if c % 6 < 4 then [mixed c r % m] else
  if c % 6 = 4 then upto m fun k => decide (k = r) || decide (k = mixed c r % m) else upto m fun k => decide (k = r) || decide (mixed c r / (k + 1) % 3 = 0)
def R_to (ds : List D) (d : D) : Prop := ∃ c r m, ds = [.int c, .int r, .int m] ∧ 0 ≤ r ∧ r < m ∧ m ≤ 8 ∧ d = li (lawTo c r m)
theorem upto_up (m : Int) (f : Int → Bool) : Up m (upto m f) := by
  unfold upto
  refine ⟨?_, fun x hx => ?_⟩
  · rw [List.pairwise_map]
    refine (List.Pairwise.filter _ List.pairwise_lt_range).imp fun h => by omega
  · obtain ⟨k, hk, rfl⟩ := List.mem_map.mp hx
    have := List.mem_range.mp (List.mem_filter.mp hk).1
    omega
theorem mem_upto {m : Int} {f : Int → Bool} {x : Int} : x ∈ upto m f ↔ 0 ≤ x ∧ x < m ∧ f x = true := by
  unfold upto
  constructor
  · intro hx
    obtain ⟨k, hk, rfl⟩ := List.mem_map.mp hx
    have h1 := List.mem_range.mp (List.mem_filter.mp hk).1
    exact ⟨by omega, by omega, (List.mem_filter.mp hk).2⟩
  · rintro ⟨h0, h1, h2⟩
    refine List.mem_map.mpr ⟨x.toNat, List.mem_filter.mpr ⟨List.mem_range.mpr (by omega), ?_⟩, by omega⟩
    rw [Int.toNat_of_nonneg h0]; exact h2
theorem lawTo_ok {c r m : Int} (h0 : 0 ≤ r) (h1 : r < m) : Up m (lawTo c r m) ∧ lawTo c r m ≠ [] := by
  have one : ∀ x : Int, 0 ≤ x → x < m → Up m [x] ∧ [x] ≠ [] := fun x a b => ⟨⟨by simp, by simp; omega⟩, by simp⟩
  have md : ∀ x : Int, 0 ≤ x % m ∧ x % m < m := fun x => ⟨Int.emod_nonneg _ (by omega), Int.emod_lt_of_pos _ (by omega)⟩
  unfold lawTo
  split
  · exact one _ (md _).1 (md _).2
  · split
    · exact one _ (by split <;> omega) (by split <;> omega)
    · split
      · exact one _ (md _).1 (md _).2
      · have ne : ∀ f : Int → Bool, f r = true → upto m f ≠ [] := fun f hf z => by
          have := mem_upto.mpr ⟨h0, h1, hf⟩
          rw [z] at this; cases this
        split
        · exact ⟨upto_up _ _, ne _ (by simp)⟩
        · exact ⟨upto_up _ _, ne _ (by simp)⟩
theorem lookOf_mem {l : List Int} {i : Int} (h0 : 0 ≤ i) (h1 : i < l.length) : lookOf l i ∈ l := by
  unfold lookOf
  have h : i.toNat < l.length := by omega
  rw [List.getD_eq_getElem?_getD, List.getElem?_eq_getElem h]
  exact List.getElem_mem h
abbrev pw2 : List Int := [1, 2, 4, 8, 16, 32, 64, 128]
abbrev pw3 : List Int := [1, 3, 9, 27, 81, 243, 729, 2187]
abbrev knd : List Int := [1, 2, 3, 2, 3, 4, 5, 9]
abbrev stp : List Int := [3, 1, 7, 9]
def kindsOf (ns : List Int) : Int := lookOf knd (cell ns 0 / 120 % 8)
def stepOf (ns : List Int) : Int := lookOf stp (cell ns 1 / 10 % 4)
def rng (n : Int) : List Int := (List.range n.toNat).map fun (k : Nat) => (k : Int)
def picksOf (ns : List Int) (m : Int) : List Int := if kindsOf ns = 9 then rng m else
  (rng m).map fun r => (cell ns 2 * 48271 + r * r * 7919) / lookOf pw3 r % kindsOf ns
def looksOf (ns : List Int) (m : Int) : List Int := (picksOf ns m).map fun p => (cell ns 1 + stepOf ns * p) % 10
def R_looks (K : PySem.W.Frag) (ds : List D) (d : D) : Prop := ∃ ns m, ds = [.scr K ns, .int m] ∧ 0 ≤ m ∧ m ≤ 8 ∧ d = li (looksOf ns m)
def manyOf (ns : List Int) : Int := if cell ns 0 / 5 % 8 = 1 then 6 + cell ns 0 / 40 % 3 else 1 + cell ns 0 % 5
def countOf (ns : List Int) : Int := if cell ns 3 / 3 % 8 = 1 then 4 + cell ns 3 / 24 % 2 else 1 + cell ns 3 % 3
def deedAt (ns : List Int) (k : Int) : List (List Int) := (rng (manyOf ns)).map fun r => lawTo (cell ns (4 + k)) r (manyOf ns)
def deedsOf (ns : List Int) : List (List (List Int)) := (rng (countOf ns)).map (deedAt ns)
def bitsOf (b m : Int) : List Int := upto m fun r => decide (b / lookOf pw2 r % 2 = 1)
def wishedOf (ns : List Int) : List Int := if cell ns 9 / 256 % 2 = 1 then [cell ns 9 / 512 % manyOf ns] else bitsOf (cell ns 9) (manyOf ns)
def R_house (K : PySem.W.Frag) (ds : List D) (d : D) : Prop := ∃ ns, ds = [.scr K ns] ∧ d = .tup [li (looksOf ns (manyOf ns)), llli (deedsOf ns), li (wishedOf ns)]
def guessOf (ns : List Int) (m : Int) : List Int := if bitsOf (cell ns 10) m = [] then [cell ns 10 / 256 % m] else bitsOf (cell ns 10) m
def R_guess (K : PySem.W.Frag) (ds : List D) (d : D) : Prop := ∃ ns m, ds = [.scr K ns, .int m] ∧ 0 < m ∧ m ≤ 8 ∧ d = li (guessOf ns m)
def otherOf (g : List Int) (m : Int) : List Int := if upto m (fun r => !decide (r ∈ g)) = [] then g.take 1 else upto m fun r => !decide (r ∈ g)
def R_other (ds : List D) (d : D) : Prop := ∃ g m, ds = [li g, .int m] ∧ 0 ≤ m ∧ m ≤ 8 ∧ d = li (otherOf g m)
def parted (l g : List Int) : List (Int × List Int) := ((rng 10).filter fun k => !decide (seen l g k = [])).map fun k => (k, seen l g k)
def R_parted (ds : List D) (d : D) : Prop := ∃ l g, ds = [li l, li g] ∧ (∀ r ∈ g, 0 ≤ r ∧ r < (l.length : Int)) ∧ g.length < 50000 ∧ d = lpr (parted l g)
def R_copy (ds : List D) (d : D) : Prop := ∃ x : List (List Int), ds = [lli x] ∧ x.length < 50000 ∧ d = lli x
theorem many_ok (ns : List Int) : 0 < manyOf ns ∧ manyOf ns ≤ 8 := by unfold manyOf; split <;> omega
theorem count_ok (ns : List Int) : 0 < countOf ns ∧ countOf ns ≤ 5 := by unfold countOf; split <;> omega
theorem rng_len {n : Int} (h : 0 ≤ n) : ((rng n).length : Int) = n := by unfold rng; rw [List.length_map, List.length_range]; omega
theorem mem_rng {n x : Int} : x ∈ rng n ↔ 0 ≤ x ∧ x < n := by
  unfold rng
  constructor
  · intro h
    obtain ⟨k, hk, rfl⟩ := List.mem_map.mp h
    have := List.mem_range.mp hk
    omega
  · rintro ⟨h0, h1⟩
    exact List.mem_map.mpr ⟨x.toNat, List.mem_range.mpr (by omega), by omega⟩
theorem kinds_pos (ns : List Int) : 0 < kindsOf ns := by
  have h := lookOf_mem (l := knd) (i := cell ns 0 / 120 % 8) (by omega) (by show _ < (8 : Int); omega)
  unfold kindsOf
  simp only [knd, List.mem_cons, List.not_mem_nil, or_false] at h ⊢
  omega
theorem step_small (ns : List Int) : 0 < stepOf ns ∧ stepOf ns < 10 := by
  have h := lookOf_mem (l := stp) (i := cell ns 1 / 10 % 4) (by omega) (by show _ < (4 : Int); omega)
  unfold stepOf
  simp only [stp, List.mem_cons, List.not_mem_nil, or_false] at h ⊢
  omega
theorem pw2_ok {r : Int} (h0 : 0 ≤ r) (h1 : r < 8) : 0 < lookOf pw2 r ∧ lookOf pw2 r < 1073741824 := by
  have h := lookOf_mem (l := pw2) h0 (by show _ < (8 : Int); omega)
  simp only [pw2, List.mem_cons, List.not_mem_nil, or_false] at h ⊢
  omega
theorem pw3_ok {r : Int} (h0 : 0 ≤ r) (h1 : r < 8) : 0 < lookOf pw3 r ∧ lookOf pw3 r < 1073741824 := by
  have h := lookOf_mem (l := pw3) h0 (by show _ < (8 : Int); omega)
  simp only [pw3, List.mem_cons, List.not_mem_nil, or_false] at h ⊢
  omega
theorem eqD_nil (xs : List Int) : eqD (li xs) (.lst []) = decide (xs = []) := eqD_li xs []
/-! ## what the law makes is a house, a guess -/
theorem looks_len {ns : List Int} {m : Int} (h : 0 ≤ m) : ((looksOf ns m).length : Int) = m := by
  have := rng_len h
  unfold looksOf picksOf
  rw [List.length_map]
  split
  · omega
  · rw [List.length_map]; omega
theorem looks_in {ns : List Int} {m x : Int} (h : x ∈ looksOf ns m) : 0 ≤ x ∧ x < 10 := by
  obtain ⟨p, _, rfl⟩ := List.mem_map.mp h
  omega
theorem isList_li {xs : List Int} {a b : Int} (h1 : a ≤ (xs.length : Int)) (h2 : (xs.length : Int) ≤ b) : isList (li xs) a b = true := by
  show (decide _ && decide _) = true
  rw [List.length_map, decide_eq_true h1, decide_eq_true h2]; rfl
theorem isList_map {α : Type} {emb : α → D} {xs : List α} {a b : Int} (h1 : a ≤ (xs.length : Int)) (h2 : (xs.length : Int) ≤ b) : isList (.lst (xs.map emb)) a b = true := by
  show (decide _ && decide _) = true
  rw [List.length_map, decide_eq_true h1, decide_eq_true h2]; rfl
/-- a house in plain Lean -/
structure Hs (l : List Int) (dd : List (List (List Int))) (w : List Int) : Prop where
  n0 : 1 ≤ l.length
  n8 : l.length ≤ 8
  lk : ∀ x ∈ l, 0 ≤ x ∧ x < 10
  d1 : 1 ≤ dd.length
  d5 : dd.length ≤ 5
  dn : ∀ e ∈ dd, e.length = l.length
  de : ∀ e ∈ dd, ∀ x ∈ e, Up l.length x ∧ x ≠ []
  wu : Up l.length w
theorem Hs.is {l : List Int} {dd : List (List (List Int))} {w : List Int} (h : Hs l dd w) : isHouse (li l) (llli dd) (li w) = true := by
  unfold isHouse
  have el : lenD (li l) = l.length := by show (((l.map D.int).length : Nat) : Int) = _; rw [List.length_map]
  rw [el, Bool.and_eq_true, Bool.and_eq_true]
  have n0 := h.n0
  have n8 := h.n8
  have d1 := h.d1
  have d5 := h.d5
  refine ⟨⟨?_, ?_⟩, (isRising_li (Int.natCast_nonneg _)).mpr h.wu⟩
  · unfold goodLooks
    rw [isList_li (by omega) (by omega), Bool.true_and]
    refine List.all_eq_true.mpr fun x hx => ?_
    obtain ⟨i, hi, rfl⟩ := List.mem_map.mp hx
    have := h.lk i hi
    show (decide _ && decide _) = true
    rw [decide_eq_true this.1, decide_eq_true this.2]; rfl
  · unfold goodDeeds
    rw [show isList (llli dd) 1 5 = true from isList_map (by omega) (by omega), Bool.true_and]
    refine List.all_eq_true.mpr fun x hx => ?_
    obtain ⟨e, he, rfl⟩ := List.mem_map.mp hx
    unfold goodDeed
    have en := h.dn e he
    rw [show isList (lli e) l.length l.length = true from isList_map (by omega) (by omega), Bool.true_and]
    refine List.all_eq_true.mpr fun y hy => ?_
    obtain ⟨z, hz, rfl⟩ := List.mem_map.mp hy
    exact (isGuess_li (Int.natCast_nonneg _)).mpr (h.de e he z hz)
theorem noO_li (xs : List Int) : noO 1 (li xs) = true := by
  unfold noO
  rw [Bool.and_eq_true]
  refine ⟨rfl, List.all_eq_true.mpr fun x hx => ?_⟩
  obtain ⟨i, _, rfl⟩ := List.mem_map.mp hx
  rfl
theorem noO_map {α : Type} {emb : α → D} {n : Nat} {xs : List α} (h : ∀ x, noO n (emb x) = true) : noO (n + 1) (.lst (xs.map emb)) = true := by
  unfold noO
  rw [Bool.and_eq_true]
  refine ⟨rfl, List.all_eq_true.mpr fun x hx => ?_⟩
  obtain ⟨i, _, rfl⟩ := List.mem_map.mp hx
  exact h i
theorem noO_llli (xs : List (List (List Int))) : noO 3 (llli xs) = true := noO_map fun x => noO_map fun y => noO_li y
theorem law_hs (ns : List Int) : Hs (looksOf ns (manyOf ns)) (deedsOf ns) (wishedOf ns) := by
  have ⟨m0, m8⟩ := many_ok ns
  have ⟨c0, c5⟩ := count_ok ns
  have ll := looks_len (ns := ns) (m := manyOf ns) (by omega)
  have lc := rng_len (n := countOf ns) (by omega)
  have lm := rng_len (n := manyOf ns) (by omega)
  have ld : (deedsOf ns).length = (rng (countOf ns)).length := by unfold deedsOf; rw [List.length_map]
  refine ⟨by omega, by omega, fun x hx => looks_in hx, by omega, by omega, fun e he => ?_, fun e he x hx => ?_, ?_⟩
  · obtain ⟨k, _, rfl⟩ := List.mem_map.mp he
    unfold deedAt
    rw [List.length_map]; omega
  · obtain ⟨k, _, rfl⟩ := List.mem_map.mp he
    obtain ⟨r, hr, rfl⟩ := List.mem_map.mp hx
    have ⟨r0, r1⟩ := mem_rng.mp hr
    rw [ll]
    exact lawTo_ok r0 r1
  · rw [ll]
    unfold wishedOf
    split
    · have a := Int.emod_nonneg (cell ns 9 / 512) (b := manyOf ns) (by omega)
      have b := Int.emod_lt_of_pos (cell ns 9 / 512) m0
      exact ⟨by simp, by simp; omega⟩
    · exact upto_up _ _
theorem guess_ok {ns : List Int} {m : Int} (h : 0 < m) : Up m (guessOf ns m) ∧ guessOf ns m ≠ [] := by
  unfold guessOf
  split
  · have a := Int.emod_nonneg (cell ns 10 / 256) (b := m) (by omega)
    have b := Int.emod_lt_of_pos (cell ns 10 / 256) h
    exact ⟨⟨by simp, by simp; omega⟩, by simp⟩
  · rename_i hne
    exact ⟨upto_up _ _, hne⟩
theorem other_ok {g : List Int} {m : Int} (h : Up m g) (hne : g ≠ []) : Up m (otherOf g m) ∧ otherOf g m ≠ [] := by
  unfold otherOf
  split
  · refine ⟨⟨List.Pairwise.sublist (List.take_sublist _ _) h.1, fun x hx => h.2 x (List.mem_of_mem_take hx)⟩, fun z => ?_⟩
    cases g with
    | nil => exact hne rfl
    | cons x xs => simp at z
  · rename_i h'
    exact ⟨upto_up _ _, h'⟩
/-- the parts by looks, told by the program and by the law -/
theorem parts_eq {l g : List Int} (hl : ∀ x ∈ l, 0 ≤ x ∧ x < 10) (hg : ∀ r ∈ g, 0 ≤ r ∧ r < (l.length : Int)) : partsOf l g = parted l g := by
  unfold partsOf parted
  have e : srt (g.map (lookOf l)) = (rng 10).filter fun k => !decide (seen l g k = []) := by
    refine up_ext (srt_up _) ?_ fun k => ?_
    · refine List.Pairwise.filter _ ?_
      unfold rng
      rw [List.pairwise_map]
      exact List.pairwise_lt_range.imp fun h => by omega
    · rw [mem_srt, List.mem_map, List.mem_filter, mem_rng]
      constructor
      · rintro ⟨r, hr, rfl⟩
        have hr' := hg r hr
        refine ⟨hl _ (lookOf_mem hr'.1 hr'.2), ?_⟩
        have : r ∈ seen l g (lookOf l r) := List.mem_filter.mpr ⟨hr, by simp⟩
        have ne : seen l g (lookOf l r) ≠ [] := fun z => by rw [z] at this; cases this
        simpa using ne
      · rintro ⟨_, h⟩
        have ne : seen l g k ≠ [] := by simpa using h
        obtain ⟨r, hr⟩ := List.exists_mem_of_ne_nil _ ne
        have := List.mem_filter.mp hr
        exact ⟨r, this.1, by simpa using this.2⟩
  rw [e]
section
variable {K : PySem.W.Frag} {σ : L2.St} {F : Hp} {A : Ad} {ta : TA} {E : XK} {l dd w : D}
theorem en_make (h : EA ta σ F [l, dd, w]) (n1 : noO 1 l = true) (n2 : noO 3 dd = true) (n3 : noO 1 w = true) (hH : isHouse l dd w = true) : EN (tMake A.hs (spInit A) [] E ta) σ F (hsD A.hs l dd w) := fun F1 H1 e1 e2 Q q =>
  h F1 H1 e1 e2 _ fun vs F2 H2 nx r2 x dx hx hdx ne => by
    have hx2 : upd H2 dx (.own x) x = none := by rw [upd_ne (Ne.symm ne)]; exact hx
    have e3 : Ex H2 (upd (upd H2 dx (.own x)) x (.ins A.hs dx [])) := (Ex.new hdx).trans (Ex.new hx2)
    refine ⟨F2, x, dx, vs, l, dd, w, by rw [List.append_nil], upd_same, fresh_back nx.fh hx, nx.fh.trans e3, r2, n1, n2, n3, fun _ v1 v2 v3 G H3 k1 k2 k3 k4 g1 g2 g3 => ⟨rfl, ?_⟩, fun z => by rw [hH] at z; cases z⟩
    have gx : G x = none := Classical.byContradiction fun z => by have := k3 x z; rw [upd_same] at this; cases this
    refine q _ (upd G x (.ins A.hs dx [("looks", v1), ("deeds", v2), ("wished", v3)])) H3 ⟨fun b o hb => ?_, fun b o hb => ?_, fun p hp => ?_⟩ (Rp.mkH upd_same (g1.mono (Ex.new gx)) (g2.mono (Ex.new gx)) (g3.mono (Ex.new gx)))
    · have h2 := nx.h b o hb
      exact k1 b o (ne_of_none h2 hx) (e3 b o h2)
    · by_cases z : b = x
      · subst z; rw [upd_same] at hb; rw [k4]; exact hb
      · rw [upd_ne z] at hb; exact k2 b o hb
    · by_cases z : p = x
      · subst z; exact fresh_back nx.h hx
      · rw [upd_ne z] at hp
        have k := k3 p hp
        rw [upd_ne z] at k
        have hd : p ≠ dx := fun y => by rw [y, upd_same] at k; cases k
        rw [upd_ne hd] at k
        exact fresh_back nx.h k
end
/-! ## mutable lists outside of the frozen part -/
section
variable {K : PySem.W.Frag} {σ : L2.St} {F H : Hp} {D0 : Ends} {tz : TS} {i j : Nat} {p : Addr} {xs : List V} {ns : List Int} {w : V}
theorem q_clear (hi : σ[i]? = some (some (.ref p))) (hp : H p = some (.lst xs)) (k : tz D0 σ (upd H p (.lst []))) : tSeq (tDrop (tBM0 K "list" rClear (tVar i))) tz D0 σ H :=
  ⟨.ref p, hi, Or.inl ⟨rfl, xs, Evl.sq_of hp⟩, p, xs, rfl, rfl, hp, k⟩
theorem q_extend (e : Ex F H) (hi : σ[i]? = some (some (.ref p))) (hp : H p = some (.lst [])) (hj : σ[j]? = some (some w)) (hw : Rp F w (li ns)) (hl : ns.length ≤ 100000) (k : tz D0 σ (upd H p (.lst (ns.map V.int)))) :
    tSeq (tDrop (tBM K "list" rExtend (tVar i) (tCons (tVar j) tNil))) tz D0 σ H := by
  obtain ⟨a, vs, rfl, ha, hr⟩ := hw.list
  rw [hr.eints] at ha
  exact ⟨.ref p, hi, Or.inl ⟨rfl, [], Evl.sq_of hp⟩, .ref a, hj, p, a, [], _, rfl, rfl, hp, e _ _ ha, sz_of (by rw [List.length_map]; simpa using hl), k⟩
end
theorem eqD_bl (a b : Bool) : eqD (.bl a) (.bl b) = decide (a = b) := by
  show PyData.eqv (.bool a) (.bool b) = _
  simp only [PyData.eqv]
  cases a <;> cases b <;> rfl
theorem okE_bl (b : Bool) : okE (.bl b) = true := rfl
theorem all_due (g w : List Int) : decide (g.filter (fun r => !decide (r ∈ w)) = []) = g.all fun r => decide (r ∈ w) := by
  rw [Bool.eq_iff_iff, decide_eq_true_eq, List.filter_eq_nil_iff, List.all_eq_true]
  constructor
  · intro h x hx; have := h x hx; simpa using this
  · intro h x hx; have := h x hx; simpa using this
theorem parted_len (l g : List Int) : (parted l g).length ≤ 10 := by
  unfold parted
  rw [List.length_map]
  exact Nat.le_trans (List.length_filter_le _ _) (by unfold rng; simp)
theorem seen_len (l g : List Int) (k : Int) : (seen l g k).length ≤ g.length := List.length_filter_le _ _
section
variable {σ : L2.St} {F H : Hp} {D0 : Ends} {tu tw : TS} {t0 t1 t2 t3 : TE} {d0 d1 d2 d3 : D} {i : Nat} {w4 : V} {sp : Sp} {E : XK}
theorem s_ifNot5 (e : Ex F H) (h0 : ED t0 σ F d0) (h1 : ED t1 σ F d1) (h2 : ED t2 σ F d2) (h3 : ED t3 σ F d3) (hi : σ[i]? = some (some w4))
    (k : ∀ v0 v1 v2 v3 F1 H1, Nx F H F1 H1 → Rp F1 v0 d0 → Rp F1 v1 d1 → Rp F1 v2 d2 → Rp F1 v3 d3 → sp [v0, v1, v2, v3, w4] H1 (fun v H2 => ∃ c, v = .bl c ∧ (if (!c) = true then tu D0 σ H2 else tw D0 σ H2)) E) :
    tIfS (tNot (tB (tCall sp [] E (tCons t0 (tCons t1 (tCons t2 (tCons t3 (tCons (tVar i) tNil)))))))) tu tw D0 σ H :=
  h0 F H (Ex.refl F) e _ fun v0 F1 H1 n1 r0 => h1 F1 H1 n1.f n1.fh _ fun v1 F2 H2 n2 r1 => h2 F2 H2 (n1.f.trans n2.f) n2.fh _ fun v2 F3 H3 n3 r2 => h3 F3 H3 ((n1.f.trans n2.f).trans n3.f) n3.fh _ fun v3 F4 H4 n4 r3 =>
    ⟨w4, hi, k v0 v1 v2 v3 F4 H4 (((n1.trans n2).trans n3).trans n4) (r0.mono ((n2.f.trans n3.f).trans n4.f)) (r1.mono (n3.f.trans n4.f)) (r2.mono n4.f) r3⟩
end
def spLaw (K : PySem.W.Frag) : Sp := fun vs H Q _ => ∃ (a : Addr) (ns : List Int), vs = [.ref a] ∧ SqL K H a (ns.map V.int) ∧ ns.length ≤ 63 ∧ ∀ H', Q (.bl true) H'
/-- law k01: one round of questions; handed is the list at ph, outside of the frozen part -/
def spGood (A : Ad) : Sp := fun vs H Q _ => ∃ F l dd w g o ph xs v0 v1 v2 v3, vs = [v0, v1, v2, v3, .ref ph] ∧ Ex F H ∧ F ph = none ∧ H ph = some (.lst xs) ∧ Rp F v0 (hsD A.hs (li l) (llli dd) (li w)) ∧ Rp F v1 (.tup [li l, llli dd, li w]) ∧
  Rp F v2 (li g) ∧ Rp F v3 (li o) ∧ Hs l dd w ∧ isGuess (li g) l.length = true ∧ isGuess (li o) l.length = true ∧ ∀ H2, Ex F H2 → (∃ ys, H2 ph = some (.lst ys)) → Q (.bl true) H2
end Bp
namespace Bp
open PySem PySem.Spec PyProof.Rows L2
open Evl (Ex)
open L2H (RoomH PinOk cxH)

/-! ## a def that is called in an except suite with the caught error: the error stands at a, of the class cls, its own dict d -/
structure FnP (P : Program) (w : World) (K : PySem.W.Frag) (mg : Str → Option Value) (base : Heap) (k : Nat) (f : Addr) (fd : FuncData) (ps : List Str) (sp : Addr → Value → Option Addr → Sp) : Prop where
  len : ∀ a cls d vs H Q E, sp a cls d vs H Q E → vs.length = ps.length
  run : ∀ (A : Around) (outer : List Env) (s : Shared) (H : Hp) (args : Args) (us : List Value) (vs : List V) (Q : VK) (a : Addr) (oe : Obj) (cls : Value) (d : Option Addr),
    RoomH k A → Zc cls d oe → (∃ xs, oe.data = .fields xs) → PinOk outer H s (a, oe) → Env0 P w K mg base A outer s H → BindsTo s fd args (ps.zip us) → Vals vs us →
    sp a cls d vs H Q E0 → codeAny (model P w) A (.call (.ref f) args) (CR CX0 outer P w H s Q E0) s
section
variable {P : Program} {w : World} {K : PySem.W.Frag} {mg : Str → Option Value} {base : Heap}
theorem okP {x qual : Str} {st : Stmt} {f : Addr} {fd : FuncData} {N ps : List Str} {k : Nat} {sp : Addr → Value → Option Addr → Sp} (F : Fun K x qual st f fd) (S : FnScope N ps (defScope st))
    (len : ∀ a cls d vs H Q E, sp a cls d vs H Q E → vs.length = ps.length)
    (body : ∀ (cdv : Value) (A : Around) (outer : List Env) (s : Shared) (H : Hp) (vs : List V) (Q : VK) (a : Addr) (oe : Obj) (cls : Value) (d : Option Addr),
      RoomH k (A.deeper (envOfC qual (defScope st) s.heap.objs.size f cdv)) → Zc cls d oe → (∃ xs, oe.data = .fields xs) → sp a cls d vs H Q E0 →
      ∃ t, PSs (cxH CX0 P w K mg base N qual (defScope st) f cdv A outer s H E0 (a, oe)).nox (defBody st) t ∧ t { nx := fun _ H' => Q .non H', rt := Q } (L2.start N vs) H) :
    FnP P w K mg base (k + 1) f fd ps sp := by
  obtain ⟨oc, od, kV, doc, pm, an, cdv, ct, osl, e, lk, code⟩ := F.ex
  subst e
  constructor
  · exact len
  intro A outer s H args us vs Q a oe cls d room hz hf pin env binds rel promise
  have n := len _ _ _ _ _ _ _ promise
  have inK : K.In s.heap := env.mod.kin.keeps fun b o e => (env.bs b o e).1
  have free : s.heap.NoLimit := env.mod.nolimit.keeps fun b o e => (env.bs b o e).1
  refine codeAny_call_function room.depth (inK _ _ lk) rfl S.co S.gen rfl (PySem.W.codeRec_of inK code) (binds _ _ _ _ ?_)
  refine wpAny_newFunctionEnv_cells S.kind (fun y hy => ?_) fun en he s1 start => ?_
  · obtain ⟨nm, v⟩ := y
    have mem := (List.of_mem_zip hy).1
    cases S.par nm mem with
    | inl q => exact .inl q
    | inr q => exact .inr ⟨q, PySem.W.cellsFrom_some _ _ _ (.inl q)⟩
  subst he
  refine ⟨free.keeps start.toInCall.keep, codeAny_func ?_⟩
  obtain ⟨t, walk, goal⟩ := body cdv A outer s H vs Q a oe cls d (room.deeper _) hz hf promise
  have I := L2H.inv_startH (CX := CX0) (E := E0) S pin env n rel start
  refine wpAny_mono (walk.nox.run [] s1 (L2.start N vs) H _ I goal) (fun fl s' done => ?_) fun e s' done => done
  have last : ∀ {σ' : L2.St} {H' : Hp} {v : V} {u : Value}, L2.Inv (cxH CX0 P w K mg base N qual (defScope st) f cdv A outer s H E0 (a, oe)) [] σ' H' s' → RelV v u → Q v H' → CE outer P w H s Q u s' := by
    intro σ' H' v u J rv q
    exact ⟨v, H', J.os, J.bare, J.base, J.hok, rv, q⟩
  cases fl with
  | ret u =>
    obtain ⟨v, σ', H', J, rv, q⟩ := done
    exact last J rv q
  | next =>
    obtain ⟨σ', H', J, q⟩ := done
    exact last (v := V.non) (u := Value.none) J rfl q
  | brk => obtain ⟨_, _, _, q⟩ := done; exact q.elim
  | cont => obtain ⟨_, _, _, q⟩ := done; exact q.elim
/-- as its callers need it -/
structure Dp (P : Program) (w : World) (K : PySem.W.Frag) (mg : Str → Option Value) (base : Heap) (k : Nat) (x : Str) (ps : List Str) (sp : Addr → Value → Option Addr → Sp) : Prop where
  ex : ∃ f fd, FnP P w K mg base k f fd ps sp ∧ mg x = some (.ref f) ∧ PySem.W.keepIn K (.ref f) = true ∧ Binds K fd ps []
end
def tCallP (sp : Sp) (t : TA) : TE := fun σ H Q => t σ H fun vs H1 => sp vs H1 Q E0
section
variable {X : Cx} {k j : Nat} {x : Str} {ps : List Str} {sp : Addr → Value → Option Addr → Sp} {e : Expr} {es : List Expr} {t : TA} {p pos : Pos} {a : Addr} {oe : Obj} {cls : Value} {d : Option Addr}
theorem pe_dp (c : Dp X.prog X.w X.K X.mg X.base k x ps sp) (hr : Room j X.A ∨ RoomH j X.A) (hk : k ≤ j) (hp : (a, oe) ∈ X.pn) (hz : Zc cls d oe) (hf : ∃ xs, oe.data = .fields xs) (ha : PA X (e :: es) t) (hg : Gl X x := by rfl)
    (hdb : (x == ("__debug__" : Str)) = false := by decide) (he : starEach (e :: es) X.env = (false, eval e X.env) :: starEach es X.env := by rfl) (hpl : (backTo pos (starEach es X.env)).any (·.1) = false := by rfl) :
    PE X (.Call (.Name x p) (e :: es) [] pos) (tCallP (sp a cls d) t) := by
  obtain ⟨f, fd, F, hm, kp, hb⟩ := c.ex
  have room : RoomH k X.A := by
    rcases hr with hr | hr
    · exact (L2H.roomH_of hr).mono hk
    · exact hr.mono hk
  refine ⟨fun pins s σ H Q I h => ?_⟩
  refine wpAny_Call_Name_kw (ld_glob I hg hm ?_ hdb)
  refine PySem.W.callWith_K (h₀ := X.base) I.ok.mod.kin kp (thn (ha.run pos pins s σ H _ I h) fun us s1 ⟨vs, H1, I1, r, q⟩ => ⟨I1.kIn, ?_⟩) he hpl
  have n : us.length = ps.length := by rw [← r.length]; exact F.len _ _ _ _ _ _ _ q
  have b := hb s1 us I1.kIn (by rw [List.append_nil]; exact n)
  rw [List.append_nil] at b
  obtain ⟨p1, p2, p3, p4, p5⟩ := I1.pin (a, oe) (List.mem_append_left _ hp)
  have pin : PinOk X.stack H1 s1 (a, oe) := by
    refine ⟨p1, p2, fun hm => ?_, p5⟩
    cases List.mem_cons.mp (I1.stkSub a hm) with
    | inl z => exact p3 z
    | inr z => exact p4 z
  refine wpAny_call (codeAny_mono (F.run X.A X.stack s1 H1 ⟨us, []⟩ us vs Q a oe cls d room hz hf pin I1.env0 b r q) fun r s' hq => ?_)
  cases r with
  | error e => exact hq.elim
  | ok fl =>
    cases fl with
    | ret u => exact I1.after hq
    | next => exact hq.elim
    | brk => exact hq.elim
    | cont => exact hq.elim
/-- isinstance(e, C) of such an error -/
def rIsP (K : PySem.W.Frag) (a : Addr) (cls : Value) (d : Option Addr) : List V → Hp → VK → Prop := fun xs H Q =>
  ∃ (c : V) (cv : Value) (b : Bool) (C : Addr), xs = [.ref a, c] ∧ (∀ u, RelV c u → u = cv) ∧ cls = .ref C ∧ d = none ∧ ExcC K C ∧ PySem.W.kitOne K (.ref C) cv = some b ∧ Q (.bl b) H
theorem call_isP (hp : (a, oe) ∈ X.pn) (hz : Zc cls d oe) (hf : ∃ xs, oe.data = .fields xs) : CallR X (.builtin "isinstance") (rIsP X.K a cls d) := by
  intro pins s σ H xs us Q I r h
  obtain ⟨c, cv, b, C, rfl, hcv, rfl, rfl, ec, hk, q⟩ := h
  obtain ⟨u1, u2, rfl, r1, r2⟩ := vals2 r
  cases r1
  obtain rfl := hcv _ r2
  obtain ⟨get, _⟩ := I.pin (a, oe) (List.mem_append_left _ hp)
  have inst : PySem.W.InstAt s.heap a oe C none := by
    obtain ⟨oc, od, oda, osl⟩ := oe
    obtain ⟨z1, z2⟩ := hz
    obtain ⟨xs, hx⟩ := hf
    cases z1
    cases z2
    cases hx
    exact ⟨get, rfl, rfl, trivial⟩
  have kit := PySem.W.handS_kitx_exc (x := a) (ox := oe) ec.hg ec.hk ec.hs ec.hd ec.ha ec.hn ec.ht ec.hm
  exact PySem.W.kia_one kit I.kIn inst hk (fun z => nomatch z) fun tk => ⟨.bl b, H, I.kept (t' := tk) fun _ _ z => z, rfl, q⟩
/-! ## texts: added, taken once or not at all -/
def rAddS : R2 := fun x y H Q => ∃ i j, x = .str i ∧ y = .str j ∧ i.length + j.length ≤ sizeLine ∧ Q (.str (i ++ j)) H
theorem op_addS : OpR X (binaryOp .Add) rAddS := op_add_str
def repS (b : Bool) (z : Str) : Str := if b = true then z else Str.empty
def rMulS : R2 := fun x y H Q => ∃ (z : Str) (b : Bool), x = .str z ∧ y = .int (if b = true then 1 else 0) ∧ z.length ≤ 1000 ∧ Q (.str (repS b z)) H
theorem op_mulS : OpR X (binaryOp .Mult) rMulS := by
  intro pins s σ H x y v u Q I rx ry h
  obtain ⟨z, b, rfl, rfl, hl, q⟩ := h
  obtain ⟨t, rfl⟩ := rx
  obtain ⟨t', rfl⟩ := ry
  cases b with
  | true =>
    refine P.mul_str (by decide) (fun _ h => (by cases h)) (fun _ h => (by cases h)) ?_
    exact ⟨.str z, H, I, ⟨_, rfl⟩, q⟩
  | false => exact P.mul_str_none (by decide) (by decide) ⟨.str Str.empty, H, I.tok _, ⟨_, rfl⟩, q⟩
def rIntB : List V → Hp → VK → Prop := fun xs H Q => (∃ i, xs = [.int i] ∧ Q (.int i) H) ∨ ∃ k, xs = [.bl k] ∧ Q (.int (if k then 1 else 0)) H
theorem call_intB : CallR X (.type "int") rIntB := call_int1
end
section
variable {K : PySem.W.Frag} {σ : L2.St} {F H : Hp} {ta tb : TE} {t : TA} {x y : Str} {a : Addr} {cls : Value} {d : Option Addr}
theorem rd_addS (h : x.length + y.length ≤ 100000) : RD rAddS F (.str x) (.str y) (.str (x ++ y)) := fun F1 H1 v u _ e2 rv ru Q q => ⟨x, y, rv.estr, ru.estr, Evl.sz_of h, q _ F1 H1 (Nx.refl e2) (.str _)⟩
theorem rd_mulS {b : Bool} (h : x.length ≤ 1000) : RD rMulS F (.str x) (.int (if b = true then 1 else 0)) (.str (repS b x)) := fun F1 H1 v u _ e2 rv ru Q q => ⟨x, b, rv.estr, ru.eint, h, q _ F1 H1 (Nx.refl e2) (.str _)⟩
theorem rl_intB {b : Bool} : RL rIntB F [.bl b] (.int (if b = true then 1 else 0)) := fun F1 H1 vs _ e2 rv Q q => by
  obtain ⟨v, us, rfl, h1, h2⟩ := rv.uncons
  rw [h2.unnil, h1.ebl]
  exact .inr ⟨b, rfl, q _ F1 H1 (Nx.refl e2) (.int _)⟩
theorem ed_isP {i : Nat} {c : V} {cv : Value} {b : Bool} {C : Addr} (hσ : σ[i]? = some (some (.ref a))) (hcv : ∀ u, RelV c u → u = cv) (hc : cls = .ref C) (hd : d = none) (ec : ExcC K C) (hk : PySem.W.kitOne K (.ref C) cv = some b) :
    ED (tCB (rIsP K a cls d) (tCons (tVar i) (tCons (tC c) tNil))) σ F (.bl b) := fun F1 H1 _ e2 Q q => ⟨.ref a, hσ, c, cv, b, C, rfl, hcv, hc, hd, ec, hk, q _ F1 H1 (Nx.refl e2) (.bl b)⟩
end
/-! ## what the law calls a refusal -/
/-- how isinstance answers for the error's class: ValueError, BadHouse, BadGuess, BadDeed, BadPlan, BadSteps, NoWay, BadText -/
structure Kits (K : PySem.W.Frag) (A : Ad) (C : Addr) (v h g d p s n t : Bool) : Prop where
  v : PySem.W.kitOne K (.ref C) (.type "ValueError") = some v
  h : PySem.W.kitOne K (.ref C) (.ref A.bh) = some h
  g : PySem.W.kitOne K (.ref C) (.ref A.bg) = some g
  d : PySem.W.kitOne K (.ref C) (.ref A.bd) = some d
  p : PySem.W.kitOne K (.ref C) (.ref A.bp) = some p
  s : PySem.W.kitOne K (.ref C) (.ref A.bs) = some s
  n : PySem.W.kitOne K (.ref C) (.ref A.nw) = some n
  t : PySem.W.kitOne K (.ref C) (.ref A.bt) = some t
def wordOf (v h g d p s n t : Bool) : Str :=
  repS (!v) "bare" ++ repS h "house" ++ repS g "guess" ++ repS d "deed" ++ repS p "plan" ++ repS s "steps" ++ repS n "way" ++ repS t "text"
def spWord (K : PySem.W.Frag) (A : Ad) (a : Addr) (cls : Value) (dd : Option Addr) : Sp := fun vs H Q _ => ∃ (C : Addr) (v h g d p s n t : Bool), vs = [.ref a] ∧ cls = .ref C ∧ dd = none ∧ ExcC K C ∧ Kits K A C v h g d p s n t ∧ ∀ H2, Ex H H2 → Q (.str (wordOf v h g d p s n t)) H2
structure Err (K : PySem.W.Frag) (A : Ad) (C : Addr) (v h g d p s n t : Bool) : Prop where
  e : ExcC K C
  k : Kits K A C v h g d p s n t
  m : PySem.W.exmOne K (.ref C) (.ref A.he) = some true
/-! a call of a def that may raise, what it raises wished for at the caller's slots -/
section
variable {X : Cx} {CX : CXT} {k j : Nat} {x : Str} {ps : List Str} {sp : Sp} {E : L2.St → XK} {e : Expr} {es : List Expr} {t : TA} {p pos : Pos} {W : WX}
theorem pe_dfS (c : Df X.prog X.w X.K X.mg X.base CX k x ps sp) (hr : Room j X.A) (hk : k ≤ j) (hx : ∀ σ, PassesAt CX X σ (E σ)) (ha : PA X (e :: es) t) (hg : Gl X x := by rfl)
    (hdb : (x == ("__debug__" : Str)) = false := by decide) (he : starEach (e :: es) X.env = (false, eval e X.env) :: starEach es X.env := by rfl) (hpl : (backTo pos (starEach es X.env)).any (·.1) = false := by rfl) :
    PE X (.Call (.Name x p) (e :: es) [] pos) (tCallS sp E t) := by
  obtain ⟨f, fd, F, hm, kp, hb⟩ := c.ex
  exact pe_callS F (hr.mono hk) hg hm kp hb hx ha hdb he hpl
/-- .. wished for at all slots of that many names -/
def WN (N : List Str) (W : WX) : XK := fun cls d H => ∀ σ : L2.St, σ.length = N.length → W cls d σ H
theorem passN (tk : Takes X W) : Passes (L2.CX X.prog X.w) X (WN X.N W) := fun _ σ _ _ e s' I c => tk e s' (XE.of_call I (fun _ _ _ h => h σ I.len) c)
end
theorem rd_eqS {F : Hp} {x y : Str} : RD rEq F (.str x) (.str y) (.bl (decide (x = y))) := fun F1 H1 v u _ e2 rv ru Q q => by
  rw [rv.estr, ru.estr]
  refine ⟨rfl, ?_⟩
  have e : decide (V.str x = V.str y) = decide (x = y) := by by_cases h : x = y <;> simp [h]
  rw [e]
  exact q _ F1 H1 (Nx.refl e2) (.bl _)
end Bp
namespace Bp
open PySem PySem.Spec PyProof.Rows L2
open Evl (Ex)

/-! ## {e for x in xs for y in ys}, e a whole number: two clauses without tests -/
section
variable {prog : Program} {w : World} {A : Around} {R : Result → Shared → Prop} {s : Shared} {elt t0 i0 t1 i1 : Expr} {scope : Scope} {pos : Pos} {it acc : Value} {env : Env}
abbrev sc2 (elt t0 i0 t1 i1 : Expr) (scope : Scope) (pos : Pos) : Expr := .SetComp elt [⟨t0, i0, [], 0⟩, ⟨t1, i1, [], 0⟩] scope pos
abbrev nb (prog : Program) (w : World) (A : Around) (env : Env) (R : Result → Shared → Prop) : Value → Shared → Prop :=
  notedBy (model prog w) A env fun e s' => R (.error e) s'
theorem sc2_turn0 : compTurn (sc2 elt t0 i0 t1 i1 scope pos) 0 it acc env = (do
    standAt i0.pos
    match ← pyNext it with
    | none => pure (.done .next)
    | some v => do
      letOwnedTupleGo t0 it v
      assign t0 env v
      let x ← eval i1 env
      standAt i1.pos
      let x ← foldedSetIterable i1 env x
      let _ ← runOwn (.compStart (sc2 elt t0 i0 t1 i1 scope pos) 1 (← holding [x] (pyIter x)) acc env) env
      again (.compLoop (sc2 elt t0 i0 t1 i1 scope pos) 0 it acc env)) := by rfl
theorem sc2_turn1 : compTurn (sc2 elt t0 i0 t1 i1 scope pos) 1 it acc env = (do
    standAt i1.pos
    match ← pyNext it with
    | none => pure (.done .next)
    | some v => do
      letOwnedTupleGo t1 it v
      assign t1 env v
      (do let v ← eval elt env; standAt elt.pos; let _ ← call (.builtin "set.add") [acc, v])
      again (.compLoop (sc2 elt t0 i0 t1 i1 scope pos) 1 it acc env)) := by rfl
theorem sc2_loop0 (hs : ∀ x, foldedSetIterable i1 env x = pure x) (I : Nat → Shared → Prop)
    (turn : ∀ n s, I n s → wpAny (model prog w) A (pyNext it) (fun r sa => match r with
      | none => R (.ok .next) sa
      | some v => wpAny (model prog w) A (letOwnedTupleGo t0 it v) (fun _ sb => wpAny (model prog w) A (assign t0 env v) (fun _ sc =>
          wpAny (model prog w) A (eval i1 env) (fun x sd => wpAny (model prog w) A (pyIter x) (fun it1 se =>
            codeAny (model prog w) A (.compStart (sc2 elt t0 i0 t1 i1 scope pos) 1 it1 acc env) (fun r s' => match r with
              | .ok _ => ∃ m, m < n ∧ I m s'
              | .error _ => False) se) (nb prog w A env R) sd) (nb prog w A env R) sc) (nb prog w A env R) sb) (nb prog w A env R) sa) (nb prog w A env R) s)
    (n : Nat) (h : I n s) : codeAny (model prog w) A (.compLoop (sc2 elt t0 i0 t1 i1 scope pos) 0 it acc env) R s := by
  refine codeAny_loop rfl I (fun n s hI => ?_) n h
  show wpAny _ A ((compTurn (sc2 elt t0 i0 t1 i1 scope pos) 0 it acc env).onRaise (fun x => do noteFrame x env; theTreesLotGoes x)) _ _ s
  refine wpAny_noted ?_
  rw [sc2_turn0]
  refine wpAny_bind (wpAny_standAt (wpAny_bind (wpAny_mono (turn n s hI) (fun r sa ha => ?_) fun _ _ x => x)))
  cases r with
  | none => exact wpAny_pure ha
  | some v =>
    refine wpAny_bind (wpAny_mono ha (fun _ sb hb => ?_) fun _ _ x => x)
    refine wpAny_bind (wpAny_mono hb (fun _ sc hc => ?_) fun _ _ x => x)
    refine wpAny_bind (wpAny_mono hc (fun x sd hd => ?_) fun _ _ x => x)
    refine wpAny_bind (wpAny_standAt (wpAny_bind (wpAny_of_eq (hs x) (wpAny_bind (wpAny_holding (wpAny_mono hd (fun it1 se he => ?_) fun _ _ x => x))))))
    refine wpAny_bind (wpAny_runOwn ?_)
    rw [Around.mark_none]
    refine codeAny_mono he fun r s' hr => ?_
    cases r with
    | error e => exact hr.elim
    | ok f =>
      first
        | exact wpAny_pure ⟨rfl, hr⟩
        | exact wpAny_bind (wpAny_pure (wpAny_pure ⟨rfl, hr⟩))
theorem sc2_loop1 (I : Nat → Shared → Prop)
    (turn : ∀ n s, I n s → wpAny (model prog w) A (pyNext it) (fun r sa => match r with
      | none => R (.ok .next) sa
      | some v => wpAny (model prog w) A (letOwnedTupleGo t1 it v) (fun _ sb => wpAny (model prog w) A (assign t1 env v) (fun _ sc =>
          wpAny (model prog w) A (eval elt env) (fun x sd => wpAny (model prog w) A (call (.builtin "set.add") [acc, x]) (fun _ se => ∃ m, m < n ∧ I m se) (nb prog w A env R) sd) (nb prog w A env R) sc) (nb prog w A env R) sb) (nb prog w A env R) sa) (nb prog w A env R) s)
    (n : Nat) (h : I n s) : codeAny (model prog w) A (.compLoop (sc2 elt t0 i0 t1 i1 scope pos) 1 it acc env) R s := by
  refine codeAny_loop rfl I (fun n s hI => ?_) n h
  show wpAny _ A ((compTurn (sc2 elt t0 i0 t1 i1 scope pos) 1 it acc env).onRaise (fun x => do noteFrame x env; theTreesLotGoes x)) _ _ s
  refine wpAny_noted ?_
  rw [sc2_turn1]
  refine wpAny_bind (wpAny_standAt (wpAny_bind (wpAny_mono (turn n s hI) (fun r sa ha => ?_) fun _ _ x => x)))
  cases r with
  | none => exact wpAny_pure ha
  | some v =>
    refine wpAny_bind (wpAny_mono ha (fun _ sb hb => ?_) fun _ _ x => x)
    refine wpAny_bind (wpAny_mono hb (fun _ sc hc => ?_) fun _ _ x => x)
    exact wpAny_bind (wpAny_bind (wpAny_mono hc (fun x sd hd => wpAny_bind (wpAny_standAt (wpAny_bind (wpAny_mono hd (fun _ se he => wpAny_pure (wpAny_pure ⟨rfl, he⟩)) fun _ _ x => x)))) fun _ _ x => x))
theorem sc2_start1 (h0 : codeAny (model prog w) A (.compLoop (sc2 elt t0 i0 t1 i1 scope pos) 1 it acc env) R s)
    (h : wpAny (model prog w) A (pyIter it) (fun it' s' => codeAny (model prog w) A (.compLoop (sc2 elt t0 i0 t1 i1 scope pos) 1 it' acc env) R s') (nb prog w A env R) s) :
    codeAny (model prog w) A (.compStart (sc2 elt t0 i0 t1 i1 scope pos) 1 it acc env) R s := by
  refine codeAny_of_tree ?_
  show wpAny _ _ ((compStart (sc2 elt t0 i0 t1 i1 scope pos) 1 it acc env).onRaise (fun x => do noteFrame x env; standAt theWindowsPlace)) _ _ s
  refine wpAny_notedAt ?_
  unfold compStart
  show wpAny _ _ (ask >>= _) _ _ s
  refine wpAny_bind (wpAny_askSetting (wpAny_ite ?_))
  split
  · first
      | exact wpAny_bind (wpAny_pure (wpAny_pure ⟨rfl, h0⟩))
      | exact wpAny_pure ⟨rfl, h0⟩
  · first
      | exact wpAny_bind (wpAny_rule (wpAny_bind (wpAny_standAt (wpAny_bind (wpAny_mono h (fun it' s' h' => wpAny_pure ⟨rfl, h'⟩) fun _ _ x => x)))))
      | (refine wpAny_bind (wpAny_rule ?_)
         show wpAny _ _ (standAt i1.pos >>= _) _ _ s
         exact wpAny_bind (wpAny_standAt (wpAny_bind (wpAny_mono h (fun it' s' h' => wpAny_pure ⟨rfl, h'⟩) fun _ _ x => x))))
end
def tSi2 (w : World) (wi : TI) (g : TG) (wi1 : TI) (g1 : TG) (te : TE) (own own1 : List Nat) : TE := fun σ H Q =>
  wi σ H fun J H1 => ∀ p, H1 p = none →
    ∃ W : Nat → Nat → Hp → Prop, (∃ m, W 0 m (upd H1 p (seti0 w p))) ∧
      ∀ i m H, W i m H → (J.stop i H ∧ Q (.ref p) H) ∨
        (J.go i H ∧ ∃ N : Hp → Prop, (∀ H', N H' → ∃ m', m' < m ∧ W (i + 1) m' H') ∧
          ∀ x H', J.yld i H x H' → g x (wipe σ own) H' fun σ2 H2 =>
            wipe σ2 own = wipe σ own ∧ wi1 σ2 H2 fun J1 H4 =>
              ∃ W1 : Nat → Nat → Hp → Prop, (∃ m, W1 0 m H4) ∧ ∀ j k H, W1 j k H → (J1.stop j H ∧ N H) ∨
                (J1.go j H ∧ ∃ N1 : Hp → Prop, (∀ H', N1 H' → ∃ k', k' < k ∧ W1 (j + 1) k' H') ∧
                  ∀ y H', J1.yld j H y H' → g1 y (wipe σ2 own1) H' fun σ3 H5 =>
                    wipe σ3 own1 = wipe σ2 own1 ∧ te σ3 H5 fun z H7 => ∃ (c : Int) (S : Int → Bool) (n : Nat), z = .int c ∧
                      H7 p = some (SetO w p S n) ∧ n + 1 < scanBound ∧ N1 (upd H7 p (seti1 w p S n c))))
section
variable {X : Cx} {elt tg iter tg1 iter1 : Expr} {scope : Scope} {own : List (PySem.Str × Nat)} {own1 : List Nat} {pos : Pos} {wi wi1 : TI} {g g1 : TG} {te : TE}
theorem pe_si2 (calm : X.calm = true) (nd : X.N.Nodup) (hi : PI X tg iter wi) (ok : BlkOk X.N X.env.scope scope own) (sub : ∀ i ∈ own1, i ∈ own.map (·.2))
    (hg : ∀ s H C cl fp, PG (X.blk s H scope (compEnvC scope cl C X.env) fp) tg g)
    (hi1 : ∀ s H C cl fp, PI (X.blk s H scope (compEnvC scope cl C X.env) fp) tg1 iter1 wi1)
    (hg1 : ∀ s H C cl fp, PG (X.blk s H scope (compEnvC scope cl C X.env) fp) tg1 g1)
    (he : ∀ s H C cl fp, PE (X.blk s H scope (compEnvC scope cl C X.env) fp) elt te)
    (hs : ∀ x, foldedSetIterable iter X.env x = pure x := by intro _; rfl) (hs1 : ∀ env x, foldedSetIterable iter1 env x = pure x := by intro _ _; rfl) :
    PE X (sc2 elt tg iter tg1 iter1 scope pos) (tSi2 X.w wi g wi1 g1 te (own.map (·.2)) own1) := by
  refine ⟨fun pins s σ H Q I h => ?_⟩
  rw [PpSet.eval_SetComp]
  have caught : ∀ y ∈ scope.names, y.2 = .free → ∃ c, X.env.cells.lookup y.1 = some c := by
    intro y hy e
    exact I.ok.has _ (ok.free y hy e)
  refine wpAny_comprehension_free rfl hs (closure_ok caught) ok.kind (fun y hy e => by rw [ok.uniq y hy, e])
    (thn (hi.run pins s σ H _ I h) fun xv sA hx => thn hx fun itv sB hB => ?_)
  obtain ⟨it, fp, tn, J, HB, e, IB, T, stB, fB, q⟩ := hB
  subst e
  refine PpSet.newSet_ok (newEnv_comp ?_)
  obtain ⟨p, ep⟩ : ∃ p, p = sB.heap.objs.size := ⟨_, rfl⟩
  rw [← ep]
  have pn : HB p = none := IB.hok.fresh (Nat.le_of_eq ep.symm)
  obtain ⟨W, ⟨m0, w0⟩, turn⟩ := q p pn
  let O : Obj := { cls := .type "set", dict := none, data := .set #[] 0 (.fresh 0 0 (!X.w.params.followText "set-order")) }
  obtain ⟨sC, eC⟩ : ∃ z : Shared, z = { sB with heap := sB.heap.push O } := ⟨_, rfl⟩
  obtain ⟨HC, eH⟩ : ∃ z : Hp, z = upd HB p (seti0 X.w p) := ⟨_, rfl⟩
  have hpC : sC.heap = sB.heap.push O := by rw [eC]
  have IC : Inv X pins σ HC sC := by
    rw [eC, eH]
    refine IB.laid (t' := sB.toks) (fun b o e => Heap.get?_push_of_some _ e) (Nat.le_of_eq ep.symm) ?_
    rw [ep]
    exact setO_new (setR_fresh X.w)
  have fC : ∀ b ∈ fp, FpOk X pins HC b ∧ b < sC.heap.objs.size := by
    intro b hb
    obtain ⟨o, ho, _⟩ := T.obj _ _ stB b hb
    have lt := Heap.lt_size ho
    rw [eH]
    refine ⟨⟨?_, (fB b hb).2⟩, by rw [hpC, Heap.size_push]; exact Nat.lt_succ_of_lt lt⟩
    rw [upd_ne (by rw [ep]; exact Nat.ne_of_lt lt)]
    exact (fB b hb).1
  have stC : tn 0 sC.heap := T.keep _ _ _ stB fun b _ o e => by rw [hpC]; exact Heap.get?_push_of_some _ e
  have ID := block_start IC ok nd fC
  obtain ⟨L, eL⟩ : ∃ z, z = sC.heap.objs.size := ⟨_, rfl⟩
  obtain ⟨cl, ecl⟩ : ∃ z, z = cellsFrom (L + 1) scope.names (cloFrom X.env.cells scope.names []) := ⟨_, rfl⟩
  have pg := hg sC HC L cl fp
  have pi1 := hi1 sC HC L cl fp
  have pg1 := hg1 sC HC L cl fp
  have pe := he sC HC L cl fp
  rw [← eC, ← eL]
  rw [← eL, ← ecl] at ID
  show codeAny _ _ (.compStart _ 0 (.ref it) (.ref p) (compEnvC scope (cellsFrom (L + 1) scope.names (cloFrom X.env.cells scope.names [])) L X.env))
    (compPost _ _ _ none (EP X pins σ Q) (.ref p) L) { sC with heap := pushCells (sC.heap.push { cls := .type "dict", data := .dict #[] }) scope.names }
  rw [← ecl]
  rw [← eH] at w0
  obtain ⟨ce, ece⟩ : ∃ z, z = compEnvC scope cl L X.env := ⟨_, rfl⟩
  have ceL : ce.locals = L := by rw [ece]; rfl
  rw [← ece] at ID pg pi1 pg1 pe ⊢
  obtain ⟨sD, eD⟩ : ∃ z : Shared, z = { sC with heap := pushCells (sC.heap.push { cls := .type "dict", data := .dict #[] }) scope.names } := ⟨_, rfl⟩
  rw [← eD] at ID ⊢
  have stD : tn 0 sD.heap := T.keep _ _ _ stC fun b _ o e => by rw [eD]; exact pushCells_keeps _ _ _ _ (Heap.get?_push_of_some _ e)
  have nofp : ∀ b ∈ fp, HC b = none := fun b hb => (fC b hb).1.1
  have fpOk : ∀ {σ' : L2.St} {H' : Hp} {s' : Shared}, Inv (X.blk sC HC scope ce fp) [] σ' H' s' → (∀ b ∈ fp, H' b = none) →
      ∀ b ∈ fp, FpOk (X.blk sC HC scope ce fp) [] H' b := by
    intro σ' H' s' I' hn b hb
    refine ⟨hn b hb, (I'.ok.exf b hb).1, I'.ok.exfs b hb, .inl hb, fun x c e => (I'.ok.exf b hb).2 x c e, ?_⟩
    intro z hz
    rw [List.nil_append] at hz
    cases hz
  have loop : codeAny (model X.prog X.w) X.A (.compLoop (sc2 elt tg iter tg1 iter1 scope pos) 0 (.ref it) (.ref p) ce)
      (compPost (model X.prog X.w) X.A X.xe none (EP X pins σ Q) (.ref p) L) sD := by
    refine sc2_loop0 (hs1 ce) (fun n s' => ∃ i H', Inv (X.blk sC HC scope ce fp) [] (wipe σ (own.map (·.2))) H' s' ∧
      tn i s'.heap ∧ (∀ b ∈ fp, H' b = none) ∧ W i n H') ?_ m0 ⟨0, HC, ID, stD, nofp, w0⟩
    rintro n s5 ⟨i, H5, I5, st5, n5, w5⟩
    rcases turn i n H5 w5 with ⟨stop, fine⟩ | ⟨go, N, hN, step⟩
    · refine thnF (T.done (X.blk sC HC scope ce fp) rfl rfl rfl calm i [] s5 _ H5 (fun _ _ => False) I5 (fpOk I5 n5) st5 stop) ?_
      intro r s6 ⟨hr, I6⟩
      subst hr
      have I7 : Inv X pins σ H5 s6 := IC.call' (ch := fp) I6.os I6.base I6.hok I6.bare fun b hb => by
        have k := (fC b hb).1.2
        exact ⟨k.2.2.1, k.1, k.2.2.2.1, k.2.2.2.2⟩
      have free : H5 L = none := ceL ▸ (show H5 ce.locals = none from I6.free)
      obtain ⟨m, hm, _⟩ := I6.loc
      have hm : s6.heap.Ns L m := ceL ▸ (show s6.heap.Ns ce.locals m from hm)
      obtain ⟨f0, f1, f2, f3, f4, f5⟩ := IC.fpOk (Nat.le_of_eq eL.symm) free
      refine ⟨m, hm, fun h'' sb => ?_⟩
      exact ⟨.ref p, H5, I7.turned (t' := s6.toks) (fun b o hb e => (sb.2 b hb).trans e) f0 f1 f3 f4 f5, rfl, fine⟩
    · refine thnF (T.item (X.blk sC HC scope ce fp) rfl rfl rfl calm i [] s5 _ H5 (fun _ _ => False) I5 (fpOk I5 n5) st5 go) ?_
      intro r s6 ⟨u, hr, h6⟩
      subst hr
      refine thnF h6 fun _ s7 ⟨x, H7, I7, r7, y7, st7, n7⟩ => ?_
      refine thnF (pg.run _ s7 _ H7 x u _ (I7.pinned (fpOk I7 n7) (T.obj _ _ st7)) r7 (step x H7 y7)) ?_
      intro _ s8 ⟨σ8, H8, I8, back, q8⟩
      -- the turn's end, from any slots that know what the block knew at its start
      have next : ∀ {σ9 : L2.St} {s' : Shared} {H' : Hp}, Inv (X.blk sC HC scope ce fp) ([] ++ pinsAt fp s7.heap) σ9 H' s' → (wipe σ (own.map (·.2))).length = σ9.length →
          (∀ (j : Nat) v, (wipe σ (own.map (·.2)))[j]? = some (some v) → σ9[j]? = some (some v)) → N H' →
          ∃ m, m < n ∧ ∃ i H', Inv (X.blk sC HC scope ce fp) [] (wipe σ (own.map (·.2))) H' s' ∧ tn i s'.heap ∧ (∀ b ∈ fp, H' b = none) ∧ W i m H' := by
        intro σ9 s' H' I' hl hk nx
        obtain ⟨m', lt, w'⟩ := hN H' nx
        have stay : ∀ b ∈ fp, ∀ o, s7.heap.get? b = some o → s'.heap.get? b = some o ∧ H' b = none := by
          intro b hb o e
          have k := I'.pin (b, o) (List.mem_append_right _ (List.mem_append_right _ (mem_pinsAt hb e)))
          exact ⟨k.1, k.2.1⟩
        refine ⟨m', lt, i + 1, H', (I'.unpinned (pins := [])).weak hl hk, ?_, ?_, w'⟩
        · exact T.keep _ _ _ st7 fun b hb o e => (stay b hb o e).1
        · intro b hb
          obtain ⟨o, e, _⟩ := T.obj _ _ st7 b hb
          exact (stay b hb o e).2
      have len8 : (wipe σ (own.map (·.2))).length = (wipe σ8 own1).length := by rw [← back, wipe_length, wipe_length]
      have know8 : ∀ (j : Nat) v, (wipe σ (own.map (·.2)))[j]? = some (some v) → (wipe σ8 own1)[j]? = some (some v) := by
        intro j v e
        rw [← back] at e
        obtain ⟨e1, e2⟩ := wipe_some e
        rw [wipe_out fun z => e2 (sub j z)]
        exact e1
      refine thnF (pi1.run _ s8 σ8 H8 _ I8 q8) fun xv s10 hx => thnF hx fun itv s11 h11 => ?_
      obtain ⟨it1, fp1, tn1, J1, H11, e1, I11, T1, st11, f11, W1, ⟨m1, w1⟩, turn1⟩ := h11
      subst e1
      have fpOk1 : ∀ {H' : Hp}, (∀ b ∈ fp1, H' b = none) → ∀ b ∈ fp1, FpOk (X.blk sC HC scope ce fp) ([] ++ pinsAt fp s7.heap) H' b :=
        fun hn b hb => ⟨hn b hb, (f11 b hb).2⟩
      have inner : codeAny (model X.prog X.w) X.A (.compLoop (sc2 elt tg iter tg1 iter1 scope pos) 1 (.ref it1) (.ref p) ce) (fun r s' => match r with
          | .ok _ => ∃ m, m < n ∧ ∃ i H', Inv (X.blk sC HC scope ce fp) [] (wipe σ (own.map (·.2))) H' s' ∧ tn i s'.heap ∧ (∀ b ∈ fp, H' b = none) ∧ W i m H'
          | .error _ => False) s11 := by
        refine sc2_loop1 (fun k s' => ∃ j H', Inv (X.blk sC HC scope ce fp) ([] ++ pinsAt fp s7.heap) (wipe σ8 own1) H' s' ∧ tn1 j s'.heap ∧ (∀ b ∈ fp1, H' b = none) ∧ W1 j k H') ?_ m1
          ⟨0, H11, I11.weak (wipe_length _ _) (fun j v e => (wipe_some e).1), st11, fun b hb => (f11 b hb).1, w1⟩
        rintro k s12 ⟨j, H12, I12, st12, n12, w12⟩
        rcases turn1 j k H12 w12 with ⟨stop1, fine1⟩ | ⟨go1, N1, hN1, step1⟩
        · refine thnF (T1.done (X.blk sC HC scope ce fp) rfl rfl rfl calm j _ s12 (wipe σ8 own1) H12 (fun _ _ => False) I12 (fpOk1 n12) st12 stop1) ?_
          intro r s13 ⟨hr, I13⟩
          subst hr
          exact next I13 len8 know8 fine1
        · refine thnF (T1.item (X.blk sC HC scope ce fp) rfl rfl rfl calm j _ s12 (wipe σ8 own1) H12 (fun _ _ => False) I12 (fpOk1 n12) st12 go1) ?_
          intro r s13 ⟨u1, hr, h13⟩
          subst hr
          refine thnF h13 fun _ s14 ⟨y, H14, I14, r14, y14, st14, n14⟩ => ?_
          refine thnF (pg1.run _ s14 (wipe σ8 own1) H14 y u1 _ (I14.pinned (fpOk1 n14) (T1.obj _ _ st14)) r14 (step1 y H14 y14)) ?_
          intro _ s15 ⟨σ15, H15, I15, back1, q15⟩
          have next1 : ∀ {s' : Shared} {H' : Hp}, Inv (X.blk sC HC scope ce fp) (([] ++ pinsAt fp s7.heap) ++ pinsAt fp1 s14.heap) σ15 H' s' → N1 H' →
              ∃ m, m < k ∧ ∃ j H', Inv (X.blk sC HC scope ce fp) ([] ++ pinsAt fp s7.heap) (wipe σ8 own1) H' s' ∧ tn1 j s'.heap ∧ (∀ b ∈ fp1, H' b = none) ∧ W1 j m H' := by
            intro s' H' I' nx
            obtain ⟨m', lt, w'⟩ := hN1 H' nx
            have stay : ∀ b ∈ fp1, ∀ o, s14.heap.get? b = some o → s'.heap.get? b = some o ∧ H' b = none := by
              intro b hb o e
              have z := I'.pin (b, o) (List.mem_append_right _ (List.mem_append_right _ (mem_pinsAt hb e)))
              exact ⟨z.1, z.2.1⟩
            refine ⟨m', lt, j + 1, H', I'.unpinned.weak (by rw [← back1, wipe_length]) (fun j v e => (wipe_some (back1 ▸ e)).1), ?_, ?_, w'⟩
            · exact T1.keep _ _ _ st14 fun b hb o e => (stay b hb o e).1
            · intro b hb
              obtain ⟨o, e, _⟩ := T1.obj _ _ st14 b hb
              exact (stay b hb o e).2
          refine thnF (pe.run _ s15 σ15 H15 _ I15 q15) ?_
          intro z sE ⟨yv, HE, IE, rE, c, S0, n0, ey, hE, few, nx⟩
          subst ey
          obtain ⟨t, rfl⟩ := (show ∃ t, z = Value.int c t from rE)
          exact add_seti (X := X.blk sC HC scope ce fp) IE hE few fun sF IF => next1 IF nx
      exact sc2_start1 inner (T1.self X.A 0 _ _ _ st11 inner)
  exact PpSet.codeAny_compStart_set loop (T.self X.A 0 _ _ _ stD loop)
end
end Bp
namespace Bp
open PySem PySem.Spec PyProof.Rows L2
open Evl (Ex)
theorem ins_len {k : Int} : ∀ {l : List Int}, k ∉ l → (ins k l).length = l.length + 1
  | [], _ => rfl
  | x :: xs, h => by
    unfold ins
    by_cases h1 : k < x
    · rw [if_pos h1]; rfl
    · rw [if_neg h1, if_neg (fun e : k = x => h (by rw [e]; exact List.mem_cons_self)), List.length_cons, ins_len (fun e => h (List.mem_cons_of_mem _ e)), List.length_cons]
theorem srt_add (ns : List Int) (c : Int) : (srt (ns ++ [c])).length = if c ∈ ns then (srt ns).length else (srt ns).length + 1 := by
  by_cases h : c ∈ ns
  · rw [if_pos h]
    congr 1
    refine up_ext (srt_up _) (srt_up _) fun k => ?_
    rw [mem_srt, mem_srt, List.mem_append, List.mem_singleton]
    exact ⟨fun x => x.elim id fun e => e ▸ h, .inl⟩
  · rw [if_neg h, ← ins_len (fun e => h (mem_srt.mp e))]
    congr 1
    refine up_ext (srt_up _) (ins_up (srt_up _)) fun k => ?_
    rw [mem_srt, mem_ins, mem_srt, List.mem_append, List.mem_singleton]
    exact Or.comm
theorem ins_le {k : Int} : ∀ {l : List Int}, (ins k l).length ≤ l.length + 1
  | [] => Nat.le_refl _
  | x :: xs => by
    unfold ins
    split
    · exact Nat.le_refl _
    · split
      · exact Nat.le_succ _
      · have := ins_le (k := k) (l := xs); simp only [List.length_cons]; omega
theorem srt_len : ∀ {l : List Int}, (srt l).length ≤ l.length
  | [] => Nat.le_refl _
  | x :: xs => by
    have h1 := srt_len (l := xs)
    have h2 := ins_le (k := x) (l := srt xs)
    show (ins x (srt xs)).length ≤ _
    rw [List.length_cons]; omega
theorem up_short : ∀ {l : List Int} {a : Int} {n : Nat}, l.Pairwise (· < ·) → (∀ k ∈ l, a ≤ k ∧ k < a + n) → l.length ≤ n
  | [], _, _, _, _ => Nat.zero_le _
  | x :: xs, a, n, h, hm => by
    obtain ⟨h1, h2⟩ := List.pairwise_cons.mp h
    have h0 := hm x List.mem_cons_self
    cases n with
    | zero => omega
    | succ n =>
      have := up_short (l := xs) (a := a + 1) (n := n) h2 fun k hk => by
        have := h1 k hk; have := hm k (List.mem_cons_of_mem _ hk); push_cast at *; omega
      rw [List.length_cons]; omega
structure Su (w : World) (F1 H1 : Hp) (p : Addr) (ns : List Int) (H' : Hp) : Prop where
  h : Ex H1 H'
  f : Ex F1 H'
  s : ∃ S n, H' p = some (SetO w p S n) ∧ (∀ k, S k = true ↔ k ∈ ns) ∧ n = (srt ns).length
theorem Su.up {w : World} {F1 H1 H' H'' : Hp} {p : Addr} {ns : List Int} (s : Su w F1 H1 p ns H') (e : Ex H' H'') : Su w F1 H1 p ns H'' := by
  obtain ⟨S, n, a, b, c⟩ := s.s
  exact ⟨s.h.trans e, s.f.trans e, S, n, e _ _ a, b, c⟩
theorem Su.add {w : World} {F1 H1 H' : Hp} {p : Addr} {ns : List Int} {c : Int} (s : Su w F1 H1 p ns H') (h0 : H1 p = none) (f0 : F1 p = none) (hl : ns.length < 1000) :
    ∃ S n, H' p = some (SetO w p S n) ∧ n + 1 < scanBound ∧ Su w F1 H1 p (ns ++ [c]) (upd H' p (seti1 w p S n c)) := by
  obtain ⟨S, n, a, b, d⟩ := s.s
  have d1 := srt_len (l := ns)
  refine ⟨S, n, a, Nat.lt_of_le_of_lt (show n + 1 ≤ 1000 by omega) (by decide), Evl.Ex.mut s.h h0, Evl.Ex.mut s.f f0, _, _, upd_same, fun k => ?_, ?_⟩
  · rw [Bool.or_eq_true, b k, List.mem_append, decide_eq_true_iff, List.mem_singleton]
  · rw [srt_add, d]
    by_cases hc : c ∈ ns
    · rw [if_pos hc, if_pos ((b c).mpr hc)]
    · rw [if_neg hc, if_neg (fun e => hc ((b c).mp e))]
section
variable {K : PySem.W.Frag} {w : World} {σ : L2.St} {F H : Hp} {te : TE} {x y z d : D}
theorem en_sortedSi2 {α β : Type} {emb : α → D} {emb1 : β → D} {xs : List α} {tl tl1 : TE} {j j1 : Nat} {ws ws1 : List Nat} (ys : α → List β) (g : α → β → Int) (h : ED tl σ F (.lst (xs.map emb))) (hz : xs.length < 64) (hy : ∀ x ∈ xs, (ys x).length ≤ 10)
    (hmem : ∀ k, k ∈ xs.flatMap (fun x => (ys x).map (g x)) → 0 ≤ k ∧ k < 60) (hw : ∀ x, wipe ((wipe σ ws).set j (some x)) ws = wipe σ ws) (hw1 : ∀ x y, wipe ((wipe ((wipe σ ws).set j (some x)) ws1).set j1 (some y)) ws1 = wipe ((wipe σ ws).set j (some x)) ws1)
    (hi : ∀ x v F1, x ∈ xs → Ex F F1 → Rp F1 v (emb x) → ED tl1 ((wipe σ ws).set j (some v)) F1 (.lst ((ys x).map emb1)))
    (he : ∀ x y v u F1, x ∈ xs → y ∈ ys x → Ex F F1 → Rp F1 v (emb x) → Rp F1 u (emb1 y) → ED te ((wipe ((wipe σ ws).set j (some v)) ws1).set j1 (some u)) F1 (.int (g x y))) :
    EN (tCB (rSortedSet w) (tCons (tSi2 w (iList K tl) (gName j) (iList K tl1) (gName j1) te ws ws1) tNil)) σ F (li (srt (xs.flatMap fun x => (ys x).map (g x)))) := fun F0 H0 e1 e2 Q q => by
  refine h F0 H0 e1 e2 _ fun v F1 H1 n1 r1 => ?_
  obtain ⟨a, vs, rfl, ha, hr⟩ := r1.list
  have hn : vs.length = xs.length := by rw [hr.n, List.length_map]
  refine ⟨a, rfl, ⟨vs, Evl.sq_of (n1.fh _ _ ha)⟩, fun p hp => ?_⟩
  have f0 := Evl.fresh_back n1.fh hp
  have lens : ∀ i, ((xs.take i).flatMap fun x => (ys x).map (g x)).length ≤ 10 * (xs.take i).length := fun i => by
    have : ∀ l : List α, (∀ x ∈ l, x ∈ xs) → (l.flatMap fun x => (ys x).map (g x)).length ≤ 10 * l.length := by
      intro l
      induction l with
      | nil => intro _; simp
      | cons x l ih =>
        intro hx
        have h1 := ih fun y hy => hx y (by simp [hy])
        have h2 := hy x (hx x (by simp))
        rw [List.flatMap_cons, List.length_append, List.length_map, List.length_cons]
        omega
    exact this _ fun x hx => List.mem_of_mem_take hx
  refine ⟨fun i m H' => m = vs.length - i ∧ i ≤ vs.length ∧ Su w F1 H1 p ((xs.take i).flatMap fun x => (ys x).map (g x)) H', ⟨vs.length, by simp, Nat.zero_le _, Evl.Ex.new hp, n1.fh.trans (Evl.Ex.new hp), fun _ => false, 0, upd_same, fun k => by simp, rfl⟩, ?_⟩
  rintro i m H' ⟨rfl, hi', s⟩
  have hA : SqL K H' a vs := Evl.sq_of (s.f _ _ ha)
  by_cases hlt : i < vs.length
  · refine .inr ⟨⟨vs, vs[i], hA, by simp [hlt]⟩, fun H'' => Su w F1 H1 p ((xs.take (i + 1)).flatMap fun x => (ys x).map (g x)) H'', fun H'' s' => ⟨vs.length - (i + 1), by omega, rfl, hlt, s'⟩, fun x H'' y => ?_⟩
    obtain ⟨e, y⟩ := y
    subst e
    have hx := y vs hA
    obtain ⟨d, hd, rd⟩ := hr.getv hx
    rw [List.getElem?_map] at hd
    cases hxs : xs[i]? with
    | none => rw [hxs] at hd; cases hd
    | some z =>
      rw [hxs] at hd
      obtain rfl : emb z = d := Option.some.inj hd
      have hz' := List.mem_of_getElem? hxs
      have hstep : (xs.take (i + 1)).flatMap (fun x => (ys x).map (g x)) = ((xs.take i).flatMap fun x => (ys x).map (g x)) ++ (ys z).map (g z) := by
        rw [List.take_add_one, hxs, List.flatMap_append]
        simp
      refine ⟨hw _, ?_⟩
      refine hi z x F1 hz' (e1.trans n1.f) rd F1 _ (Evl.Ex.refl _) s.f _ fun v1 F2 H2 n2 r2 => ?_
      obtain ⟨a1, vs1, rfl, ha1, hr1⟩ := r2.list
      have hn1 : vs1.length = (ys z).length := by rw [hr1.n, List.length_map]
      have hp' : H'' p ≠ none := by
        obtain ⟨S, n, k, _⟩ := s.s
        rw [k]; exact fun z => (nomatch z)
      have f2 := n2.n p hp' f0
      refine ⟨a1, rfl, ⟨vs1, Evl.sq_of (n2.fh _ _ ha1)⟩, fun j' k H3 => k = vs1.length - j' ∧ j' ≤ vs1.length ∧ Ex F2 H3 ∧ Su w F1 H1 p (((xs.take i).flatMap fun x => (ys x).map (g x)) ++ ((ys z).take j').map (g z)) H3, ⟨vs1.length, by simp, Nat.zero_le _, n2.fh, by rw [List.take_zero, List.map_nil, List.append_nil]; exact s.up n2.h⟩, ?_⟩
      rintro j' k H3 ⟨rfl, hj', e3, s3⟩
      have hA1 : SqL K H3 a1 vs1 := Evl.sq_of (e3 _ _ ha1)
      by_cases hlt1 : j' < vs1.length
      · refine .inr ⟨⟨vs1, vs1[j'], hA1, by simp [hlt1]⟩, fun H4 => Ex F2 H4 ∧ Su w F1 H1 p (((xs.take i).flatMap fun x => (ys x).map (g x)) ++ ((ys z).take (j' + 1)).map (g z)) H4, fun H4 s' => ⟨vs1.length - (j' + 1), by omega, rfl, hlt1, s'⟩, fun u H4 y1 => ?_⟩
        obtain ⟨e', y1⟩ := y1
        subst e'
        have hu := y1 vs1 hA1
        obtain ⟨d1, hd1, rd1⟩ := hr1.getv hu
        rw [List.getElem?_map] at hd1
        cases hys : (ys z)[j']? with
        | none => rw [hys] at hd1; cases hd1
        | some b =>
          rw [hys] at hd1
          obtain rfl : emb1 b = d1 := Option.some.inj hd1
          refine ⟨hw1 _ _, ?_⟩
          refine he z b x u F2 hz' (List.mem_of_getElem? hys) ((e1.trans n1.f).trans n2.f) (rd.mono n2.f) rd1 F2 H4 (Evl.Ex.refl _) e3 _ fun v5 F5 H5 n5 r5 => ?_
          have l1 := lens i
          have l2 := hy z hz'
          have l3 : (xs.take i).length ≤ 63 := by rw [List.length_take]; omega
          obtain ⟨S, n, k1, k2, k3⟩ := (s3.up n5.h).add (c := g z b) hp f0 (by rw [List.length_append, List.length_map, List.length_take]; omega)
          refine ⟨g z b, S, n, r5.eint, k1, k2, Evl.Ex.mut (e3.trans n5.h) f2, ?_⟩
          rw [take_map_succ hys, ← List.append_assoc]
          exact k3
      · have e' : j' = vs1.length := by omega
        subst e'
        refine .inl ⟨⟨vs1, hA1, Nat.le_refl _⟩, ?_⟩
        rw [hstep]
        have et1 : (ys z).take vs1.length = ys z := List.take_of_length_le (by omega)
        rw [et1] at s3
        exact s3
  · have e : i = vs.length := by omega
    subst e
    obtain ⟨S, n, hp', hs, hle⟩ := s.s
    have et : (xs.take vs.length) = xs := List.take_of_length_le (by omega)
    rw [et] at hs hle
    -- fewer than 64 members: all are rooms
    refine .inl ⟨⟨vs, hA, Nat.le_refl _⟩, p, S, n, rfl, hp', ?_, fun ns p' up mem len hp2 => ?_⟩
    · have := up_short (a := 0) (n := 60) (srt_up (xs.flatMap fun x => (ys x).map (g x))) fun k hk => by
        have := hmem k (mem_srt.mp hk); omega
      omega
    · have en : ns = srt (xs.flatMap fun x => (ys x).map (g x)) := up_ext up (srt_up _) fun k => by rw [mem k, hs k, mem_srt]
      subst en
      exact q _ _ _ (Nw.pre (n1.h.trans s.h) (Nw.new hp2)) (en_ints hp2)
end
end Bp
namespace Bp
open PySem PySem.Spec PyProof.Rows L2
open Evl (Ex)
theorem bt_ValueError : bootBuiltins
    "ValueError" = some (.type "ValueError") := by decide +kernel
/-! ## behind a deed -/
def entryOf (e : List (List Int)) (r : Int) : List Int := e.getD r.toNat []
def deedOf (dd : List (List (List Int))) (k : Int) : List (List Int) := dd.getD k.toNat []
def behindOf (e : List (List Int)) (g : List Int) : List Int := srt (g.flatMap (entryOf e))
def ledBy (e : List (List Int)) (g : List Int) (r : Int) : List Int := g.filter fun o => decide (r ∈ entryOf e o)
def ledOf (e : List (List Int)) (g : List Int) : List Int := (rng e.length).filter fun r => !decide (ledBy e g r = [])
theorem atI_lli {e : List (List Int)} {r : Int} (h0 : 0 ≤ r) (h1 : r < e.length) : atI (e.map li) r = some (li (entryOf e r)) := by
  have h : r.toNat < e.length := by omega
  refine at_nat (j := r.toNat) (by omega) ?_
  rw [List.getElem?_map, List.getElem?_eq_getElem h]
  unfold entryOf
  rw [List.getD_eq_getElem?_getD, List.getElem?_eq_getElem h]; rfl
theorem atI_llli {e : List (List (List Int))} {r : Int} (h0 : 0 ≤ r) (h1 : r < e.length) : atI (e.map lli) r = some (lli (deedOf e r)) := by
  have h : r.toNat < e.length := by omega
  refine at_nat (j := r.toNat) (by omega) ?_
  rw [List.getElem?_map, List.getElem?_eq_getElem h]
  unfold deedOf
  rw [List.getD_eq_getElem?_getD, List.getElem?_eq_getElem h]; rfl
theorem entryOf_mem {e : List (List Int)} {r : Int} (h0 : 0 ≤ r) (h1 : r < e.length) : entryOf e r ∈ e := by
  unfold entryOf
  have h : r.toNat < e.length := by omega
  rw [List.getD_eq_getElem?_getD, List.getElem?_eq_getElem h]
  exact List.getElem_mem h
theorem deedOf_mem {e : List (List (List Int))} {r : Int} (h0 : 0 ≤ r) (h1 : r < e.length) : deedOf e r ∈ e := by
  unfold deedOf
  have h : r.toNat < e.length := by omega
  rw [List.getD_eq_getElem?_getD, List.getElem?_eq_getElem h]
  exact List.getElem_mem h
theorem behind_eq {e : List (List Int)} {g : List Int} {n : Nat} (hn : e.length = n) (he : ∀ x ∈ e, Up n x) (hg : Up n g) : behindOf e g = ledOf e g := by
  unfold behindOf ledOf
  refine up_ext (srt_up _) ?_ fun k => ?_
  · refine List.Pairwise.filter _ ?_
    unfold rng
    rw [List.pairwise_map]
    exact List.pairwise_lt_range.imp fun h => by omega
  · rw [mem_srt, List.mem_flatMap, List.mem_filter, mem_rng]
    constructor
    · rintro ⟨r, hr, hk⟩
      have r' := hg.2 r hr
      have k' := (he _ (entryOf_mem r'.1 (by omega))).2 k hk
      refine ⟨by omega, ?_⟩
      have : r ∈ ledBy e g k := List.mem_filter.mpr ⟨hr, decide_eq_true hk⟩
      have ne : ledBy e g k ≠ [] := fun z => by rw [z] at this; cases this
      simpa using ne
    · rintro ⟨_, h⟩
      have ne : ledBy e g k ≠ [] := by simpa using h
      obtain ⟨r, hr⟩ := List.exists_mem_of_ne_nil _ ne
      have := List.mem_filter.mp hr
      exact ⟨r, this.1, by simpa using this.2⟩
def R_need_deed (A : Ad) (ds : List D) (d : D) : Prop := ∃ l dd w x, ds = [hsD A.hs l (llli dd) w, x] ∧ noObj x = true ∧ isWhole x dd.length = true ∧ d = .non
def W_need_deed (A : Ad) (ds : List D) (C : Addr) : Prop := ∃ l dd w x, ds = [hsD A.hs l (llli dd) w, x] ∧ noObj x = true ∧ isWhole x dd.length = false ∧ C = A.bd
def R_behind (A : Ad) (ds : List D) (d : D) : Prop := ∃ l dd w g k, ds = [hsD A.hs (li l) (llli dd) (li w), li g, .int k] ∧ Hs l dd w ∧ isGuess (li g) l.length = true ∧ 0 ≤ k ∧ k < (dd.length : Int) ∧ d = li (behindOf (deedOf dd k) g)
/-- what is refused: a guess, or a deed -/
def WBad (A : Ad) (l : List Int) (dd : List (List (List Int))) (x y : D) (deed : Prop) (C : Addr) : Prop := noObjs x = true ∧ noObj y = true ∧ ((isGuess x l.length = false ∧ C = A.bg) ∨ (deed ∧ isGuess x l.length = true ∧ isWhole y dd.length = false ∧ C = A.bd))
def W_behind (A : Ad) (ds : List D) (C : Addr) : Prop := ∃ l dd w x y, ds = [hsD A.hs (li l) (llli dd) w, x, y] ∧ WBad A l dd x y True C
def R_led (ds : List D) (d : D) : Prop := ∃ e g, ds = [lli e, li g] ∧ (∀ r ∈ g, 0 ≤ r ∧ r < (e.length : Int)) ∧ g.length < 50000 ∧ e.length < 1000 ∧ d = li (ledOf e g)
def noR : List D → D → Prop := fun _ _ => False
def W_told (A : Ad) (ds : List D) (C : Addr) : Prop := ∃ l dd w x y n, ds = [.int n, hsD A.hs (li l) (llli dd) w, x, y] ∧ WBad A l dd x y (n ≠ 0 ∧ n ≠ 1 ∧ n ≠ 2) C
def R_refused (A : Ad) (ds : List D) (d : D) : Prop := ∃ C, W_told A ds C ∧ ((C = A.bg ∧ d = .str "guess") ∨ (C = A.bd ∧ d = .str "deed"))
section
variable {K : PySem.W.Frag} {σ : L2.St} {F H : Hp} {ta : TA} {R : List D → D → Prop} {W : List D → Addr → Prop} {D0 : Ends} {tz : TS} {E : XK} {ds : List D} {d : D} {C : Addr}
theorem s_retX (e : Ex F H) (h : EA ta σ F ds) (hW : W ds C) (k : ∀ H2, Ex H H2 → E (.ref C) none H2) : tRet (tCall (spX R W) [] E ta) D0 σ H :=
  h F H (Ex.refl F) e _ fun vs F2 H2 n2 r2 => ⟨F2, ds, n2.fh, by rw [List.append_nil]; exact r2, Or.inr ⟨C, hW, fun H3 e3 => k H3 (n2.h.trans e3)⟩⟩
theorem s_retXN (e : Ex F H) (h : EA ta σ F ds) (hW : W ds C) (k : ∀ H2, Ex H H2 → E (.ref C) none H2) : tRet (tCall (spN R W) [] E ta) D0 σ H :=
  h F H (Ex.refl F) e _ fun vs F2 H2 n2 r2 => ⟨F2, ds, n2.fh, by rw [List.append_nil]; exact r2, Or.inr ⟨C, hW, fun H3 e3 => k H3 (n2.h.trans e3)⟩⟩
/-! texts, with their length -/
structure EDS (te : TE) (σ : L2.St) (F : Hp) (s : Str) (n : Nat) : Prop where
  h : ED te σ F (.str s)
  l : s.length ≤ n
theorem eds_plus {t u : TE} {x y : Str} {n m : Nat} (h1 : EDS t σ F x n) (h2 : EDS u σ F y m) (h : n + m ≤ 1000) : EDS (tOp rAddS t u) σ F (x ++ y) (n + m) := by
  have a := h1.l
  have b := h2.l
  exact ⟨ed_op h1.h h2.h (rd_addS (by omega)), by rw [Str.length_append]; omega⟩
theorem eds_piece {t : TE} {b : Bool} {z : Str} (h : ED t σ F (.bl b)) (hz : z.length ≤ 10) : EDS (tOp rMulS (tC (.str z)) (tCB rIntB (tCons t tNil))) σ F (repS b z) 10 := by
  refine ⟨ed_op ed_str (ed_cb (ea_cons h ea_nil) rl_intB) (rd_mulS (by omega)), ?_⟩
  unfold repS
  split
  · exact hz
  · exact Nat.zero_le _
end
end Bp
namespace Bp
open PySem PySem.Spec PyProof.Rows L2
open Evl (Ex)
section
variable {K : PySem.W.Frag} {σ : L2.St} {F H : Hp} {te : TE} {D0 : Ends} {tz : TS}
theorem ed_neg {i : Int} (h : ED te σ F (.int i)) : ED (tUn (rU fun i => .int (-i)) te) σ F (.int (-i)) := fun F1 H1 e1 e2 Q q => h F1 H1 e1 e2 _ fun v F2 H2 n2 r2 => ⟨i, r2.eint, q _ F2 H2 n2 (.int _)⟩
theorem rd_pow {i j : Int} (h : CPow i j) : RD (rI CPow fun i j => .int (i ^ j.toNat)) F (.int i) (.int j) (.int (i ^ j.toNat)) := rd_I h fun _ => .int _
theorem ed_dnew : ED tDNewK σ F .dct0 := fun F1 H1 e1 e2 Q q => fun p hp => q _ _ _ (Nx.new e2 hp) (.dct0 upd_same)
/-! [f(x) for x in range(n)], each a list of its own -/
structure Cs (F1 H1 : Hp) (Dl : Addr) (g : Nat → List Int) (i : Nat) (H' : Hp) : Prop where
  ex : ∃ (G : Hp) (bs : List Addr), Nw H1 G H' ∧ Ex F1 H' ∧ G Dl = none ∧ H' Dl = some (.lst (bs.map V.ref)) ∧ bs.length = i ∧ bs.Nodup ∧ ∀ (j : Nat) b, bs[j]? = some b → G b = some (.lst ((g j).map V.int))
  h0 : H1 Dl = none
  f0 : F1 Dl = none
theorem q_lcS {n : Int} {ta : TA} {j i : Nat} {ws : List Nat} (g : Nat → List Int) (e : Ex F H) (h : EA ta σ F [.int n]) (hz : 0 ≤ n ∧ n < 50000) (hw : ∀ x, wipe ((wipe σ ws).set j (some x)) ws = wipe σ ws)
    (he : ∀ (x : Nat) F1, (x : Int) < n → Ex F F1 → EN te ((wipe σ ws).set j (some (.int (x : Int)))) F1 (li (g x)))
    (q : ∀ (a : Addr) (bs : List Addr) (G H2 : Hp), Nw H G H2 → G a = some (.lst (bs.map V.ref)) → bs.length = n.toNat → bs.Nodup → (∀ (j : Nat) b, bs[j]? = some b → b ≠ a ∧ G b = some (.lst ((g j).map V.int))) → tz D0 (σ.set i (some (.ref a))) H2) :
    tSeq (tAsg (tLc (iRng1 ta) (gName j) tYes te ws) (gName i)) tz D0 σ H := h F H (Ex.refl F) e _ fun vs F1 H1 n1 r1 => by
  obtain ⟨v, us, rfl, h1, h2⟩ := r1.uncons
  rw [h2.unnil, h1.eint]
  refine ⟨n, rfl, by omega, by omega, fun Dl hD => ?_⟩
  refine lc_range (lo := 0) (n := n.toNat) (fun i H' => Cs F1 H1 Dl g i H') ⟨⟨noH, [], (Nw.zero H1).skip (Evl.Ex.new hD), n1.fh.trans (Evl.Ex.new hD), rfl, upd_same, rfl, List.nodup_nil, fun j b h => by simp at h⟩, hD, Evl.fresh_back n1.fh hD⟩ (fun i H' hi p => ⟨hw _, ?_⟩) (fun H' p => ?_)
  · have e0 : (0 : Int) + (i : Int) = (i : Int) := Int.zero_add _
    rw [e0]
    obtain ⟨⟨G, bs, nw, e, f, h, hl, nd, hb⟩, h0, f0⟩ := p
    show te _ H' _
    refine he i F1 (by omega) n1.f F1 H' (Ex.refl F1) e _ fun v G3 H3 n3 r3 => ?_
    obtain ⟨b, ws', rfl, hb3, hr3⟩ := r3.list
    rw [hr3.eints] at hb3
    have hbn : H' b = none := n3.n b (by rw [hb3]; exact fun z => nomatch z)
    have bD : b ≠ Dl := fun z => by rw [z, h] at hbn; cases hbn
    have g3D : G3 Dl = none := Classical.byContradiction fun z => by have := n3.n Dl z; rw [h] at this; cases this
    have gD : un G G3 Dl = none := Classical.byContradiction fun z => (un_some z).elim (fun k => k f) (fun k => k g3D)
    have nu := nw.join n3
    have h3 := n3.h _ _ h
    refine ⟨_, h3, Evl.sz_lt (by rw [List.length_map]; omega), ⟨⟨un G G3, bs ++ [b], ⟨Evl.Ex.mut nu.h h0, Evl.Ex.mut nu.g gD, nu.n⟩, Evl.Ex.mut (e.trans n3.h) f0, gD, by rw [List.map_append]; exact upd_same, by rw [List.length_append, hl]; rfl, ?_, fun j' b' hj => ?_⟩, h0, f0⟩⟩
    · refine List.nodup_append.mpr ⟨nd, by simp, fun x hx y hy => ?_⟩
      obtain rfl := List.mem_singleton.mp hy
      obtain ⟨j', hj'⟩ := List.getElem?_of_mem hx
      have := hb j' x hj'
      intro z
      rw [← z] at hbn
      rw [nw.g _ _ this] at hbn
      cases hbn
    · by_cases hlt : j' < bs.length
      · rw [List.getElem?_append_left hlt] at hj
        exact un_l _ _ (hb j' b' hj)
      · rw [List.getElem?_append_right (by omega)] at hj
        have e1 : j' = bs.length := by
          have := (List.getElem?_eq_some_iff.mp hj).1
          simp at this; omega
        subst e1
        have : b' = b := by simpa using hj.symm
        rw [this, hl]
        exact un_r (nw.dis n3) _ _ hb3
  · obtain ⟨⟨G, bs, nw, e, f, h, hl, nd, hb⟩, h0, f0⟩ := p
    refine q Dl bs (upd G Dl (.lst (bs.map V.ref))) H' (Nw.pre n1.h ⟨nw.h, fun b u k => ?_, fun b k => ?_⟩) upd_same hl nd fun j b hj => ?_
    · by_cases hb : b = Dl
      · subst hb; rw [upd_same] at k; rw [h]; exact k
      · rw [upd_ne hb] at k; exact nw.g b u k
    · by_cases hb : b = Dl
      · rw [hb]; exact h0
      · rw [upd_ne hb] at k; exact nw.n b k
    · have := hb j b hj
      have ne : b ≠ Dl := fun z => by rw [z, f] at this; cases this
      exact ⟨ne, by rw [upd_ne ne]; exact this⟩
end
theorem led_len (e : List (List Int)) (g : List Int) : (ledOf e g).length ≤ e.length := by
  unfold ledOf
  refine Nat.le_trans (List.length_filter_le _ _) ?_
  unfold rng
  rw [List.length_map, List.length_range]; omega
/-! ## what the law hands that is no guess, no deed -/
def oddD (n : Int) : List D := [.int n, .int (-1), .bl true, .non, .str "0", .int 1000000000, .tup [.int 0], .bl false]
theorem odd_ok {n : Nat} {y : D} (hn : n ≤ 5) (h : y ∈ oddD n) : noObj y = true ∧ isWhole y n = false := by
  simp only [oddD, List.mem_cons, List.not_mem_nil, or_false] at h
  rcases h with rfl | rfl | rfl | rfl | rfl | rfl | rfl | rfl <;> refine ⟨rfl, ?_⟩ <;> simp [isWhole]
  omega
def wrongD (m : Int) (g : List Int) : List D := [.lst [], .lst [.int 0, .int 0], .lst [.int m], .lst [.int (-1)], .lst [.bl true], .tup [.int 0], .non, .str "0", .int 0, li (g ++ [m]), li ([m - 1] ++ g), li (g ++ g.take 1)] ++
  [.lst [.non], .lst [.str "0"], .lst [.lst [.int 0]], .lst [.int 0, .non], .lst [.int 0, .dct0], .lst [.bl false], .lst [.bl false, .int 1]]
theorem wrong_ok {n : Nat} {g : List Int} {y : D} (hg : Up n g) (hne : g ≠ []) (h : y ∈ wrongD n g) : noObjs y = true ∧ isGuess y n = false := by
  simp only [wrongD, List.mem_append, List.mem_cons, List.not_mem_nil, or_false] at h
  have no : ∀ xs : List Int, ¬ Up n xs → noObjs (li xs) = true ∧ isGuess (li xs) n = false := fun xs hx => ⟨noObjs_li _, by
    rw [Bool.eq_false_iff]; intro z; exact hx ((isGuess_li (Int.natCast_nonneg _)).mp z).1⟩
  rcases h with (rfl | rfl | rfl | rfl | rfl | rfl | rfl | rfl | rfl | rfl | rfl | rfl) | (rfl | rfl | rfl | rfl | rfl | rfl | rfl)
  · exact ⟨rfl, by simp [isGuess, isNilD]⟩
  · exact no [0, 0] fun z => by have := z.1; simp at this
  · exact no [(n : Int)] fun z => by have := z.2 n (by simp); omega
  · exact no [-1] fun z => by have := z.2 (-1) (by simp); omega
  · exact ⟨rfl, by simp [isGuess, isRising, rises]⟩
  · exact ⟨rfl, by simp [isGuess, isRising]⟩
  · exact ⟨rfl, by simp [isGuess, isRising]⟩
  · exact ⟨rfl, by simp [isGuess, isRising]⟩
  · exact ⟨rfl, by simp [isGuess, isRising]⟩
  · exact no _ fun z => by have := z.2 n (by simp); omega
  · refine no _ fun z => ?_
    cases g with
    | nil => exact hne rfl
    | cons x xs =>
      have h1 := hg.2 x (by simp)
      have h2 := (List.pairwise_cons.mp z.1).1 x (by simp)
      omega
  · refine no _ fun z => ?_
    cases g with
    | nil => exact hne rfl
    | cons x xs =>
      have h2 := (List.pairwise_append.mp z.1).2.2 x (by simp) x (by simp)
      omega
  all_goals exact ⟨rfl, by simp [isGuess, isRising, rises]⟩
theorem at_mem {ds : List D} {i n : Int} (hn : (ds.length : Int) = n) (h0 : 0 < n) : ∃ d, atI ds (i % n) = some d ∧ d ∈ ds := by
  have a := Int.emod_nonneg i (b := n) (by omega)
  have b := Int.emod_lt_of_pos i h0
  have h : (i % n).toNat < ds.length := by omega
  exact ⟨ds[(i % n).toNat], at_nat (j := (i % n).toNat) (by omega) (List.getElem?_eq_getElem h), List.getElem_mem h⟩
theorem okE_hs (l w : List Int) (dd : List (List (List Int))) : okE (.lst [li l, llli dd, li w]) = true := by
  refine Lay.ok (n := 4) ⟨?_, ?_⟩
  · show PyData.canLay0 (.list _) = true
    simp only [PyData.canLay0, toPys, PyData.canLayAll0, (lay_li l).l, (lay_llli dd).l, (lay_li w).l, Bool.and_self]
  · have h1 := (lay_li l).d
    have h2 := (lay_llli dd).d
    have h3 := (lay_li w).d
    show PyData.depth (.list _) ≤ 4
    simp only [PyData.depth, toPys, PyData.depthAll]
    omega
theorem eqD_str (x y : Str) : eqD (.str x) (.str y) = decide (x = y) := by
  show PyData.eqv (.str x) (.str y) = _
  simp only [PyData.eqv]
  by_cases h : x = y <;> simp [h]
end Bp
namespace Bp
open PySem PySem.Spec PyProof.Rows L2
open Evl (Ex)
/-! ## lists of any data -/
section
variable {K : PySem.W.Frag} {σ : L2.St} {F H : Hp} {te ta tb : TE} {D0 : Ends} {tz : TS} {t : TT} {d : D}
theorem ed_listD {ds : List D} (h : ED ta σ F (.lst ds)) : ED (tCB (rListS' K) (tCons ta tNil)) σ F (.lst ds) := fun F1 H1 e1 e2 Q q =>
  h F1 H1 e1 e2 _ fun v F2 H2 n2 r2 => by
    obtain ⟨a, ws, rfl, ha, hr⟩ := r2.list
    exact ⟨a, _, rfl, Or.inl (Or.inl (Or.inl (n2.fh _ _ ha))), fun p hp => q _ _ _ (n2.trans (Nx.new n2.fh hp)) (Rp.mkL upd_same (hr.mono (Ex.new (Evl.fresh_back n2.fh hp))))⟩
def rTupO (K : PySem.W.Frag) : List V → Hp → VK → Prop := fun xs H Q => ∃ p ys, xs = [.ref p] ∧ ((SqL K H p ys ∧ ∀ l, H l = none → Q (.ref l) (upd H l (.tup ys))) ∨ (SqT K H p ys ∧ Q (.ref p) H))
theorem tup_K {X : Cx} (K : PySem.W.Frag) (h : X.K = K := by rfl) : CallR X (.type "tuple") (rTupO K) := by subst h; exact call_tuple_of
theorem ed_tuple {ds : List D} (h : ED ta σ F (.lst ds)) : ED (tCB (rTupO K) (tCons ta tNil)) σ F (.tup ds) := fun F1 H1 e1 e2 Q q =>
  h F1 H1 e1 e2 _ fun v F2 H2 n2 r2 => by
    obtain ⟨a, ws, rfl, ha, hr⟩ := r2.list
    exact ⟨a, _, rfl, Or.inl ⟨Evl.sq_of (n2.fh _ _ ha), fun p hp => q _ _ _ (n2.trans (Nx.new n2.fh hp)) (Rp.mkT upd_same (hr.mono (Ex.new (Evl.fresh_back n2.fh hp))))⟩⟩
theorem ed_listRg {n : Int} (h : ED ta σ F (.int n)) (h0 : 0 ≤ n) (h1 : n ≤ 1000) : ED (tLstRg (tRg1 ta)) σ F (li (rng n)) := fun F1 H1 e1 e2 Q q =>
  h F1 H1 e1 e2 _ fun v F2 H2 n2 r2 => by
    refine ⟨n, r2.eint, RgOk.of_le (by omega) (by omega) (by omega) h0, fun p hp => q _ _ _ (n2.trans (Nx.new n2.fh hp)) (Rp.mkL upd_same ?_)⟩
    have : rgV 0 n = (rng n).map V.int := by
      unfold rgV rng
      rw [List.map_map]
      have e : (n - 0).toNat = n.toNat := by congr 1; omega
      rw [e]
      refine List.map_congr_left fun i _ => ?_
      show V.int (0 + (i : Int)) = V.int i
      rw [Int.zero_add]
    rw [this]
    exact Rps.ints _
theorem rd_repD {xs : List D} {k : Int} (h0 : 0 ≤ k) (h1 : k ≤ 100) (hl : xs.length ≤ 100) : RD rMulA F (.lst xs) (.int k) (.lst (List.replicate k.toNat xs).flatten) := rd_or2 fun F1 H1 v u a e2 rv ru Q q => by
  obtain ⟨p, ws, rfl, ha, hr⟩ := rv.list
  have hn := hr.n
  refine ⟨p, k, ws, rfl, ru.eint, e2 _ _ ha, by omega, by omega, Evl.sz_of ?_, fun l hl' => q _ _ _ (Nx.new e2 hl') (Rp.mkL upd_same ?_)⟩
  · have : ws.length * k.toNat ≤ 100 * 100 := Nat.mul_le_mul (by omega) (by omega)
    omega
  · have hr' := hr.mono (Ex.new (Evl.fresh_back e2 hl') (o := .lst (List.replicate k.toNat ws).flatten))
    generalize upd F1 l (.lst (List.replicate k.toNat ws).flatten) = F2 at hr'
    generalize k.toNat = m
    induction m with
    | zero => exact Rps.nil
    | succ m ih =>
      rw [List.replicate_succ, List.flatten_cons, List.replicate_succ, List.flatten_cons]
      exact Rps.append hr' ih
theorem ed_ifU {b : Bool} (h : ET t σ F b) (h1 : b = true → ED ta σ F d) (h2 : b = false → ED tb σ F d) : ED (tIf t ta tb) σ F d := fun F1 H1 e1 e2 Q q => h F1 H1 e1 e2 _ fun F2 H2 n2 => by
  cases b with
  | true => exact h1 rfl F2 H2 (e1.trans n2.f) n2.fh Q fun v F3 H3 n3 r3 => q v F3 H3 (n2.trans n3) r3
  | false => exact h2 rfl F2 H2 (e1.trans n2.f) n2.fh Q fun v F3 H3 n3 r3 => q v F3 H3 (n2.trans n3) r3
theorem en_if {b : Bool} (h : ET t σ F b) (h1 : b = true → EN ta σ F d) (h2 : b = false → EN tb σ F d) : EN (tIf t ta tb) σ F d := fun F1 H1 e1 e2 Q q => h F1 H1 e1 e2 _ fun F2 H2 n2 => by
  cases b with
  | true => exact h1 rfl F2 H2 (e1.trans n2.f) n2.fh Q fun v G H3 n3 r3 => q v G H3 (Nw.pre n2.h n3) r3
  | false => exact h2 rfl F2 H2 (e1.trans n2.f) n2.fh Q fun v G H3 n3 r3 => q v G H3 (Nw.pre n2.h n3) r3
theorem q_tup3 {i j k : Nat} {x y z : D} (e : Ex F H) (h : ED te σ F (.tup [x, y, z])) (q : ∀ v u w F1 H1, Nx F H F1 H1 → Rp F1 v x → Rp F1 u y → Rp F1 w z → tz D0 (((σ.set i (some v)).set j (some u)).set k (some w)) H1) :
    tSeq (tAsg te (gTup K 3 (gCons (gName i) (gCons (gName j) (gCons (gName k) gNil))))) tz D0 σ H := h F H (Ex.refl F) e _ fun v F1 H1 n1 r1 => by
  obtain ⟨a, us, rfl, ha, hr⟩ := r1.tuple
  obtain ⟨v0, _, rfl, h0, hr⟩ := hr.uncons
  obtain ⟨v1, _, rfl, h1, hr⟩ := hr.uncons
  obtain ⟨v2, _, rfl, h2, hr⟩ := hr.uncons
  obtain rfl := hr.unnil
  exact ⟨a, _, rfl, Evl.st_of (n1.fh _ _ ha), rfl, v0, _, rfl, v1, _, rfl, v2, _, rfl, rfl, q v0 v1 v2 F1 H1 n1 h0 h1 h2⟩
end
theorem eqD_nilD (xs : List D) : eqD (.lst xs) (.lst []) = decide (xs = []) := by
  show PyData.eqv (.list _) (.list _) = _
  simp only [PyData.eqv]
  cases xs <;> simp [toPys, PyData.eqvAll]
theorem lay_lstD {n : Nat} : ∀ {xs : List D}, (∀ x ∈ xs, Lay x n) → Lay (.lst xs) (n + 1) := fun {xs} h => by
  have h1 : PyData.canLayAll0 (toPys xs) = true := by
    induction xs with
    | nil => simp [toPys, PyData.canLayAll0]
    | cons x xs ih => simp [toPys, PyData.canLayAll0, (h x (by simp)).l, ih fun y hy => h y (by simp [hy])]
  have h2 : PyData.depthAll (toPys xs) ≤ n := by
    induction xs with
    | nil => simp [toPys, PyData.depthAll]
    | cons x xs ih =>
      have := (h x (by simp)).d
      have := ih (fun y hy => h y (by simp [hy])) (by simp [toPys, PyData.canLayAll0] at h1; exact h1.2)
      simp only [toPys, PyData.depthAll]; omega
  refine ⟨by simpa [D.toPy, PyData.canLay0] using h1, ?_⟩
  simp only [D.toPy, PyData.depth]; omega
theorem lay_tupD {n : Nat} {xs : List D} (h : ∀ x ∈ xs, Lay x n) : Lay (.tup xs) (n + 1) := by
  have k := lay_lstD h
  exact ⟨by have := k.l; simpa [D.toPy, PyData.canLay0] using this, by have := k.d; simpa [D.toPy, PyData.depth] using this⟩
theorem Lay.up {d : D} {n m : Nat} (h : Lay d n) (hm : n ≤ m) : Lay d m := ⟨h.l, Nat.le_trans h.d hm⟩
/-! ## data of bounded size: lists to that depth -/
def lenOk : D → Bool
  | .lst xs => decide (xs.length ≤ 300)
  | _ => true
def smb : Nat → D → Bool
  | 0, d => noObj d && lenOk d
  | n + 1, d => noObj d && lenOk d && (match d with | .lst xs => xs.all (smb n) | _ => true)
structure Dt (n : Nat) (d : D) : Prop where
  s : smb n d = true
  l : Lay d (n + 6)
theorem smb_obj {n : Nat} {d : D} (h : smb n d = true) : noObj d = true ∧ lenOk d = true := by
  cases n with
  | zero => exact Bool.and_eq_true_iff.mp h
  | succ n => unfold smb at h; exact Bool.and_eq_true_iff.mp (Bool.and_eq_true_iff.mp h).1
theorem Dt.no {n : Nat} {d : D} (h : Dt n d) : noObj d = true := (smb_obj h.s).1
theorem smb_mem {n : Nat} {xs : List D} (h : smb (n + 1) (.lst xs) = true) {d : D} (hd : d ∈ xs) : smb n d = true := by
  unfold smb at h
  exact List.all_eq_true.mp (Bool.and_eq_true_iff.mp h).2 d hd
theorem Dt.len {n : Nat} {xs : List D} (h : Dt n (.lst xs)) : xs.length ≤ 300 := of_decide_eq_true (smb_obj h.s).2
theorem smb_noO : ∀ {n : Nat} {d : D}, smb n d = true → noO n d = true
  | 0, d, h => (smb_obj h).1
  | n + 1, d, h => by
    have h1 := (smb_obj h).1
    unfold noO
    rw [h1, Bool.true_and]
    cases d <;> first | rfl | skip
    rename_i xs
    exact List.all_eq_true.mpr fun x hx => smb_noO (smb_mem h hx)
theorem Dt.noO {n : Nat} {d : D} (h : Dt n d) : Bp.noO n d = true := smb_noO h.s
theorem Dt.ok {n : Nat} {d : D} (h : Dt n d) (hn : n ≤ 10 := by decide) : okE d = true := (h.l.up (show n + 6 ≤ 64 by omega)).ok (by decide)
theorem lay_mem {n : Nat} {xs : List D} (h : Lay (.lst xs) (n + 1)) {d : D} (hd : d ∈ xs) : Lay d n := by
  have h1 : PyData.canLayAll0 (toPys xs) = true := by have := h.l; simpa [D.toPy, PyData.canLay0] using this
  have h2 : PyData.depthAll (toPys xs) ≤ n := by have := h.d; simp only [D.toPy, PyData.depth] at this; omega
  clear h
  induction xs with
  | nil => cases hd
  | cons x xs ih =>
    simp only [toPys, PyData.canLayAll0, Bool.and_eq_true] at h1
    simp only [toPys, PyData.depthAll] at h2
    rcases List.mem_cons.mp hd with rfl | hd
    · exact ⟨h1.1, by omega⟩
    · exact ih hd h1.2 (by omega)
theorem Dt.mem {n : Nat} {xs : List D} (h : Dt (n + 1) (.lst xs)) {d : D} (hd : d ∈ xs) : Dt n d := ⟨smb_mem h.s hd, lay_mem (h.l.up (by omega)) hd⟩
theorem dt_lst {n : Nat} {xs : List D} (h : ∀ x ∈ xs, Dt n x) (hl : xs.length ≤ 300) : Dt (n + 1) (.lst xs) := by
  refine ⟨?_, (lay_lstD fun x hx => (h x hx).l).up (by omega)⟩
  unfold smb
  rw [Bool.and_eq_true, Bool.and_eq_true]
  exact ⟨⟨rfl, decide_eq_true hl⟩, List.all_eq_true.mpr fun x hx => (h x hx).s⟩
/-- what is no list -/
def leaf : D → Bool
  | .lst _ => false
  | d => noObj d
theorem dt_leaf {d : D} (h : leaf d = true) {k : Nat} (l : Lay d k) (hk : k ≤ 6) {n : Nat} : Dt n d := by
  refine ⟨?_, l.up (by omega)⟩
  have h1 : noObj d = true ∧ lenOk d = true := by cases d <;> first | exact ⟨h, rfl⟩ | cases h
  cases n with
  | zero => exact Bool.and_eq_true_iff.mpr h1
  | succ n =>
    unfold smb
    rw [h1.1, h1.2]
    cases d <;> first | rfl | cases h
theorem dt_int {n : Nat} (i : Int) : Dt n (.int i) := dt_leaf rfl (lay_int i) (by decide)
theorem dt_bl {n : Nat} (b : Bool) : Dt n (.bl b) := dt_leaf rfl (k := 0) ⟨rfl, by simp [D.toPy, PyData.depth]⟩ (by decide)
theorem dt_non {n : Nat} : Dt n .non := dt_leaf rfl (k := 0) ⟨rfl, by simp [D.toPy, PyData.depth]⟩ (by decide)
theorem dt_str {n : Nat} {s : Str} (h : (D.str s).toPy.canLay0 = true) : Dt n (.str s) := dt_leaf rfl (k := 0) ⟨h, by simp [D.toPy, PyData.depth]⟩ (by decide)
theorem dt_tup {n : Nat} {xs : List D} {k : Nat} (h : ∀ x ∈ xs, Lay x k) (hk : k ≤ 5) : Dt n (.tup xs) := dt_leaf rfl (lay_tupD h) (by omega)
theorem dt_nil {n : Nat} : Dt n (.lst []) := by
  refine ⟨?_, (lay_lstD (n := 0) (by simp)).up (by omega)⟩
  cases n <;> rfl
theorem dt_li {n : Nat} {xs : List Int} (hl : xs.length ≤ 300) : Dt n (li xs) := by
  cases n with
  | zero => exact ⟨by show (true && decide _) = true; rw [List.length_map, decide_eq_true hl]; rfl, (lay_li xs).up (by omega)⟩
  | succ n => exact dt_lst (fun x hx => by obtain ⟨i, _, rfl⟩ := List.mem_map.mp hx; exact dt_int i) (by rw [List.length_map]; exact hl)
theorem dt_lli {xs : List (List Int)} {n : Nat} (hl : xs.length ≤ 300) (h : ∀ x ∈ xs, x.length ≤ 300) : Dt (n + 1) (lli xs) := dt_lst (fun x hx => by obtain ⟨i, hi, rfl⟩ := List.mem_map.mp hx; exact dt_li (h i hi)) (by rw [List.length_map]; exact hl)
theorem dt_llli {xs : List (List (List Int))} {n : Nat} (hl : xs.length ≤ 300) (h : ∀ x ∈ xs, x.length ≤ 300 ∧ ∀ y ∈ x, y.length ≤ 300) : Dt (n + 2) (llli xs) := dt_lst (fun x hx => by obtain ⟨i, hi, rfl⟩ := List.mem_map.mp hx; exact dt_lli (h i hi).1 (h i hi).2) (by rw [List.length_map]; exact hl)
end Bp
namespace Bp
open PySem PySem.Spec PyProof.Rows L2
open Evl (Ex)
def isL : D → Bool
  | .lst _ => true
  | _ => false
theorem kit_lst : ∀ {d : D}, noObj d = true → kitB (tyD d) "list" = some (isL d)
  | .non, _ => by show kitB "NoneType" "list" = some false; decide +kernel
  | .bl _, _ => by show kitB "bool" "list" = some false; decide +kernel
  | .int _, _ => by show kitB "int" "list" = some false; decide +kernel
  | .str _, _ => by show kitB "str" "list" = some false; decide +kernel
  | .lst _, _ => by show kitB "list" "list" = some true; decide +kernel
  | .tup _, _ => by show kitB "tuple" "list" = some false; decide +kernel
  | .dct0, _ => by show kitB "dict" "list" = some false; decide +kernel
theorem isL_yes {d : D} (h : isL d = true) : ∃ xs, d = .lst xs := by cases d <;> first | exact ⟨_, rfl⟩ | cases h
/-! ## law k03 -/
def putD : List D → Int → D → List D
  | [], _, y => [y]
  | x :: xs, a, y => cutL (x :: xs) none (some (a % ((x :: xs).length : Int))) ++ [y] ++ cutL (x :: xs) (some (a % ((x :: xs).length : Int) + 1)) none
theorem cutL_mem {xs : List D} {lo hi : Option Int} {z : D} (h : z ∈ cutL xs lo hi) : z ∈ xs := List.mem_of_mem_drop (List.mem_of_mem_take h)
theorem cutL_len {xs : List D} {lo hi : Option Int} : (cutL xs lo hi).length ≤ xs.length := by
  unfold cutL
  rw [List.length_take, List.length_drop]; omega
theorem put_mem {xs : List D} {a : Int} {y z : D} (h : z ∈ putD xs a y) : z ∈ xs ∨ z = y := by
  cases xs with
  | nil => exact .inr (List.mem_singleton.mp h)
  | cons x xs =>
    rcases List.mem_append.mp h with h | h
    · rcases List.mem_append.mp h with h | h
      · exact .inl (cutL_mem h)
      · exact .inr (List.mem_singleton.mp h)
    · exact .inl (cutL_mem h)
theorem put_len {xs : List D} {a : Int} {y : D} : (putD xs a y).length ≤ 2 * xs.length + 1 := by
  cases xs with
  | nil => exact Nat.le_refl _
  | cons x xs =>
    have h1 := cutL_len (xs := x :: xs) (lo := none) (hi := some (a % ((x :: xs).length : Int)))
    have h2 := cutL_len (xs := x :: xs) (lo := some (a % ((x :: xs).length : Int) + 1)) (hi := none)
    unfold putD
    rw [List.length_append, List.length_append, List.length_singleton]
    omega
theorem dt_put {n : Nat} {xs : List D} {a : Int} {y : D} (h : Dt (n + 1) (.lst xs)) (hl : xs.length ≤ 100) (hy : Dt n y) : Dt (n + 1) (.lst (putD xs a y)) :=
  dt_lst (fun z hz => (put_mem hz).elim (fun k => h.mem k) fun k => k ▸ hy) (by have := put_len (xs := xs) (a := a) (y := y); omega)
def R_put (ds : List D) (d : D) : Prop := ∃ xs a y, ds = [.lst xs, .int a, y] ∧ okE (.lst xs) = true ∧ xs.length ≤ 300 ∧ d = .lst (putD xs a y)
def R_isr (ds : List D) (d : D) : Prop := ∃ x n, ds = [x, .int n] ∧ smb 1 x = true ∧ 0 ≤ n ∧ d = .bl (isRising x n)
def R_good (ds : List D) (d : D) : Prop := ∃ l dd w, ds = [l, dd, w] ∧ Dt 1 l ∧ Dt 3 dd ∧ Dt 1 w ∧ d = .bl (isHouse l dd w)
theorem up_snoc {n : Int} {ns : List Int} {j : Int} (h : Up n ns) (h0 : 0 ≤ j) (h1 : j < n) (hp : 0 < ns.length → ns.getD (ns.length - 1) 0 < j) : Up n (ns ++ [j]) := by
  refine ⟨List.pairwise_append.mpr ⟨h.1, by simp, fun a ha b hb => ?_⟩, fun x hx => ?_⟩
  · obtain rfl := List.mem_singleton.mp hb
    obtain ⟨k, hk⟩ := List.getElem?_of_mem ha
    obtain ⟨hk1, hk2⟩ := List.getElem?_eq_some_iff.mp hk
    have hl : 0 < ns.length := by omega
    have hq := hp hl
    rw [List.getD_eq_getElem?_getD, List.getElem?_eq_getElem (show ns.length - 1 < ns.length by omega)] at hq
    have hq : ns[ns.length - 1] < b := hq
    by_cases e : k = ns.length - 1
    · subst e; rw [hk2] at hq; exact hq
    · have := (List.pairwise_iff_getElem.mp h.1) k (ns.length - 1) hk1 (by omega) (by omega)
      rw [hk2] at this; omega
  · rcases List.mem_append.mp hx with hx | hx
    · exact h.2 x hx
    · obtain rfl := List.mem_singleton.mp hx; exact ⟨h0, h1⟩
theorem eqD_isNil {d : D} : eqD d (.lst []) = isNilD d := by
  cases d with
  | lst xs => rw [eqD_nilD]; cases xs <;> simp [isNilD]
  | _ => show PyData.eqv _ (.list []) = false; simp [D.toPy, PyData.eqv]
theorem whole_not (j : Int) : (decide (j < 0) || decide (9 < j)) = !isWhole (.int j) 10 := by
  show _ = !(decide (0 ≤ j) && decide (j < 10))
  rw [Bool.eq_iff_iff]; simp; omega
theorem entry_not (x : D) (n : Int) : (isNilD x || !isRising x n) = !isEntry x n := by
  unfold isEntry isGuess
  cases isNilD x <;> cases isRising x n <;> rfl
theorem filter_due {f : D → Bool} {xs : List D} : (decide (xs.filter (fun x => !f x) = [])) = xs.all f := by
  rw [Bool.eq_iff_iff, decide_eq_true_eq, List.filter_eq_nil_iff, List.all_eq_true]
  exact ⟨fun h x hx => by have := h x hx; simpa using this, fun h x hx => by have := h x hx; simpa using this⟩
/-- a promise of one answer or, where the argument is of whole numbers, of one made anew -/
def spC (emb : Nat → D → D → Prop) : Sp := fun _ _ _ _ => False
def spCopy (E1 : D → Prop) (n : Nat) : Sp := fun vs H Q _ => ∃ F x, Ex F H ∧ Rps F vs [x] ∧ Dt n x ∧ ((∀ v F2 H2, Nx F H F2 H2 → Rp F2 v x → Q v H2) ∨ (E1 x ∧ ∀ v G H2, Nw H G H2 → Rp G v x → Q v H2))
def isLli (x : D) : Prop := ∃ ns, x = lli ns
def isLlli (x : D) : Prop := ∃ ns, x = llli ns
section
variable {σ : L2.St} {F : Hp} {E : XK} {ta : TA} {E1 : D → Prop} {n : Nat} {x : D}
theorem ed_copy (h : EA ta σ F [x]) (hx : Dt n x) : ED (tCall (spCopy E1 n) [] E ta) σ F x := fun F1 H1 e1 e2 Q q =>
  h F1 H1 e1 e2 _ fun vs F2 H2 n2 r2 => ⟨F2, x, n2.fh, by rw [List.append_nil]; exact r2, hx, .inl fun v F3 H3 n3 r3 => q v F3 H3 (n2.trans n3) r3⟩
theorem en_copy (h : EA ta σ F [x]) (hx : Dt n x) (hE : E1 x) : EN (tCall (spCopy E1 n) [] E ta) σ F x := fun F1 H1 e1 e2 Q q =>
  h F1 H1 e1 e2 _ fun vs F2 H2 n2 r2 => ⟨F2, x, n2.fh, by rw [List.append_nil]; exact r2, hx, .inr ⟨hE, fun v G H3 n3 r3 => q v G H3 (Nw.pre n2.h n3) r3⟩⟩
end
end Bp
namespace Bp
open PySem PySem.Spec PyProof.Rows L2
open Evl (Ex)
structure EAD (ta : TA) (σ : L2.St) (F : Hp) (ds : List D) (n : Nat) : Prop where
  h : EA ta σ F ds
  a : ∀ y ∈ ds, Dt n y
section
variable {K : PySem.W.Frag} {σ : L2.St} {F H : Hp} {te tb t1 t2 : TE} {ta tr : TA} {D0 : Ends} {tz : TS} {d : D} {ds xs : List D} {n j : Nat} {i k a : Int} {E : XK}
theorem ead_nil : EAD tNil σ F [] n := ⟨ea_nil, fun _ h => nomatch h⟩
theorem ead_cons (h : ED te σ F d) (dt : Dt n d) (r : EAD tr σ F ds n) : EAD (tCons te tr) σ F (d :: ds) n := ⟨ea_cons h r.h, List.forall_mem_cons.mpr ⟨dt, r.a⟩⟩
theorem ed_ixM (h : ED te σ F (.lst ds)) (hy : atI ds (i % k) = some d) (hb : ED tb σ F (.int (i % k))) : ED (tOp (rIx K) te tb) σ F d := ed_op h hb (rd_ixl hy)
theorem s_ix (e : Ex F H) (h : ED te σ F (.lst ds)) (all : ∀ y ∈ ds, Dt n y) (hk : (ds.length : Int) = k) (h0 : 0 < k) (hb : ED tb σ F (.int (i % k)))
    (q : ∀ y, Dt n y → ∀ v F1 H1, Nx F H F1 H1 → Rp F1 v y → D0.nx (σ.set j (some v)) H1) : tAsg (tOp (rIx K) te tb) (gName j) D0 σ H := by
  obtain ⟨y, hy, my⟩ := at_mem (i := i) hk h0
  exact s_asg e (ed_ixM h hy hb) (q y (all y my))
theorem q_ix (e : Ex F H) (h : ED te σ F (.lst ds)) (all : ∀ y ∈ ds, Dt n y) (hk : (ds.length : Int) = k) (h0 : 0 < k) (hb : ED tb σ F (.int (i % k)))
    (q : ∀ y, Dt n y → ∀ v F1 H1, Nx F H F1 H1 → Rp F1 v y → tz D0 (σ.set j (some v)) H1) : tSeq (tAsg (tOp (rIx K) te tb) (gName j)) tz D0 σ H := by
  obtain ⟨y, hy, my⟩ := at_mem (i := i) hk h0
  exact q_asg e (ed_ixM h hy hb) (q y (all y my))
theorem s_ixL (e : Ex F H) (h : EAD ta σ F ds n) (hk : (ds.length : Int) = k) (h0 : 0 < k ∧ k < 1000) (hb : ED tb σ F (.int (i % k)))
    (q : ∀ y, Dt n y → ∀ v F1 H1, Nx F H F1 H1 → Rp F1 v y → D0.nx (σ.set j (some v)) H1) : tAsg (tOp (rIx K) (tLst ta) tb) (gName j) D0 σ H := s_ix e (ed_lst h.h (by omega)) h.a hk h0.1 hb q
theorem q_ixL (e : Ex F H) (h : EAD ta σ F ds n) (hk : (ds.length : Int) = k) (h0 : 0 < k ∧ k < 1000) (hb : ED tb σ F (.int (i % k)))
    (q : ∀ y, Dt n y → ∀ v F1 H1, Nx F H F1 H1 → Rp F1 v y → tz D0 (σ.set j (some v)) H1) : tSeq (tAsg (tOp (rIx K) (tLst ta) tb) (gName j)) tz D0 σ H := q_ix e (ed_lst h.h (by omega)) h.a hk h0.1 hb q
theorem q_lst (e : Ex F H) (h : EAD ta σ F ds n) (hk : ds.length ≤ 1000) (q : (∀ y ∈ ds, Dt n y) → ∀ v F1 H1, Nx F H F1 H1 → Rp F1 v (.lst ds) → tz D0 (σ.set j (some v)) H1) : tSeq (tAsg (tLst ta) (gName j)) tz D0 σ H := q_asg e (ed_lst h.h (by omega)) (q h.a)
/-- put(xs, a, [..][i % k]) -/
theorem s_putL (e : Ex F H) (h1 : ED t1 σ F (.lst xs)) (h2 : ED t2 σ F (.int a)) (h : EAD ta σ F ds n) (hk : (ds.length : Int) = k) (h0 : 0 < k ∧ k < 1000) (hb : ED tb σ F (.int (i % k))) (hx : Dt (n + 1) (.lst xs)) (hn : n ≤ 5) (hl : xs.length ≤ 100)
    (q : ∀ y, Dt (n + 1) y → ∀ v F1 H1, Nx F H F1 H1 → Rp F1 v y → D0.nx (σ.set j (some v)) H1) : tAsg (tCall (spR R_put) [] E (tCons t1 (tCons t2 (tCons (tOp (rIx K) (tLst ta) tb) tNil)))) (gName j) D0 σ H := by
  obtain ⟨y, hy, my⟩ := at_mem (i := i) hk h0.1
  exact s_asg e (ed_call (ea_cons h1 (ea_cons h2 (ea_cons (ed_ixM (ed_lst h.h (by omega)) hy hb) ea_nil))) ⟨xs, a, y, rfl, hx.ok (by omega), by omega, rfl⟩) (q _ (dt_put hx hl (h.a y my)))
end
def R_refH (A : Ad) (ds : List D) (d : D) : Prop := ∃ l dd w, ds = [l, dd, w] ∧ noO 1 l = true ∧ noO 3 dd = true ∧ noO 1 w = true ∧ isHouse l dd w = false ∧ d = .bl true
def spChg : Sp := fun vs H Q _ => ∃ F L DD W way at' cell, Ex F H ∧ Rps F vs [.tup [li L, llli DD, li W], .int way, .int at', .int cell] ∧ Hs L DD W ∧
  ∀ l dd w, Dt 1 l → Dt 3 dd → Dt 1 w → ∀ v F2 H2, Nx F H F2 H2 → Rp F2 v (.tup [l, dd, w]) → Q v H2
end Bp
namespace Bp
open PySem PySem.Spec PyProof.Rows L2
open Evl (Ex)
section
variable {K : PySem.W.Frag} {σ : L2.St} {F H : Hp} {te tv : TE} {ta : TA} {D0 : Ends} {tz tu : TS} {t : TT} {ds : List D} {d : D} {i : Nat}
theorem q_whenJ {b : Bool} {P : L2.St → Hp → Prop} (k : ∀ σ' H', P σ' H' → tz D0 σ' H') (e : Ex F H) (h : ET t σ F b) (h1 : b = true → ∀ H1, Nx F H F H1 → ∀ D1 : Ends, (∀ σ' H', P σ' H' → D1.nx σ' H') → tu D1 σ H1) (h2 : b = false → ∀ H1, Nx F H F H1 → P σ H1) :
    tSeq (tIfS t tu tNext) tz D0 σ H := q_when e h (fun hb H1 n => h1 hb H1 n _ k) (fun hb H1 n => k _ _ (h2 hb H1 n))
theorem q_lstN (e : Ex F H) (h : EAN ta σ F ds) (hl : ds.length ≤ 100000) (k : ∀ vs G H1, Nw H G H1 → Rps G vs ds → ∀ p, H1 p = none → tz D0 (σ.set i (some (.ref p))) (upd H1 p (.lst vs))) : tSeq (tAsg (tLst ta) (gName i)) tz D0 σ H :=
  h F H (Ex.refl F) e _ fun vs G H1 n r => ⟨Evl.sz_of (by rw [r.n]; exact hl), fun p hp => k vs G H1 n r p hp⟩
theorem q_lstD (e : Ex F H) (h : EA ta σ F ds) (hl : ds.length ≤ 100000) (k : ∀ vs F1 H1, Nx F H F1 H1 → Rps F1 vs ds → ∀ p, H1 p = none → tz D0 (σ.set i (some (.ref p))) (upd H1 p (.lst vs))) : tSeq (tAsg (tLst ta) (gName i)) tz D0 σ H :=
  h F H (Ex.refl F) e _ fun vs G H1 n r => ⟨Evl.sz_of (by rw [r.n]; exact hl), fun p hp => k vs G H1 n r p hp⟩
theorem q_appN {l : Addr} {vs : List V} (e : Ex F H) (hi : σ[i]? = some (some (.ref l))) (hl : H l = some (.lst vs)) (hz : vs.length < 100000) (h : EN te σ F d)
    (k : ∀ v G H1, Nw H G H1 → Rp G v d → tz D0 σ (upd H1 l (.lst (vs ++ [v])))) : tSeq (tDrop (tBM K "list" rAppend (tVar i) (tCons te tNil))) tz D0 σ H :=
  ⟨.ref l, hi, Or.inl ⟨rfl, vs, Evl.sq_of hl⟩, h F H (Ex.refl F) e _ fun v G H1 n1 r1 => ⟨l, vs, v, rfl, rfl, n1.h _ _ hl, Evl.sz_lt hz, k v G H1 n1 r1⟩⟩
theorem s_call {sp : Sp} {E : XK} (e : Ex F H) (h : EA ta σ F ds) (k : ∀ vs F1 H1, Nx F H F1 H1 → Rps F1 vs ds → sp vs H1 (fun v H2 => D0.nx (σ.set i (some v)) H2) E) : tAsg (tCall sp [] E ta) (gName i) D0 σ H :=
  h F H (Ex.refl F) e _ fun vs F1 H1 n r => by
    have := k vs F1 H1 n r
    rw [← List.append_nil vs] at this
    exact this
/-- evaluates to just that value and changes nothing -/
def EvV (te : TE) (σ : L2.St) (H : Hp) (v : V) : Prop := ∀ Q : VK, Q v H → te σ H Q
theorem ev_var {v : V} (h : σ[i]? = some (some v)) : EvV (tVar i) σ H v := fun Q q => ⟨v, h, q⟩
theorem ev_int {j : Int} : EvV (tC (.int j)) σ H (.int j) := fun Q q => q
theorem ev_ix {p : Addr} {xs : List V} {j : Nat} {k : Int} {v : V} (h : EvV te σ H (.ref p)) (hk : k = (j : Int)) (hp : H p = some (.lst xs)) (hx : xs[j]? = some v) : EvV (tOp (rIx K) te (tC (.int k))) σ H v := fun Q q =>
  h _ (Or.inl ⟨p, xs, k, v, rfl, rfl, Evl.sq_of hp, by rw [hk]; exact atI_nat hx, q⟩)
theorem q_appV {b : Addr} {ys : List V} {v : V} (h : EvV te σ H (.ref b)) (hb : H b = some (.lst ys)) (hz : ys.length < 100000) (hv : EvV tv σ H v) (k : tz D0 σ (upd H b (.lst (ys ++ [v])))) :
    tSeq (tDrop (tBM K "list" rAppend te (tCons tv tNil))) tz D0 σ H := h _ ⟨Or.inl ⟨rfl, ys, Evl.sq_of hb⟩, hv _ ⟨b, ys, v, rfl, rfl, hb, Evl.sz_lt hz, k⟩⟩
theorem q_appV0 {b : Addr} {ys : List V} (h : EvV te σ H (.ref b)) (hb : H b = some (.lst ys)) (hz : ys.length < 100000) (k : ∀ z, H z = none → tz D0 σ (upd (upd H z (.lst [])) b (.lst (ys ++ [.ref z])))) :
    tSeq (tDrop (tBM K "list" rAppend te (tCons (tLst tNil) tNil))) tz D0 σ H :=
  h _ ⟨Or.inl ⟨rfl, ys, Evl.sq_of hb⟩, Nat.zero_le _, fun z hz' => ⟨b, ys, .ref z, rfl, rfl, (Ex.new hz') _ _ hb, Evl.sz_lt hz, k z hz'⟩⟩
end
/-- a list at p, a first item -/
theorem Rp.first {G : Hp} {v : V} {d : D} {ds : List D} (h : Rp G v (.lst (d :: ds))) : ∃ a u us, v = .ref a ∧ G a = some (.lst (u :: us)) ∧ Rp G u d ∧ us.length = ds.length := by
  obtain ⟨a, ws, rfl, ha, hr⟩ := h.list
  obtain ⟨u, us, rfl, hu, hus⟩ := hr.uncons
  exact ⟨a, u, us, rfl, ha, hu, hus.n⟩
end Bp
namespace Bp
open PySem PySem.Spec PyProof.Rows L2
open Evl (Ex)
/-! ## more loops -/
section
variable {K : PySem.W.Frag} {σ : L2.St} {F H : Hp} {te tb : TE} {ta tr : TA} {D0 : Ends} {tz tu : TS} {t : TT} {d : D}
theorem s_forE {ds : List D} {i j : Nat} (e : Ex F H) (h : EA ta σ F [.lst ds])
    (k : ∀ F1 H1, Nx F H F1 H1 → ∃ P : Nat → L2.St → Hp → Prop, P 0 σ H1 ∧ (∀ n σ' H', P n σ' H' → Ex F1 H') ∧
      (∀ n v d σ' H' H'', ds[n]? = some d → Rp F1 v d → P n σ' H' → Ex H' H'' → tu { D0 with nx := P (n + 1), ct := P (n + 1), bk := D0.nx } ((σ'.set i (some (.int (n : Int)))).set j (some v)) H'') ∧ (∀ σ' H', P ds.length σ' H' → D0.nx σ' H')) :
    tFor (iEnum K ta) (gTup K 2 (gCons (gName i) (gCons (gName j) gNil))) tu D0 σ H :=
  h F H (Ex.refl F) e _ fun vs F1 H1 n1 r1 => by
    obtain ⟨v, us, rfl, h1, h2⟩ := r1.uncons
    obtain rfl := h2.unnil
    obtain ⟨a, xs, rfl, ha, hr⟩ := h1.list
    obtain ⟨P, p0, pe, ps, pd⟩ := k F1 H1 n1
    refine ⟨a, xs, rfl, Evl.sq_of (n1.fh _ _ ha), for_it (walk_enum (xs := xs)) P p0 (fun i σ' H' _ p => Evl.sq_of (pe i σ' H' p _ _ ha)) (fun n x σ' H' H'' hn p y => ?_) (fun σ' H' p => pd σ' H' (by rw [← hr.n]; exact p))⟩
    obtain ⟨T, x1, y1, rfl, hT, rfl, e1, e2⟩ := y
    obtain rfl := Option.some.inj e1
    obtain ⟨d, hd, rd⟩ := hr.getv e2
    exact ⟨T, _, rfl, Evl.st_of upd_same, rfl, _, _, rfl, _, _, rfl, rfl, ps n _ d σ' H' _ hd rd p (Ex.new hT)⟩
theorem q_forE {ds : List D} {i j : Nat} (e : Ex F H) (h : EA ta σ F [.lst ds])
    (k : ∀ F1 H1, Nx F H F1 H1 → ∃ P : Nat → L2.St → Hp → Prop, P 0 σ H1 ∧ (∀ n σ' H', P n σ' H' → Ex F1 H') ∧
      (∀ n v d σ' H' H'', ds[n]? = some d → Rp F1 v d → P n σ' H' → Ex H' H'' → tu { D0 with nx := P (n + 1), ct := P (n + 1), bk := tz D0 } ((σ'.set i (some (.int (n : Int)))).set j (some v)) H'') ∧ (∀ σ' H', P ds.length σ' H' → tz D0 σ' H')) :
    tSeq (tFor (iEnum K ta) (gTup K 2 (gCons (gName i) (gCons (gName j) gNil))) tu) tz D0 σ H := s_forE (D0 := { D0 with nx := tz D0 }) e h k
theorem q_forZ {ds es : List D} {i j : Nat} (e : Ex F H) (h : EA ta σ F [.lst ds, .lst es]) (hn : ds.length = es.length)
    (k : ∀ F1 H1, Nx F H F1 H1 → ∃ P : Nat → L2.St → Hp → Prop, P 0 σ H1 ∧ (∀ n σ' H', P n σ' H' → Ex F1 H') ∧
      (∀ n v u d d' σ' H' H'', ds[n]? = some d → es[n]? = some d' → Rp F1 v d → Rp F1 u d' → P n σ' H' → Ex H' H'' → tu { D0 with nx := P (n + 1), ct := P (n + 1), bk := tz D0 } ((σ'.set i (some v)).set j (some u)) H'') ∧ (∀ σ' H', P ds.length σ' H' → tz D0 σ' H')) :
    tSeq (tFor (iZip K ta) (gTup K 2 (gCons (gName i) (gCons (gName j) gNil))) tu) tz D0 σ H :=
  h F H (Ex.refl F) e _ fun vs F1 H1 n1 r1 => by
    obtain ⟨v, us, rfl, h1, h2⟩ := r1.uncons
    obtain ⟨w, us, rfl, h3, h2⟩ := h2.uncons
    obtain rfl := h2.unnil
    obtain ⟨a, xs, rfl, ha, hr⟩ := h1.list
    obtain ⟨b, ys, rfl, hb, hs⟩ := h3.list
    obtain ⟨P, p0, pe, ps, pd⟩ := k F1 H1 n1
    refine ⟨a, b, xs, ys, rfl, Evl.sq_of (n1.fh _ _ ha), Evl.sq_of (n1.fh _ _ hb), for_it (D := { D0 with nx := tz D0 }) (walk_zip (xs := xs) (ys := ys) (n := ds.length) (by rw [hr.n, hs.n, hn, Nat.min_self])) P p0 (fun i σ' H' _ p => ⟨Evl.sq_of (pe i σ' H' p _ _ ha), Evl.sq_of (pe i σ' H' p _ _ hb)⟩) (fun n x σ' H' H'' hn p y => ?_) pd⟩
    obtain ⟨T, x1, y1, rfl, hT, rfl, e1, e2⟩ := y
    obtain ⟨d, hd, rd⟩ := hr.getv e1
    obtain ⟨d', hd', rd'⟩ := hs.getv e2
    exact ⟨T, _, rfl, Evl.st_of upd_same, rfl, _, _, rfl, _, _, rfl, rfl, ps n _ _ d d' σ' H' _ hd hd' rd rd' p (Ex.new hT)⟩
theorem q_forR2 {lo hi : Int} {j : Nat} (e : Ex F H) (h : EA ta σ F [.int lo, .int hi]) (hn : -1000 ≤ lo ∧ lo ≤ 1000 ∧ -1000 ≤ hi ∧ hi ≤ 1000)
    (k : ∀ H1, Nx F H F H1 → ∃ P : Nat → L2.St → Hp → Prop, P 0 σ H1 ∧
      (∀ (i : Nat) σ' H', i < (hi - lo).toNat → P i σ' H' → tu { D0 with nx := P (i + 1), ct := P (i + 1), bk := tz D0 } (σ'.set j (some (.int (lo + (i : Int))))) H') ∧ (∀ σ' H', P (hi - lo).toNat σ' H' → tz D0 σ' H')) : tSeq (tFor (iRng2 ta) (gName j) tu) tz D0 σ H :=
  h F H (Ex.refl F) e _ fun vs F1 H1 n1 r1 => by
    obtain ⟨v, us, rfl, h1, h2⟩ := r1.uncons
    obtain ⟨w, us, rfl, h3, h2⟩ := h2.uncons
    rw [h2.unnil, h1.eint, h3.eint]
    obtain ⟨P, p0, ps, pd⟩ := k H1 n1.drop
    exact ⟨lo, hi, rfl, by omega, for_range (D := { D0 with nx := tz D0 }) (lo := lo) (n := (hi - lo).toNat) P p0 (fun i σ' H' hi p => ps i σ' H' hi p) pd⟩
/-- for j in reversed(range(n)) -/
theorem q_forRev {n : Int} {j : Nat} (e : Ex F H) (h : ED te σ F (.int n)) (hn : 0 ≤ n ∧ n ≤ 1000)
    (k : ∀ H1, Nx F H F H1 → ∃ P : Nat → L2.St → Hp → Prop, P 0 σ H1 ∧
      (∀ (i : Nat) σ' H', (i : Int) < n → P i σ' H' → tu { D0 with nx := P (i + 1), ct := P (i + 1), bk := tz D0 } (σ'.set j (some (.int (n - 1 - (i : Int))))) H') ∧ (∀ σ' H', P n.toNat σ' H' → tz D0 σ' H')) : tSeq (tFor (iRevR (tRg1 te)) (gName j) tu) tz D0 σ H :=
  h F H (Ex.refl F) e _ fun v F1 H1 n1 r1 => by
    obtain ⟨P, p0, ps, pd⟩ := k H1 n1.drop
    refine ⟨n, r1.eint, ?_⟩
    refine ⟨by omega, by omega, by omega, by omega, for_it (D := { D0 with nx := tz D0 }) (n := n.toNat) (G := fun _ => True) (Y := YFn fun i => .int (n - 1 - (i : Int))) ?_ P p0 (fun _ _ _ _ _ => True.intro) (fun i x σ' H' H'' hi p y => ?_) pd⟩
    · have w := walk_rangeC (lo := (0 : Int) + (((n - 0).toNat : Nat) : Int) - 1) (c := -1) (n := (n - 0).toNat)
      have e1 : (n - 0).toNat = n.toNat := by omega
      rw [e1] at w ⊢
      refine w.mono (fun _ _ => True.intro) fun i H x H' hi _ y => ⟨y.1, y.2.trans ?_⟩
      have : (0 : Int) + ((n.toNat : Nat) : Int) - 1 + (i : Nat) * (-1) = n - 1 - (i : Int) := by omega
      exact congrArg V.int this
    · obtain ⟨rfl, rfl⟩ := y
      exact ps i σ' H'' (by omega) p
/-- x, y = e -/
theorem q_tup2 {i j : Nat} {x y : D} (e : Ex F H) (h : ED te σ F (.tup [x, y])) (q : ∀ v u F1 H1, Nx F H F1 H1 → Rp F1 v x → Rp F1 u y → tz D0 ((σ.set i (some v)).set j (some u)) H1) :
    tSeq (tAsg te (gTup K 2 (gCons (gName i) (gCons (gName j) gNil)))) tz D0 σ H := h F H (Ex.refl F) e _ fun v F1 H1 n1 r1 => by
  obtain ⟨a, us, rfl, ha, hr⟩ := r1.tuple
  obtain ⟨v0, _, rfl, h0, hr⟩ := hr.uncons
  obtain ⟨v1, _, rfl, h1, hr⟩ := hr.uncons
  obtain rfl := hr.unnil
  exact ⟨a, _, rfl, Evl.st_of (n1.fh _ _ ha), rfl, v0, _, rfl, v1, _, rfl, rfl, q v0 v1 F1 H1 n1 h0 h1⟩
theorem s_tup2 {i j : Nat} {x y : D} (e : Ex F H) (h : ED te σ F (.tup [x, y])) (q : ∀ v u F1 H1, Nx F H F1 H1 → Rp F1 v x → Rp F1 u y → D0.nx ((σ.set i (some v)).set j (some u)) H1) :
    tAsg te (gTup K 2 (gCons (gName i) (gCons (gName j) gNil))) D0 σ H := h F H (Ex.refl F) e _ fun v F1 H1 n1 r1 => by
  obtain ⟨a, us, rfl, ha, hr⟩ := r1.tuple
  obtain ⟨v0, _, rfl, h0, hr⟩ := hr.uncons
  obtain ⟨v1, _, rfl, h1, hr⟩ := hr.uncons
  obtain rfl := hr.unnil
  exact ⟨a, _, rfl, Evl.st_of (n1.fh _ _ ha), rfl, v0, _, rfl, v1, _, rfl, rfl, q v0 v1 F1 H1 n1 h0 h1⟩
/-! ## tuples -/
theorem ed_listT {ds : List D} (h : ED te σ F (.tup ds)) : ED (tCB (rListS' K) (tCons te tNil)) σ F (.lst ds) := fun F1 H1 e1 e2 Q q =>
  h F1 H1 e1 e2 _ fun v F2 H2 n2 r2 => by
    obtain ⟨a, ws, rfl, ha, hr⟩ := r2.tuple
    exact ⟨a, _, rfl, Or.inr (Or.inl (Or.inl (n2.fh _ _ ha))), fun p hp => q _ _ _ (n2.trans (Nx.new n2.fh hp)) (Rp.mkL upd_same (hr.mono (Ex.new (Evl.fresh_back n2.fh hp))))⟩
end
/-! ## plans -/
abbrev Rw := Option Int × List (Int × Int)
abbrev Pl := List (Int × Int) × List Rw
def wayD (w : Int × Int) : D := .tup [.int w.1, .int w.2]
def waysD (ws : List (Int × Int)) : D := .lst (ws.map wayD)
def dpD : Option Int → D
  | none => .non
  | some k => .int k
def rowD (r : Rw) : D := .tup [dpD r.1, waysD r.2]
def rowsD (rs : List Rw) : D := .lst (rs.map rowD)
def planD (p : Pl) : D := .tup [waysD p.1, rowsD p.2]
def isT : D → Bool
  | .tup _ => true
  | _ => false
def isPair : D → Bool
  | .tup [_, _] => true
  | _ => false
def fstD : D → D
  | .tup (x :: _) => x
  | _ => .non
def sndD : D → D
  | .tup (_ :: y :: _) => y
  | _ => .non
theorem isPair_yes {d : D} (h : isPair d = true) : ∃ x y, d = .tup [x, y] := by
  match d, h with
  | .tup [x, y], _ => exact ⟨x, y, rfl⟩
theorem isT_yes {d : D} (h : isT d = true) : ∃ xs, d = .tup xs := by cases d <;> first | exact ⟨_, rfl⟩ | cases h
theorem kit_tup : ∀ {d : D}, noObj d = true → kitB (tyD d) "tuple" = some (isT d)
  | .non, _ => by show kitB "NoneType" "tuple" = some false; decide +kernel
  | .bl _, _ => by show kitB "bool" "tuple" = some false; decide +kernel
  | .int _, _ => by show kitB "int" "tuple" = some false; decide +kernel
  | .str _, _ => by show kitB "str" "tuple" = some false; decide +kernel
  | .lst _, _ => by show kitB "list" "tuple" = some false; decide +kernel
  | .tup _, _ => by show kitB "tuple" "tuple" = some true; decide +kernel
  | .dct0, _ => by show kitB "dict" "tuple" = some false; decide +kernel
theorem ty_tup {d : D} (h : tyD d = "tuple") : ∃ i, d = .tup i := by
  cases d with
  | tup i => exact ⟨i, rfl⟩
  | _ => exact absurd h (by simp only [tyD]; decide)
def goodWay (a b : Int) (w : D) : Bool := isPair w && (isWhole (sndD w) b && !belowD (sndD w) a)
def areWays (x : D) (a b : Int) : Bool := match x with
  | .lst ws => decide (ws.length ≤ 10) && ws.all (goodWay a b) && rises 10 0 (ws.map fstD)
  | _ => false
def isRow (x : D) (n a b : Int) : Bool := isPair x && (if isNonD (fstD x) = true then isList (sndD x) 0 0 else isWhole (fstD x) n && areWays (sndD x) (a + 1) b)
def rowsOk (n : Int) (rs : List D) : Bool := rs.zipIdx.all fun p => isRow p.1 n p.2 rs.length
def isPlan (x : D) (n : Int) : Bool := match x with
  | .tup [w, .lst rs] => decide (rs.length ≤ 300) && areWays w 0 rs.length && rowsOk n rs
  | _ => false
theorem rowsOk_iff {n : Int} {rs : List D} : rowsOk n rs = true ↔ ∀ (i : Nat) r, rs[i]? = some r → isRow r n i rs.length = true := by
  unfold rowsOk
  rw [List.all_eq_true]
  constructor
  · intro h i r hr
    exact h (r, i) (List.mem_zipIdx_iff_getElem?.mpr hr)
  · rintro h ⟨r, i⟩ hm
    exact h i r (List.mem_zipIdx_iff_getElem?.mp hm)
def GoodWays (a b : Int) (ws : List (Int × Int)) : Prop := Up 10 (ws.map Prod.fst) ∧ ∀ w ∈ ws, a ≤ w.2 ∧ w.2 < b
def GoodRow (n a b : Int) : Rw → Prop
  | (none, ws) => ws = []
  | (some k, ws) => 0 ≤ k ∧ k < n ∧ GoodWays (a + 1) b ws
structure GoodPlan (n : Int) (p : Pl) : Prop where
  l : p.2.length ≤ 300
  w : GoodWays 0 p.2.length p.1
  r : ∀ (i : Nat) r, p.2[i]? = some r → GoodRow n i p.2.length r
theorem GoodWays.len {a b : Int} {ws : List (Int × Int)} (h : GoodWays a b ws) : ws.length ≤ 10 := by
  have := up_len (by decide) h.1
  rw [List.length_map] at this; omega
theorem goodWay_way {a b : Int} (ha : 0 ≤ a) {w : Int × Int} : goodWay a b (wayD w) = true ↔ a ≤ w.2 ∧ w.2 < b := by
  show (true && ((decide (0 ≤ w.2) && decide (w.2 < b)) && !decide (w.2 < a))) = true ↔ _
  simp only [Bool.true_and, Bool.and_eq_true, decide_eq_true_eq, Bool.not_eq_true', decide_eq_false_iff_not]
  omega
theorem areWays_of {a b : Int} (ha : 0 ≤ a) {ws : List (Int × Int)} : areWays (waysD ws) a b = true ↔ GoodWays a b ws := by
  show (decide ((ws.map wayD).length ≤ 10) && (ws.map wayD).all (goodWay a b) && rises 10 0 ((ws.map wayD).map fstD)) = true ↔ _
  have e : (ws.map wayD).map fstD = (ws.map Prod.fst).map D.int := by rw [List.map_map, List.map_map]; rfl
  rw [e, Bool.and_eq_true, Bool.and_eq_true, rises_ints, decide_eq_true_eq, List.all_eq_true, List.length_map]
  constructor
  · rintro ⟨⟨h1, h2⟩, h3, h4⟩
    exact ⟨⟨h3, fun x hx => ⟨(h4 x hx).1, (h4 x hx).2.1⟩⟩, fun w hw => (goodWay_way ha).mp (h2 _ (List.mem_map_of_mem hw))⟩
  · intro h
    refine ⟨⟨h.len, fun d hd => ?_⟩, h.1.1, fun x hx => ⟨(h.1.2 x hx).1, (h.1.2 x hx).2, (h.1.2 x hx).1⟩⟩
    obtain ⟨w, hw, rfl⟩ := List.mem_map.mp hd
    exact (goodWay_way ha).mpr (h.2 w hw)
theorem areWays_yes {x : D} {a b : Int} (h : areWays x a b = true) : ∃ ws, x = waysD ws := by
  cases x <;> first | cases h | skip
  rename_i xs
  simp only [areWays, Bool.and_eq_true] at h
  obtain ⟨ns, en⟩ := rises_all h.2
  have k : ∀ (xs : List D) (ns : List Int), (∀ x ∈ xs, goodWay a b x = true) → xs.map fstD = ns.map D.int → ∃ ws : List (Int × Int), xs = ws.map wayD := by
    intro xs
    induction xs with
    | nil => intro _ _ _; exact ⟨[], rfl⟩
    | cons x xs ih =>
      intro ns hg he
      cases ns with
      | nil => simp at he
      | cons n ns =>
        obtain ⟨e1, e2⟩ := List.cons.inj he
        obtain ⟨ws, rfl⟩ := ih ns (fun y hy => hg y (by simp [hy])) e2
        have g := hg x (by simp)
        unfold goodWay at g
        simp only [Bool.and_eq_true] at g
        obtain ⟨y, z, rfl⟩ := isPair_yes g.1
        have e1 : y = .int n := e1
        subst e1
        obtain ⟨g1, g2⟩ := g.2
        have : ∃ j, z = .int j := by
          cases z <;> first | exact ⟨_, rfl⟩ | (simp [sndD, isWhole] at g1; done)
        obtain ⟨j, rfl⟩ := this
        exact ⟨(n, j) :: ws, rfl⟩
  obtain ⟨ws, rfl⟩ := k xs ns (List.all_eq_true.mp h.1.2) en
  exact ⟨ws, rfl⟩
theorem isRow_of {n a b : Int} (ha : 0 ≤ a) {r : Rw} : isRow (rowD r) n a b = true ↔ GoodRow n a b r := by
  obtain ⟨d, ws⟩ := r
  cases d with
  | none =>
    show (true && isList (waysD ws) 0 0) = true ↔ ws = []
    cases ws <;> simp [waysD, isList] <;> omega
  | some k =>
    show (true && ((decide (0 ≤ k) && decide (k < n)) && areWays (waysD ws) (a + 1) b)) = true ↔ (0 ≤ k ∧ k < n ∧ GoodWays (a + 1) b ws)
    rw [← areWays_of (show 0 ≤ a + 1 by omega)]
    simp only [Bool.true_and, Bool.and_eq_true, decide_eq_true_eq, and_assoc]
theorem isRow_yes {x : D} {n a b : Int} (h : isRow x n a b = true) : ∃ r, x = rowD r := by
  unfold isRow at h
  obtain ⟨h1, h2⟩ := Bool.and_eq_true_iff.mp h
  obtain ⟨d, w, rfl⟩ := isPair_yes h1
  have h2 : (if isNonD d = true then isList w 0 0 else isWhole d n && areWays w (a + 1) b) = true := h2
  split at h2
  · rename_i hd
    have : d = .non := by cases d <;> first | rfl | cases hd
    subst this
    obtain ⟨xs, rfl, _, hl⟩ := isList_yes h2
    have : xs = [] := List.length_eq_zero_iff.mp (by omega)
    subst this
    exact ⟨(none, []), rfl⟩
  · obtain ⟨h3, h4⟩ := Bool.and_eq_true_iff.mp h2
    obtain ⟨ws, rfl⟩ := areWays_yes h4
    match d, h3 with
    | .int k, _ => exact ⟨(some k, ws), rfl⟩
theorem isPlan_of {n : Int} {p : Pl} : isPlan (planD p) n = true ↔ GoodPlan n p := by
  show (decide ((p.2.map rowD).length ≤ 300) && areWays (waysD p.1) 0 ((p.2.map rowD).length : Nat) && rowsOk n (p.2.map rowD)) = true ↔ _
  rw [Bool.and_eq_true, Bool.and_eq_true, rowsOk_iff, decide_eq_true_eq, List.length_map, areWays_of (by decide)]
  constructor
  · rintro ⟨⟨h1, h2⟩, h3⟩
    exact ⟨h1, h2, fun i r hr => (isRow_of (by omega)).mp (h3 i (rowD r) (by rw [List.getElem?_map, hr]; rfl))⟩
  · intro h
    refine ⟨⟨h.l, h.w⟩, fun i d hd => ?_⟩
    rw [List.getElem?_map] at hd
    cases hx : p.2[i]? with
    | none => rw [hx] at hd; cases hd
    | some r =>
      rw [hx] at hd
      obtain rfl := Option.some.inj hd
      exact (isRow_of (by omega)).mpr (h.r i r hx)
theorem mapE_of {α : Type} {emb : α → D} : ∀ {xs : List D}, (∀ x ∈ xs, ∃ y, x = emb y) → ∃ ys : List α, xs = ys.map emb
  | [], _ => ⟨[], rfl⟩
  | x :: xs, h => by
    obtain ⟨ys, e⟩ := mapE_of (xs := xs) fun y hy => h y (by simp [hy])
    obtain ⟨y, rfl⟩ := h x (by simp)
    exact ⟨y :: ys, by rw [e]; rfl⟩
theorem isPlan_yes {x : D} {n : Int} (h : isPlan x n = true) : ∃ p, x = planD p := by
  match x, h with
  | .tup [w, .lst rs], h =>
    simp only [isPlan, Bool.and_eq_true] at h
    obtain ⟨ws, rfl⟩ := areWays_yes h.1.2
    have hr := rowsOk_iff.mp h.2
    obtain ⟨ys, rfl⟩ := mapE_of (emb := rowD) (xs := rs) fun x hx => by
      obtain ⟨i, hi⟩ := List.getElem?_of_mem hx
      exact isRow_yes (hr i x hi)
    exact ⟨(ws, ys), rfl⟩
/-! ## data without objects -/
mutual
def pureD : D → Bool
  | .obj _ _ _ => false
  | .scr _ _ => false
  | .lst xs => decide (xs.length ≤ 1000) && pures xs
  | .tup xs => decide (xs.length ≤ 1000) && pures xs
  | .non => true
  | .bl _ => true
  | .int _ => true
  | .str _ => true
  | .dct0 => true
def pures : List D → Bool
  | [] => true
  | x :: xs => pureD x && pures xs
end
theorem pures_iff : ∀ {xs : List D}, pures xs = true ↔ ∀ x ∈ xs, pureD x = true
  | [] => by simp [pures]
  | x :: xs => by rw [pures, Bool.and_eq_true, pures_iff]; simp
structure Pu (d : D) : Prop where
  h : pureD d = true
theorem Pu.no {d : D} (h : Pu d) : noObj d = true := by
  have h := h.h
  cases d <;> first | rfl | (simp [pureD] at h; done)
theorem Pu.mem {xs : List D} (h : Pu (.lst xs)) {x : D} (hx : x ∈ xs) : Pu x := by
  have h := h.h
  rw [pureD, Bool.and_eq_true, pures_iff] at h
  exact ⟨h.2 x hx⟩
theorem Pu.memT {xs : List D} (h : Pu (.tup xs)) {x : D} (hx : x ∈ xs) : Pu x := by
  have h := h.h
  rw [pureD, Bool.and_eq_true, pures_iff] at h
  exact ⟨h.2 x hx⟩
theorem Pu.len {xs : List D} (h : Pu (.lst xs)) : xs.length ≤ 1000 := by
  have h := h.h
  rw [pureD, Bool.and_eq_true, decide_eq_true_eq] at h
  exact h.1
theorem Pu.lenT {xs : List D} (h : Pu (.tup xs)) : xs.length ≤ 1000 := by
  have h := h.h
  rw [pureD, Bool.and_eq_true, decide_eq_true_eq] at h
  exact h.1
theorem pu_lst {xs : List D} (h : ∀ x ∈ xs, Pu x) (hl : xs.length ≤ 1000) : Pu (.lst xs) := ⟨by rw [pureD, Bool.and_eq_true, decide_eq_true_eq, pures_iff]; exact ⟨hl, fun x hx => (h x hx).h⟩⟩
theorem pu_tup {xs : List D} (h : ∀ x ∈ xs, Pu x) (hl : xs.length ≤ 1000) : Pu (.tup xs) := ⟨by rw [pureD, Bool.and_eq_true, decide_eq_true_eq, pures_iff]; exact ⟨hl, fun x hx => (h x hx).h⟩⟩
theorem pu_int (i : Int) : Pu (.int i) := ⟨by simp [pureD]⟩
theorem pu_bl (i : Bool) : Pu (.bl i) := ⟨by simp [pureD]⟩
theorem pu_non : Pu .non := ⟨by simp [pureD]⟩
theorem pu_str (i : Str) : Pu (.str i) := ⟨by simp [pureD]⟩
theorem pu_dct : Pu .dct0 := ⟨by simp [pureD]⟩
theorem pu_p2 {x y : D} (h : Pu x) (k : Pu y) : Pu (.tup [x, y]) := pu_tup (by simp; exact ⟨h, k⟩) (by simp)
theorem pu_way (w : Int × Int) : Pu (wayD w) := pu_p2 (pu_int _) (pu_int _)
theorem pu_ways {ws : List (Int × Int)} (h : ws.length ≤ 1000) : Pu (waysD ws) := pu_lst (fun x hx => by obtain ⟨w, _, rfl⟩ := List.mem_map.mp hx; exact pu_way w) (by rw [List.length_map]; exact h)
theorem pu_dp (o : Option Int) : Pu (dpD o) := by cases o; exact pu_non; exact pu_int _
theorem pu_row {r : Rw} (h : r.2.length ≤ 1000) : Pu (rowD r) := pu_p2 (pu_dp _) (pu_ways h)
theorem pu_rows {rs : List Rw} (h : rs.length ≤ 1000) (k : ∀ r ∈ rs, r.2.length ≤ 1000) : Pu (rowsD rs) := pu_lst (fun x hx => by obtain ⟨w, hw, rfl⟩ := List.mem_map.mp hx; exact pu_row (k w hw)) (by rw [List.length_map]; exact h)
theorem pu_plan {p : Pl} (h0 : p.1.length ≤ 1000) (h : p.2.length ≤ 1000) (k : ∀ r ∈ p.2, r.2.length ≤ 1000) : Pu (planD p) := pu_p2 (pu_ways h0) (pu_rows h k)
theorem pu_objs {d : D} (h : Pu d) : noObjs d = true := by
  match d, h with
  | .lst xs, h => exact List.all_eq_true.mpr fun x hx => (h.mem hx).no
  | .non, _ => rfl
  | .bl _, _ => rfl
  | .int _, _ => rfl
  | .str _, _ => rfl
  | .tup _, _ => rfl
  | .dct0, _ => rfl
  | .obj _ _ _, h => exact absurd h.no (by simp [noObj])
  | .scr _ _, h => exact absurd h.no (by simp [noObj])
/-! ## == of plans -/
theorem lay_wayD (w : Int × Int) : Lay (wayD w) 1 := lay_tupD (by simp; exact ⟨lay_int _, lay_int _⟩)
theorem lay_waysD (ws : List (Int × Int)) : Lay (waysD ws) 2 := lay_lst ws lay_wayD
theorem lay_non : Lay .non 0 := ⟨rfl, by simp [D.toPy, PyData.depth]⟩
theorem lay_dpD (o : Option Int) : Lay (dpD o) 0 := by cases o; exact lay_non; exact lay_int _
theorem lay_rowD (r : Rw) : Lay (rowD r) 3 := lay_tupD (by simp; exact ⟨(lay_dpD _).up (by decide), lay_waysD _⟩)
theorem lay_rowsD (rs : List Rw) : Lay (rowsD rs) 4 := lay_lst rs lay_rowD
theorem lay_planD (p : Pl) : Lay (planD p) 5 := lay_tupD (by simp; exact ⟨(lay_waysD _).up (by decide), lay_rowsD _⟩)
theorem okE_plan (p : Pl) : okE (planD p) = true := (lay_planD p).ok
/-! ## the list of a plan's rows, unfrozen -/
def del (F : Hp) (b : Addr) : Hp := fun p => if p = b then none else F p
theorem del_ne {F : Hp} {b p : Addr} (h : p ≠ b) : del F b p = F p := by unfold del; rw [if_neg h]
theorem del_same {F : Hp} {b : Addr} : del F b b = none := by unfold del; rw [if_pos rfl]
theorem del_ex {F : Hp} {b : Addr} : Ex (del F b) F := fun p o h => by
  unfold del at h
  split at h
  · cases h
  · exact h
theorem rp_way_del {F : Hp} {b : Addr} {v : V} {w : Int × Int} {us : List V} (hb : F b = some (.lst us)) (h : Rp F v (wayD w)) : Rp (del F b) v (wayD w) := by
  obtain ⟨a, vs, rfl, ha, hr⟩ := h.tuple
  have ne : a ≠ b := fun z => by rw [z, hb] at ha; cases ha
  obtain ⟨v0, _, rfl, h0, hr⟩ := hr.uncons
  obtain ⟨v1, _, rfl, h1, hr⟩ := hr.uncons
  obtain rfl := hr.unnil
  rw [h0.eint, h1.eint] at ha
  exact Rp.mkT (by rw [del_ne ne]; exact ha) (.cons (.int _) (.cons (.int _) .nil))
theorem rps_del {α : Type} {F : Hp} {b : Addr} {emb : α → D} : ∀ {xs : List α} {vs : List V}, (∀ v x, x ∈ xs → v ∈ vs → Rp F v (emb x) → Rp (del F b) v (emb x)) → Rps F vs (xs.map emb) → Rps (del F b) vs (xs.map emb)
  | [], vs, _, h => by rw [h.unnil]; exact .nil
  | x :: xs, vs, k, h => by
    obtain ⟨v, us, rfl, h1, h2⟩ := Rps.uncons (d := emb x) (ds := xs.map emb) h
    exact .cons (k v x (by simp) (by simp) h1) (rps_del (fun v y hy hv hh => k v y (by simp [hy]) (by simp [hv]) hh) h2)
theorem rp_ways_del {F : Hp} {b : Addr} {v : V} {ws : List (Int × Int)} {us : List V} (hb : F b = some (.lst us)) (h : Rp F v (waysD ws)) (ne : v ≠ .ref b) : Rp (del F b) v (waysD ws) := by
  obtain ⟨a, vs, rfl, ha, hr⟩ := h.list
  exact Rp.mkL (by rw [del_ne (fun z => ne (by rw [z]))]; exact ha) (rps_del (fun v x _ _ hh => rp_way_del hb hh) hr)
theorem rp_row_del {F : Hp} {b : Addr} {v : V} {r : Rw} {rs : List Rw} {us : List V} (hb : F b = some (.lst us)) (hr : Rps F us (rs.map rowD)) (hm : r ∈ rs) (h : Rp F v (rowD r)) : Rp (del F b) v (rowD r) := by
  obtain ⟨a, vs, rfl, ha, hv⟩ := h.tuple
  have ne : a ≠ b := fun z => by rw [z, hb] at ha; cases ha
  obtain ⟨v0, _, rfl, h0, hv⟩ := hv.uncons
  obtain ⟨v1, _, rfl, h1, hv⟩ := hv.uncons
  obtain rfl := hv.unnil
  have h0' : Rp (del F b) v0 (dpD r.1) := by
    cases e : r.1 with
    | none => rw [e] at h0; rw [h0.enon]; exact .non
    | some k => rw [e] at h0; rw [h0.eint]; exact .int k
  refine Rp.mkT (by rw [del_ne ne]; exact ha) (.cons h0' (.cons (rp_ways_del hb h1 fun z => ?_) .nil))
  subst z
  obtain ⟨c, ws, e1, hc, hw⟩ := h1.list
  cases e1
  rw [hb] at hc
  cases hc
  -- the list of rows would be a list of ways
  cases rs with
  | nil => cases hm
  | cons r0 rs =>
    obtain ⟨x, xs, rfl, hx, _⟩ := Rps.uncons (d := rowD r0) (ds := rs.map rowD) hr
    cases hws : r.2 with
    | nil => rw [hws] at hw; have := hw.n; simp at this
    | cons w0 ws0 =>
      rw [hws] at hw
      obtain ⟨x', xs', e2, hx', _⟩ := Rps.uncons (d := wayD w0) (ds := ws0.map wayD) hw
      obtain ⟨rfl, rfl⟩ := List.cons.inj e2
      obtain ⟨t1, ys, rfl, ht, hy⟩ := hx.tuple
      obtain ⟨t2, zs, e3, ht', hz⟩ := hx'.tuple
      cases e3
      rw [ht] at ht'
      cases ht'
      obtain ⟨y0, _, rfl, _, hy⟩ := hy.uncons
      obtain ⟨y1, _, rfl, hy1, hy⟩ := hy.uncons
      obtain ⟨z0, _, e4, _, hz⟩ := hz.uncons
      cases e4
      obtain ⟨z1, _, e5, hz1, hz⟩ := hz.uncons
      cases e5
      obtain ⟨q, _, eq, _⟩ := hy1.list
      rw [hz1.eint] at eq
      cases eq
theorem rows_del {F : Hp} {b : Addr} {rs : List Rw} {us : List V} (hb : F b = some (.lst us)) (hr : Rps F us (rs.map rowD)) : Rps (del F b) us (rs.map rowD) := rps_del (fun _ _ hx _ hh => rp_row_del hb hr hx hh) hr
/-! ## what the defs about plans tell -/
def R_is_pair (ds : List D) (d : D) : Prop := ∃ x, ds = [x] ∧ noObj x = true ∧ d = .bl (isPair x)
def R_are_ways (ds : List D) (d : D) : Prop := ∃ x a b, ds = [x, .int a, .int b] ∧ Pu x ∧ d = .bl (areWays x a b)
def R_is_row (ds : List D) (d : D) : Prop := ∃ x n a b, ds = [x, .int n, .int a, .int b] ∧ Pu x ∧ d = .bl (isRow x n a b)
def R_is_plan (ds : List D) (d : D) : Prop := ∃ x n, ds = [x, .int n] ∧ Pu x ∧ d = .bl (isPlan x n)
def R_need_plan (A : Ad) (ds : List D) (d : D) : Prop := ∃ l dd w x, ds = [hsD A.hs l (llli dd) w, x] ∧ Pu x ∧ isPlan x dd.length = true ∧ d = .bl true
def W_plan (A : Ad) (ds : List D) (C : Addr) : Prop := ∃ l dd w x, ds = [hsD A.hs l (llli dd) w, x] ∧ Pu x ∧ isPlan x dd.length = false ∧ C = A.bp
end Bp
namespace Bp
open PySem PySem.Spec PyProof.Rows L2
open Evl (Ex)
section
variable {X : Cx} (K : PySem.W.Frag)
theorem catA_K (h : X.K = K := by rfl) : OpR X (binaryOp .Add) (rCatA K) := by subst h; exact op_catA
theorem slA_K (h : X.K = K := by rfl) : SlR X (rSlA K) := by subst h; exact sl_tupA
theorem revL_K {e : Expr} {te : TE} {k : Nat} {p1 p2 p3 pos : Pos} (he : PE X e te) (h : X.K = K := by rfl) : PE X (.Subscript e (.Slice none none (some (.UnaryOp .USub (.Constant (.int 1) k p1) p2)) p3) pos) (tRevL K te) := by subst h; exact pe_revL he
end
section
variable {K : PySem.W.Frag} {σ : L2.St} {F : Hp} {te : TE}
theorem rd_catT {xs ys : List D} (hx : xs ≠ []) (hy : ys ≠ []) (h : xs.length + ys.length ≤ 100000) : RD (rCatA K) F (.tup xs) (.tup ys) (.tup (xs ++ ys)) := fun F1 H1 v u _ e2 rv ru Q q => by
  obtain ⟨a, vs, rfl, ha, hr⟩ := rv.tuple
  obtain ⟨b, us, rfl, hb, hs⟩ := ru.tuple
  have nx : vs ≠ [] := fun z => hx (List.length_eq_zero_iff.mp (by rw [← hr.n, z]; rfl))
  have ny : us ≠ [] := fun z => hy (List.length_eq_zero_iff.mp (by rw [← hs.n, z]; rfl))
  exact ⟨a, b, vs, us, rfl, rfl, Evl.st_of (e2 _ _ ha), Evl.st_of (e2 _ _ hb), Evl.sz_of (by rw [hr.n, hs.n]; exact h), fun z => absurd z nx, fun _ z => absurd z ny, fun _ _ p hp => q _ _ _ (Nx.new e2 hp) (Rp.mkT upd_same ((hr.append hs).mono (Ex.new (Evl.fresh_back e2 hp))))⟩
theorem ed_slT {tl th : TO} {ds : List D} {lo hi : Option Int} (h : ED te σ F (.tup ds)) (h1 : EO tl σ F lo) (h2 : EO th σ F hi) : ED (tSl (rSlA K) te tl th) σ F (.tup (cutL ds lo hi)) := fun F1 H1 e1 e2 Q q =>
  h F1 H1 e1 e2 _ fun v F2 H2 n2 r2 => h1 F2 H2 (e1.trans n2.f) n2.fh _ fun F3 H3 n3 => h2 F3 H3 ((e1.trans n2.f).trans n3.f) n3.fh _ fun F4 H4 n4 => by
    obtain ⟨a, vs, rfl, ha, hr⟩ := r2.tuple
    have ha4 := (n3.f.trans n4.f) _ _ ha
    have e : Rps F2 (cutV vs lo hi) (cutL ds lo hi) := by
      unfold cutV cutL
      rw [hr.n]
      exact (hr.drop _).take _
    refine ⟨a, vs, rfl, Evl.st_of (n4.fh _ _ ha4), fun hw => ?_, fun _ p hp => ?_⟩
    · refine q _ F4 H4 ((n2.trans n3).trans n4) ?_
      have : cutL ds lo hi = ds := by
        unfold cutL
        rw [← hr.n, hw.1, hw.2, hr.n]
        simp
      rw [this]
      exact Rp.mkT ha4 (hr.mono (n3.f.trans n4.f))
    · exact q _ _ _ (((n2.trans n3).trans n4).trans (Nx.new n4.fh hp)) (Rp.mkT upd_same (e.mono ((n3.f.trans n4.f).trans (Ex.new (Evl.fresh_back n4.fh hp)))))
end
theorem areWays_no {a b : Int} : ∀ {x : D}, isList x 0 10 = false → areWays x a b = false
  | .lst xs, h => by
    have h0 : ¬ (xs.length ≤ 10) := by
      intro z
      have : isList (.lst xs) 0 10 = true := by
        show (decide (0 ≤ (xs.length : Int)) && decide ((xs.length : Int) ≤ 10)) = true
        rw [decide_eq_true (by omega), decide_eq_true (by omega)]; rfl
      rw [h] at this; cases this
    show (decide (xs.length ≤ 10) && _ && _) = false
    rw [decide_eq_false h0]; rfl
  | .non, _ => rfl
  | .bl _, _ => rfl
  | .int _, _ => rfl
  | .str _, _ => rfl
  | .tup _, _ => rfl
  | .dct0, _ => rfl
  | .obj _ _ _, _ => rfl
  | .scr _ _, _ => rfl
theorem isPlan_no {n : Int} : ∀ {x : D}, isPair x = false → isPlan x n = false
  | .tup [], _ => rfl
  | .tup [_], _ => rfl
  | .tup (_ :: b :: _ :: _), _ => by cases b <;> rfl
  | .non, _ => rfl
  | .bl _, _ => rfl
  | .int _, _ => rfl
  | .str _, _ => rfl
  | .lst _, _ => rfl
  | .dct0, _ => rfl
  | .obj _ _ _, _ => rfl
  | .scr _ _, _ => rfl
theorem isPlan_no2 {n : Int} {w : D} : ∀ {r : D}, (!isList r 0 300 || !areWays w 0 (lenD r)) = true → isPlan (.tup [w, r]) n = false
  | .lst rs, h => by
    show (decide (rs.length ≤ 300) && areWays w 0 rs.length && rowsOk n rs) = false
    have hb : (!(decide (0 ≤ (rs.length : Int)) && decide ((rs.length : Int) ≤ 300)) || !areWays w 0 (rs.length : Int)) = true := h
    cases h1 : areWays w 0 (rs.length : Int)
    · rw [Bool.and_false]; rfl
    · rw [h1] at hb
      have : ¬ (rs.length ≤ 300) := fun z => by
        rw [decide_eq_true (show (0 : Int) ≤ (rs.length : Int) by omega), decide_eq_true (show (rs.length : Int) ≤ 300 by omega)] at hb
        cases hb
      rw [decide_eq_false this]; rfl
  | .non, _ => rfl
  | .bl _, _ => rfl
  | .int _, _ => rfl
  | .str _, _ => rfl
  | .tup _, _ => rfl
  | .dct0, _ => rfl
  | .obj _ _ _, _ => rfl
  | .scr _ _, _ => rfl
theorem isPair_len (xs : List D) : decide ((xs.length : Int) = 2) = isPair (.tup xs) := by
  match xs with
  | [] => rfl
  | [x] => rfl
  | [x, y] => rfl
  | x :: y :: z :: xs =>
    show _ = false
    rw [decide_eq_false_iff_not]
    simp only [List.length_cons]; omega
/-! ## what evaluates to some data with a property -/
def EX (te : TE) (σ : L2.St) (F : Hp) (P : D → Prop) : Prop := ∀ F1 H1, Ex F F1 → Ex F1 H1 → ∀ Q : VK, (∀ d v F2 H2, P d → Nx F1 H1 F2 H2 → Rp F2 v d → Q v H2) → te σ H1 Q
def EXA (ta : TA) (σ : L2.St) (F : Hp) (P : List D → Prop) : Prop := ∀ F1 H1, Ex F F1 → Ex F1 H1 → ∀ Q : List V → Hp → Prop, (∀ ds vs F2 H2, P ds → Nx F1 H1 F2 H2 → Rps F2 vs ds → Q vs H2) → ta σ H1 Q
def spA (ok : List D → Prop) (R : List D → D → Prop) : Sp := fun vs H Q _ => ∃ F ds, Ex F H ∧ Rps F vs ds ∧ ok ds ∧ ∀ d v F2 H2, R ds d → Nx F H F2 H2 → Rp F2 v d → Q v H2
theorem len_A {n : Nat} {ok : List D → Prop} {R : List D → D → Prop} (h : ∀ ds, ok ds → ds.length = n) : ∀ vs H Q E, spA ok R vs H Q E → vs.length = n := fun vs H Q E ⟨F, ds, _, r, hR, _⟩ => r.n.trans (h ds hR)
section
variable {K : PySem.W.Frag} {σ : L2.St} {F F' H : Hp} {te ta tb : TE} {tl : TA} {D0 : Ends} {tz : TS} {t : TT} {d : D} {P P' : D → Prop} {Pl Pl' : List D → Prop} {R : List D → D → Prop} {E : XK} {i : Nat}
theorem ex_of (h : ED te σ F d) (p : P d) : EX te σ F P := fun F1 H1 e1 e2 Q q => h F1 H1 e1 e2 Q fun v F2 H2 n r => q d v F2 H2 p n r
theorem EX.mono (e : Ex F F') (h : EX te σ F P) : EX te σ F' P := fun F1 H1 a b Q q => h F1 H1 (e.trans a) b Q q
theorem EX.imp (h : EX te σ F P) (k : ∀ d, P d → P' d) : EX te σ F P' := fun F1 H1 a b Q q => h F1 H1 a b Q fun d v F2 H2 p n r => q d v F2 H2 (k d p) n r
theorem exa_nil (p : Pl []) : EXA tNil σ F Pl := fun F1 H1 e1 e2 Q q => q [] [] F1 H1 p (Nx.refl e2) .nil
theorem exa_cons {tr : TA} (h : EX te σ F P) (k : ∀ d, P d → EXA tr σ F fun ds => Pl (d :: ds)) : EXA (tCons te tr) σ F Pl := fun F1 H1 e1 e2 Q q =>
  h F1 H1 e1 e2 _ fun d v F2 H2 p n2 r2 => k d p F2 H2 (e1.trans n2.f) n2.fh _ fun ds vs F3 H3 ps n3 r3 => q _ _ F3 H3 ps (n2.trans n3) (.cons (r2.mono n3.f) r3)
theorem ex_tup (h : EXA tl σ F fun ds => ds.length ≤ 100000 ∧ P (.tup ds)) : EX (tTup tl) σ F P := fun F1 H1 e1 e2 Q q =>
  h F1 H1 e1 e2 _ fun ds vs F2 H2 p n2 r2 => ⟨Evl.sz_of (by rw [r2.n]; exact p.1), fun a ha => q _ _ _ _ p.2 (n2.trans (Nx.new n2.fh ha)) (Rp.mkT upd_same (r2.mono (Ex.new (Evl.fresh_back n2.fh ha))))⟩
theorem ex_lst (h : EXA tl σ F fun ds => ds.length ≤ 100000 ∧ P (.lst ds)) : EX (tLst tl) σ F P := fun F1 H1 e1 e2 Q q =>
  h F1 H1 e1 e2 _ fun ds vs F2 H2 p n2 r2 => ⟨Evl.sz_of (by rw [r2.n]; exact p.1), fun a ha => q _ _ _ _ p.2 (n2.trans (Nx.new n2.fh ha)) (Rp.mkL upd_same (r2.mono (Ex.new (Evl.fresh_back n2.fh ha))))⟩
theorem ex_callR (h : EXA tl σ F Pl) (k : ∀ ds, Pl ds → ∃ d, R ds d ∧ P d) : EX (tCall (spR R) [] E tl) σ F P := fun F1 H1 e1 e2 Q q =>
  h F1 H1 e1 e2 _ fun ds vs F2 H2 p n2 r2 => by
    obtain ⟨d, hR, hP⟩ := k ds p
    exact ⟨F2, ds, d, n2.fh, by rw [List.append_nil]; exact r2, hR, fun v F3 H3 n3 r3 => q d v F3 H3 hP (n2.trans n3) r3⟩
theorem ex_callA {ok : List D → Prop} (h : EXA tl σ F ok) (k : ∀ ds d, ok ds → R ds d → P d) : EX (tCall (spA ok R) [] E tl) σ F P := fun F1 H1 e1 e2 Q q =>
  h F1 H1 e1 e2 _ fun ds vs F2 H2 p n2 r2 => ⟨F2, ds, n2.fh, by rw [List.append_nil]; exact r2, p, fun d v F3 H3 hR n3 r3 => q d v F3 H3 (k ds d p hR) (n2.trans n3) r3⟩
theorem exa_of {ds : List D} (h : EA tl σ F ds) (p : Pl ds) : EXA tl σ F Pl := fun F1 H1 e1 e2 Q q => h F1 H1 e1 e2 Q fun vs F2 H2 n r => q ds vs F2 H2 p n r
/-- one of a list of things with a property -/
theorem ex_pick {k j : Int} (h : EX te σ F fun d => ∃ ds, d = .lst ds ∧ (ds.length : Int) = k ∧ ∀ y ∈ ds, P y) (h0 : 0 ≤ j ∧ j < k) (hb : ED tb σ F (.int j)) : EX (tOp (rIx K) te tb) σ F P := fun F1 H1 e1 e2 Q q =>
  h F1 H1 e1 e2 _ fun d v F2 H2 p n2 r2 => hb F2 H2 (e1.trans n2.f) n2.fh _ fun w F3 H3 n3 r3 => by
    obtain ⟨ds, rfl, hk, hy⟩ := p
    have hj : j.toNat < ds.length := by omega
    exact rd_ixl (K := K) (d := ds[j.toNat]) (at_nat (j := j.toNat) (by omega) (List.getElem?_eq_getElem hj)) F3 H3 v w (Ex.refl F3) n3.fh (r2.mono n3.f) r3 Q fun u F4 H4 n4 r4 => q _ u F4 H4 (hy _ (List.getElem_mem hj)) ((n2.trans n3).trans n4) r4
/-- a list of things, each with a property -/
structure EAP (ta : TA) (σ : L2.St) (F : Hp) (P : D → Prop) (n : Nat) : Prop where
  h : EXA ta σ F fun ds => ds.length = n ∧ ∀ y ∈ ds, P y
theorem eap_nil : EAP tNil σ F P 0 := ⟨exa_nil ⟨rfl, by simp⟩⟩
theorem eap_cons {tr : TA} {n : Nat} (h : EX te σ F P) (k : EAP tr σ F P n) : EAP (tCons te tr) σ F P (n + 1) := ⟨exa_cons h fun d p F1 H1 e1 e2 Q q => k.h F1 H1 e1 e2 Q fun ds vs F2 H2 ps n r => q ds vs F2 H2 ⟨by rw [List.length_cons, ps.1], List.forall_mem_cons.mpr ⟨p, ps.2⟩⟩ n r⟩
theorem ex_lstP {n : Nat} (h : EAP tl σ F P n) (hn : n ≤ 1000) : EX (tLst tl) σ F fun d => ∃ ds, d = .lst ds ∧ (ds.length : Int) = n ∧ ∀ y ∈ ds, P y := ex_lst fun F1 H1 e1 e2 Q q => h.h F1 H1 e1 e2 Q fun ds vs F2 H2 p n r => q ds vs F2 H2 ⟨by omega, ds, rfl, by omega, p.2⟩ n r
theorem q_asgX (e : Ex F H) (h : EX te σ F P) (k : ∀ d v F1 H1, P d → Nx F H F1 H1 → Rp F1 v d → tz D0 (σ.set i (some v)) H1) : tSeq (tAsg te (gName i)) tz D0 σ H := h F H (Ex.refl F) e _ k
theorem s_asgX (e : Ex F H) (h : EX te σ F P) (k : ∀ d v F1 H1, P d → Nx F H F1 H1 → Rp F1 v d → D0.nx (σ.set i (some v)) H1) : tAsg te (gName i) D0 σ H := h F H (Ex.refl F) e _ k
theorem s_retX' (e : Ex F H) (h : EX te σ F P) (k : ∀ d v F1 H1, P d → Nx F H F1 H1 → Rp F1 v d → D0.rt v H1) : tRet te D0 σ H := h F H (Ex.refl F) e _ k
theorem ex_if {b : Bool} (h : ET t σ F b) (h1 : b = true → EX ta σ F P) (h2 : b = false → EX tb σ F P) : EX (tIf t ta tb) σ F P := fun F1 H1 e1 e2 Q q => h F1 H1 e1 e2 _ fun F2 H2 n2 => by
  cases b with
  | true => exact h1 rfl F2 H2 (e1.trans n2.f) n2.fh Q fun d v F3 H3 p n3 r3 => q d v F3 H3 p (n2.trans n3) r3
  | false => exact h2 rfl F2 H2 (e1.trans n2.f) n2.fh Q fun d v F3 H3 p n3 r3 => q d v F3 H3 p (n2.trans n3) r3
/-- xs + ys, the new list outside the frozen part -/
theorem q_catN {xs ys : List D} (e : Ex F H) (h1 : ED ta σ F (.lst xs)) (h2 : ED tb σ F (.lst ys)) (hl : xs.length + ys.length ≤ 100000)
    (k : ∀ vs F1 H1, Nx F H F1 H1 → Rps F1 vs (xs ++ ys) → ∀ p, H1 p = none → tz D0 (σ.set i (some (.ref p))) (upd H1 p (.lst vs))) : tSeq (tAsg (tOp rAddA ta tb) (gName i)) tz D0 σ H :=
  h1 F H (Ex.refl F) e _ fun v F1 H1 n1 r1 => h2 F1 H1 n1.f n1.fh _ fun u F2 H2 n2 r2 => by
    obtain ⟨a, vs, rfl, ha, hr⟩ := (r1.mono n2.f).list
    obtain ⟨b, us, rfl, hb, hs⟩ := r2.list
    exact Or.inr ⟨a, b, vs, us, rfl, rfl, n2.fh _ _ ha, n2.fh _ _ hb, Evl.sz_of (by rw [hr.n, hs.n]; exact hl), fun p hp => k _ F2 H2 (n1.trans n2) (hr.append hs) p hp⟩
theorem q_call {sp : Sp} {ds : List D} (e : Ex F H) (h : EA tl σ F ds) (k : ∀ vs F1 H1, Nx F H F1 H1 → Rps F1 vs ds → sp vs H1 (fun v H2 => tz D0 (σ.set i (some v)) H2) E) : tSeq (tAsg (tCall sp [] E tl) (gName i)) tz D0 σ H :=
  s_call (D0 := { D0 with nx := tz D0 }) e h k
/-- xs[::-1] -/
theorem ed_revL {ds : List D} (h : ED te σ F (.lst ds)) : ED (tRevL K te) σ F (.lst ds.reverse) := fun F1 H1 e1 e2 Q q =>
  h F1 H1 e1 e2 _ fun v F2 H2 n2 r2 => by
    obtain ⟨a, ws, rfl, ha, hr⟩ := r2.list
    refine ⟨a, ws, rfl, Evl.sq_of (n2.fh _ _ ha), ?_⟩
    first
      | exact fun p hp => q _ _ _ (n2.trans (Nx.new n2.fh hp)) (Rp.mkL upd_same (Rps.mono (Ex.new (Evl.fresh_back n2.fh hp)) ⟨by rw [List.length_reverse, List.length_reverse, hr.n], fun i v d a b => by
          have hv := (List.getElem?_eq_some_iff.mp a).1
          have hd := (List.getElem?_eq_some_iff.mp b).1
          rw [List.length_reverse] at hv hd
          rw [List.getElem?_reverse hv] at a
          rw [List.getElem?_reverse hd] at b
          have e : ws.length - 1 - i = ds.length - 1 - i := by rw [hr.n]
          rw [e] at a
          exact hr.r _ v d a b⟩))
end
end Bp
namespace Bp
open PySem PySem.Spec PyProof.Rows L2
open Evl (Ex)
/-! ## the plans that the laws make -/
def wayFor (c : Int) (seen : List Int) (at' wide look : Int) : Option (Int × Int) :=
  if look ∈ seen ∧ 0 < wide ∧ c / 8 % 23 ≠ look then some (look, at' + (c * 48271 + look * 7919) % 10007 % wide)
  else if 0 < wide ∧ look ∉ seen ∧ (c + look) % 17 = 3 then some (look, at' + (c + look) / 17 % wide) else none
def waysOf (c : Int) (seen : List Int) (at' wide : Int) : List (Int × Int) := (rng 10).filterMap (wayFor c seen at' wide)
def R_ways (ds : List D) (d : D) : Prop := ∃ c seen a w, ds = [.int c, li seen, .int a, .int w] ∧ d = waysD (waysOf c seen a w)
def mrows (ns : List Int) : Int := if cell ns 11 / 10 % 8 = 1 then cell ns 11 % 10 + cell ns 11 / 80 % 60 else cell ns 11 % 10
theorem mrows_ok (ns : List Int) : 0 ≤ mrows ns ∧ mrows ns ≤ 68 := by unfold mrows; split <;> omega
def rowCell (ns : List Int) (i : Int) : Int := cell ns (14 + i % 20) + 31 * (i / 20)
def min3 (n : Int) : Int := if n < 3 then n else 3
def rowFor (ns seen : List Int) (deeds i : Int) : Rw :=
  if i = mrows ns - 1 ∨ rowCell ns i % 8 = 1 then (none, []) else (some (rowCell ns i / 184 % deeds), waysOf (rowCell ns i) seen (i + 1) (min3 (mrows ns - i - 1)))
def planOf (ns seen : List Int) (deeds : Int) : Pl := (waysOf (cell ns 12) seen 0 (mrows ns), (rng (mrows ns)).map (rowFor ns seen deeds))
def R_rows (K : PySem.W.Frag) (ds : List D) (d : D) : Prop := ∃ ns seen k, ds = [.scr K ns, li seen, .int k] ∧ 0 < k ∧ d = planD (planOf ns seen k)
theorem wayFor_fst {c : Int} {seen : List Int} {a w look : Int} {p : Int × Int} (h : wayFor c seen a w look = some p) : p.1 = look ∧ a ≤ p.2 ∧ p.2 < a + w := by
  unfold wayFor at h
  split at h
  · rename_i k
    cases h
    have h1 := Int.emod_nonneg ((c * 48271 + look * 7919) % 10007) (b := w) (by omega)
    have h2 := Int.emod_lt_of_pos ((c * 48271 + look * 7919) % 10007) k.2.1
    exact ⟨rfl, by show a ≤ a + _; omega, by show a + _ < _; omega⟩
  · split at h
    · rename_i k
      cases h
      have h1 := Int.emod_nonneg ((c + look) / 17) (b := w) (by omega)
      have h2 := Int.emod_lt_of_pos ((c + look) / 17) k.1
      exact ⟨rfl, by show a ≤ a + _; omega, by show a + _ < _; omega⟩
    · cases h
theorem filterMap_fst {f : Int → Option (Int × Int)} (hf : ∀ x p, f x = some p → p.1 = x) : ∀ xs : List Int, ((xs.filterMap f).map Prod.fst).Sublist xs
  | [] => .slnil
  | x :: xs => by
    have ih := filterMap_fst hf xs
    cases h : f x with
    | none => rw [List.filterMap_cons_none h]; exact ih.cons _
    | some p => rw [List.filterMap_cons_some h, List.map_cons, hf x p h]; exact ih.cons_cons _
theorem waysOf_ok {c : Int} {seen : List Int} {a w : Int} : GoodWays a (a + w) (waysOf c seen a w) := by
  refine ⟨⟨?_, fun x hx => ?_⟩, fun p hp => ?_⟩
  · refine List.Pairwise.sublist (filterMap_fst (fun x p h => (wayFor_fst h).1) (rng 10)) ?_
    unfold rng
    rw [List.pairwise_map]
    exact List.pairwise_lt_range.imp fun h => by omega
  · have := (filterMap_fst (fun x p h => (wayFor_fst h).1) (rng 10)).subset hx
    exact mem_rng.mp this
  · obtain ⟨x, _, hx⟩ := List.mem_filterMap.mp hp
    exact (wayFor_fst hx).2
theorem GoodWays.up {a b b' : Int} {ws : List (Int × Int)} (h : GoodWays a b ws) (hb : b ≤ b') : GoodWays a b' ws := ⟨h.1, fun w hw => ⟨(h.2 w hw).1, by have := (h.2 w hw).2; omega⟩⟩
theorem planOf_len (ns seen : List Int) (k : Int) : (((planOf ns seen k).2.length : Nat) : Int) = mrows ns := by
  have := rng_len (mrows_ok ns).1
  unfold planOf
  rw [List.length_map]; exact this
theorem rng_get {n : Int} {i : Nat} (h : (i : Int) < n) : (rng n)[i]? = some (i : Int) := by
  unfold rng
  rw [List.getElem?_map, List.getElem?_range (by omega)]; rfl
theorem planOf_ok (ns seen : List Int) {k : Int} (hk : 0 < k) : GoodPlan k (planOf ns seen k) := by
  have hl := planOf_len ns seen k
  have ⟨m0, m1⟩ := mrows_ok ns
  refine ⟨by omega, ?_, fun i r hr => ?_⟩
  · rw [hl]
    have := waysOf_ok (c := cell ns 12) (seen := seen) (a := 0) (w := mrows ns)
    rw [Int.zero_add] at this
    exact this
  · rw [hl]
    have hi : (i : Int) < mrows ns := by
      have := (List.getElem?_eq_some_iff.mp hr).1
      omega
    have : (planOf ns seen k).2[i]? = some (rowFor ns seen k i) := by
      show ((rng (mrows ns)).map (rowFor ns seen k))[i]? = _
      rw [List.getElem?_map, rng_get hi]; rfl
    rw [this] at hr
    obtain rfl := Option.some.inj hr
    unfold rowFor
    split
    · rfl
    · rename_i hn
      have a := Int.emod_nonneg (rowCell ns i / 184) (b := k) (by omega)
      have b := Int.emod_lt_of_pos (rowCell ns i / 184) hk
      refine ⟨a, b, waysOf_ok.up ?_⟩
      unfold min3
      split <;> omega
theorem goodPlan_len {n : Int} {p : Pl} (h : GoodPlan n p) : p.1.length ≤ 10 ∧ p.2.length ≤ 300 ∧ ∀ r ∈ p.2, r.2.length ≤ 10 := by
  refine ⟨h.w.len, h.l, fun r hr => ?_⟩
  obtain ⟨i, hi⟩ := List.getElem?_of_mem hr
  have := h.r i r hi
  obtain ⟨d, ws⟩ := r
  cases d with
  | none =>
    have e : ws = [] := this
    rw [e]; exact Nat.zero_le _
  | some k => exact this.2.2.len
theorem pu_good {n : Int} {p : Pl} (h : GoodPlan n p) : Pu (planD p) := by
  have ⟨h1, h2, h3⟩ := goodPlan_len h
  exact pu_plan (by omega) (by omega) fun r hr => by have := h3 r hr; omega
end Bp
namespace Bp
open PySem PySem.Spec PyProof.Rows L2
open Evl (Ex)
/-! ## law k04 -/
def R_good_ways (ds : List D) (d : D) : Prop := ∃ x a b, ds = [x, .int a, .int b] ∧ Pu x ∧ 0 ≤ a ∧ d = .bl (areWays x a b)
structure Pk (x : D) : Prop where
  p : Pu x
  l : ∀ w rs, x = .tup [w, .lst rs] → ∀ r ∈ rs, okE (sndD r) = true
def R_good4 (ds : List D) (d : D) : Prop := ∃ x n, ds = [x, .int n] ∧ Pk x ∧ d = .bl (isPlan x n)
def isWay (d : D) : Bool := isPair d && (isIntD (fstD d) && isIntD (sndD d))
theorem isWay_yes {d : D} (h : isWay d = true) : ∃ w, d = wayD w := by
  unfold isWay at h
  obtain ⟨h1, h2⟩ := Bool.and_eq_true_iff.mp h
  obtain ⟨x, y, rfl⟩ := isPair_yes h1
  obtain ⟨h3, h4⟩ := Bool.and_eq_true_iff.mp h2
  match x, y, h3, h4 with
  | .int i, .int j, _, _ => exact ⟨(i, j), rfl⟩
theorem goodWays_snoc {a b : Int} {ws : List (Int × Int)} {w : Int × Int} (h : GoodWays a b ws) (h0 : 0 ≤ w.1) (h1 : w.1 < 10) (h2 : a ≤ w.2) (h3 : w.2 < b) (hp : 0 < ws.length → (ws.getD (ws.length - 1) (0, 0)).1 < w.1) : GoodWays a b (ws ++ [w]) := by
  refine ⟨?_, fun x hx => ?_⟩
  · rw [List.map_append]
    refine up_snoc h.1 h0 h1 fun hl => ?_
    rw [List.length_map] at hl ⊢
    have := hp hl
    rw [List.getD_eq_getElem?_getD, List.getElem?_eq_getElem (show ws.length - 1 < ws.length by omega)] at this
    rw [List.getD_eq_getElem?_getD, List.getElem?_map, List.getElem?_eq_getElem (show ws.length - 1 < ws.length by omega)]
    exact this
  · rcases List.mem_append.mp hx with k | k
    · exact h.2 x k
    · obtain rfl := List.mem_singleton.mp k; exact ⟨h2, h3⟩
theorem isPlan_no3 {n : Int} : ∀ {x : D}, (!isT x || (!isPair x || (!isL (sndD x) || decide (300 < lenD (sndD x))))) = true → isPlan x n = false
  | .tup [w, .lst rs], h => by
    have h : decide (300 < (rs.length : Int)) = true := h
    show (decide (rs.length ≤ 300) && _ && _) = false
    rw [decide_eq_false (by have := of_decide_eq_true h; omega)]; rfl
  | .tup [], _ => rfl
  | .tup [_], _ => rfl
  | .tup (_ :: b :: _ :: _), _ => by cases b <;> rfl
  | .tup [_, .non], _ => rfl
  | .tup [_, .bl _], _ => rfl
  | .tup [_, .int _], _ => rfl
  | .tup [_, .str _], _ => rfl
  | .tup [_, .tup _], _ => rfl
  | .tup [_, .dct0], _ => rfl
  | .tup [_, .obj _ _ _], _ => rfl
  | .tup [_, .scr _ _], _ => rfl
  | .non, _ => rfl
  | .bl _, _ => rfl
  | .int _, _ => rfl
  | .str _, _ => rfl
  | .lst _, _ => rfl
  | .dct0, _ => rfl
  | .obj _ _ _, _ => rfl
  | .scr _ _, _ => rfl
theorem isPlan_no3' {x : D} (h : (!isT x || (!isPair x || (!isL (sndD x) || decide (300 < lenD (sndD x))))) = false) : ∃ w rs, x = .tup [w, .lst rs] ∧ rs.length ≤ 300 := by
  simp only [Bool.or_eq_false_iff, Bool.not_eq_false'] at h
  obtain ⟨_, h1, h2, h3⟩ := h
  obtain ⟨w, r, rfl⟩ := isPair_yes h1
  obtain ⟨rs, rfl⟩ := isL_yes (show isL r = true from h2)
  have : ¬ (300 < (rs.length : Int)) := of_decide_eq_false h3
  exact ⟨w, rs, rfl, by omega⟩
theorem isList0 {d : D} : isList d 0 0 = (isL d && isNilD d) := by
  cases d <;> first | rfl | skip
  rename_i xs
  cases xs <;> simp [isList, isL, isNilD] <;> try omega
theorem whole_due (n : Int) : ∀ f : D, (!isIntD f || (belowD f 0 || !belowD f n)) = !isWhole f n
  | .int j => by
    show (false || (decide (j < 0) || !decide (j < n))) = !(decide (0 ≤ j) && decide (j < n))
    rw [Bool.eq_iff_iff]; simp <;> omega
  | .non => rfl
  | .bl _ => rfl
  | .str _ => rfl
  | .lst _ => rfl
  | .tup _ => rfl
  | .dct0 => rfl
  | .obj _ _ _ => rfl
  | .scr _ _ => rfl
/-- a list that was made and added to, frozen now -/
theorem app_freeze {F1 H1 F2 H2 F3 H3 : Hp} {p : Addr} {vs : List V} {ds : List D} {v : V} {d : D} (n2 : Nx F1 H1 F2 H2) (hp : H2 p = none) (rs : Rps F2 vs ds) (n3 : Nx F2 (upd H2 p (.lst vs)) F3 H3) (f3 : F3 p = none) (rv : Rp F3 v d) :
    Nx F1 H1 (upd F3 p (.lst (vs ++ [v]))) (upd H3 p (.lst (vs ++ [v]))) ∧ Rp (upd F3 p (.lst (vs ++ [v]))) (.ref p) (.lst (ds ++ [d])) := by
  have n3' : Nx F2 H2 F3 H3 := ⟨n3.f, (Ex.new hp).trans n3.h, n3.fh, fun a ha hf => n3.n a (by
    by_cases z : a = p
    · rw [z, upd_same]; exact fun y => nomatch y
    · rw [upd_ne z]; exact ha) hf⟩
  have k := (n2.trans n3').mut (p := p) (o := .lst (vs ++ [v])) (Evl.fresh_back n2.h hp) f3
  exact ⟨k.freeze (Evl.fresh_back n2.h hp) f3 upd_same, Rp.mkL upd_same (((rs.mono n3.f).mono (Ex.new f3)).snoc (rv.mono (Ex.new f3)))⟩
/-- small data without dicts -/
structure PL (n : Nat) (d : D) : Prop where
  p : Pu d
  l : Lay d n
theorem pl_int {n : Nat} (i : Int) : PL n (.int i) := ⟨pu_int _, (lay_int i).up (Nat.zero_le _)⟩
theorem pl_non {n : Nat} : PL n .non := ⟨pu_non, lay_non.up (Nat.zero_le _)⟩
theorem pl_bl {n : Nat} (b : Bool) : PL n (.bl b) := ⟨pu_bl _, ⟨rfl, by simp [D.toPy, PyData.depth]⟩⟩
theorem pl_str {n : Nat} {s : Str} (h : (D.str s).toPy.canLay0 = true) : PL n (.str s) := ⟨pu_str _, ⟨h, by simp [D.toPy, PyData.depth]⟩⟩
theorem pl_tup {n : Nat} {xs : List D} (h : ∀ x ∈ xs, PL n x) (hl : xs.length ≤ 1000) : PL (n + 1) (.tup xs) := ⟨pu_tup (fun x hx => (h x hx).p) hl, lay_tupD fun x hx => (h x hx).l⟩
theorem pl_lst {n : Nat} {xs : List D} (h : ∀ x ∈ xs, PL n x) (hl : xs.length ≤ 1000) : PL (n + 1) (.lst xs) := ⟨pu_lst (fun x hx => (h x hx).p) hl, lay_lstD fun x hx => (h x hx).l⟩
theorem PL.up {n m : Nat} {d : D} (h : PL n d) (k : n ≤ m) : PL m d := ⟨h.p, h.l.up k⟩
theorem pl_p2 {n : Nat} {x y : D} (h : PL n x) (k : PL n y) : PL (n + 1) (.tup [x, y]) := pl_tup (by simp; exact ⟨h, k⟩) (by simp)
theorem pl_way {n : Nat} (w : Int × Int) : PL (n + 1) (wayD w) := pl_p2 (pl_int _) (pl_int _)
theorem pl_ways {n : Nat} {ws : List (Int × Int)} (h : ws.length ≤ 1000) : PL (n + 2) (waysD ws) := pl_lst (fun x hx => by obtain ⟨w, _, rfl⟩ := List.mem_map.mp hx; exact pl_way w) (by rw [List.length_map]; exact h)
def odd16 (f m : Int) : List D := [.tup [.int 10, .int f], .tup [.int (-1), .int f], .tup [.int 3, .int m], .tup [.int 3, .int (f - 1)], .tup [.bl true, .int f], .tup [.int 0, .bl false], .lst [.int 0, .int f], .tup [.int 0], .non] ++
  [.tup [.non, .int f], .tup [.str "0", .int f], .tup [.int 0, .non], .tup [.int 0, .lst [.int f]], .tup [.lst [.int 0], .int f], .tup [.int 0, .int f, .int f]] ++ [.tup [.bl false, .int f]]
theorem odd16_ok (f m : Int) : ∀ d ∈ odd16 f m, PL 3 d := by
  intro d hd
  have h0 : PL 2 (.str "0") := pl_str (by decide +kernel)
  have l1 : ∀ i : Int, PL 2 (.lst [.int i]) := fun i => pl_lst (n := 1) (by simp; exact pl_int _) (by simp)
  simp only [odd16, List.mem_append, List.mem_cons, List.not_mem_nil, or_false] at hd
  rcases hd with (hd | hd) | hd
  · rcases hd with rfl | rfl | rfl | rfl | rfl | rfl | rfl | rfl | rfl
    · exact pl_p2 (pl_int _) (pl_int _)
    · exact pl_p2 (pl_int _) (pl_int _)
    · exact pl_p2 (pl_int _) (pl_int _)
    · exact pl_p2 (pl_int _) (pl_int _)
    · exact pl_p2 (pl_bl _) (pl_int _)
    · exact pl_p2 (pl_int _) (pl_bl _)
    · exact pl_lst (by simp; exact ⟨pl_int _, pl_int _⟩) (by simp)
    · exact pl_tup (by simp; exact pl_int _) (by simp)
    · exact pl_non
  · rcases hd with rfl | rfl | rfl | rfl | rfl | rfl
    · exact pl_p2 pl_non (pl_int _)
    · exact pl_p2 h0 (pl_int _)
    · exact pl_p2 (pl_int _) pl_non
    · exact pl_p2 (pl_int _) (l1 _)
    · exact pl_p2 (l1 _) (pl_int _)
    · exact pl_tup (by simp; exact ⟨pl_int _, pl_int _⟩) (by simp)
  · subst hd; exact pl_p2 (pl_bl _) (pl_int _)
def ok_odd (ds : List D) : Prop := ∃ ws a c f m, ds = [waysD ws, .int a, .int c, .int f, .int m] ∧ ws.length ≤ 10
theorem pl_put {n : Nat} {xs : List D} {a : Int} {y : D} (h : ∀ x ∈ xs, PL n x) (hl : xs.length ≤ 300) (hy : PL n y) : PL (n + 1) (.lst (putD xs a y)) :=
  pl_lst (fun z hz => (put_mem hz).elim (fun k => h z k) fun k => k ▸ hy) (by have := put_len (xs := xs) (a := a) (y := y); omega)
theorem pk_not {d : D} (h : Pu d) (k : ∀ w rs, d ≠ .tup [w, .lst rs]) : Pk d := ⟨h, fun w rs e => absurd e (k w rs)⟩
theorem pk_of {w : D} {rs : List D} (h : Pu w) (k : ∀ r ∈ rs, Pu r ∧ okE (sndD r) = true) (hl : rs.length ≤ 1000) : Pk (.tup [w, .lst rs]) := by
  refine ⟨pu_p2 h (pu_lst (fun x hx => (k x hx).1) hl), fun w' rs' e r hr => ?_⟩
  cases e
  exact (k r hr).2
theorem row_pk {r : Rw} (h : r.2.length ≤ 1000) : Pu (rowD r) ∧ okE (sndD (rowD r)) = true := ⟨pu_row h, (lay_waysD r.2).ok⟩
/-- rows with a thing put in -/
theorem pk_put {w : D} {rs : List Rw} {a : Int} {y : D} (h : Pu w) (k : ∀ r ∈ rs, r.2.length ≤ 1000) (hl : rs.length ≤ 300) (hy : Pu y) (hy2 : okE (sndD y) = true) : Pk (.tup [w, .lst (putD (rs.map rowD) a y)]) :=
  pk_of h (fun r hr => (put_mem hr).elim (fun z => by obtain ⟨r', hr', rfl⟩ := List.mem_map.mp z; exact row_pk (k r' hr')) fun z => z ▸ ⟨hy, hy2⟩) (by have := put_len (xs := rs.map rowD) (a := a) (y := y); rw [List.length_map] at this; omega)
def ok_chg (ds : List D) : Prop := ∃ p way a c k, ds = [planD p, .int way, .int a, .int c, .int k] ∧ GoodPlan k p ∧ p.2.length ≤ 70
def W_refP (A : Ad) (ds : List D) (d : D) : Prop := ∃ l dd w x, ds = [hsD A.hs l (llli dd) w, x] ∧ Pu x ∧ isPlan x dd.length = false ∧ d = .bl true
section
variable {K : PySem.W.Frag} {σ : L2.St} {F H : Hp} {te ta tb : TE} {D0 : Ends} {tz : TS} {t : TT} {d : D}
theorem rd_rep1 {x : D} {k : Int} (h0 : 0 ≤ k) (h1 : k ≤ 400) : RD rMulA F (.lst [x]) (.int k) (.lst (List.replicate k.toNat x)) := rd_or2 fun F1 H1 v u a e2 rv ru Q q => by
  obtain ⟨p, ws, rfl, ha, hr⟩ := rv.list
  obtain ⟨v0, _, rfl, hv, hr⟩ := hr.uncons
  obtain rfl := hr.unnil
  refine ⟨p, k, [v0], rfl, ru.eint, e2 _ _ ha, by omega, by omega, Evl.sz_of (by rw [List.length_singleton]; omega), fun l hl' => ?_⟩
  have e : (List.replicate k.toNat [v0]).flatten = List.replicate k.toNat v0 := by
    generalize k.toNat = m
    induction m with
    | zero => rfl
    | succ m ih => rw [List.replicate_succ, List.flatten_cons, ih, List.replicate_succ]; rfl
  rw [e]
  refine q _ _ _ (Nx.new e2 hl') (Rp.mkL upd_same ?_)
  have hv' := hv.mono (Ex.new (Evl.fresh_back e2 hl') (o := .lst (List.replicate k.toNat v0)))
  generalize upd F1 l (.lst (List.replicate k.toNat v0)) = F2 at hv'
  generalize k.toNat = m
  induction m with
  | zero => exact Rps.nil
  | succ m ih => rw [List.replicate_succ, List.replicate_succ]; exact Rps.cons hv' ih
end
end Bp
namespace Bp
open PySem PySem.Spec PyProof.Rows L2
open Evl (Ex)
abbrev pw10 : List Int := [1, 2, 4, 8, 16, 32, 64, 128, 256, 512]
theorem pw10_ok {r : Int} (h0 : 0 ≤ r) (h1 : r < 10) : 0 < lookOf pw10 r ∧ lookOf pw10 r < 1073741824 := by
  have h := lookOf_mem (l := pw10) h0 (by show _ < (10 : Int); omega)
  simp only [pw10, List.mem_cons, List.not_mem_nil, or_false] at h ⊢
  omega
def seenOf (b : Int) : List Int := upto 10 fun r => decide (b / lookOf pw10 r % 2 = 1)
def ddOf (k : Int) : List (List (List Int)) := (List.range k.toNat).map fun _ => [[0]]
theorem house1 {x k : Int} (hk : 1 ≤ k ∧ k ≤ 5) (hx : 0 ≤ x ∧ x < 10) : Hs [x] (ddOf k) [] := by
  have hl : (ddOf k).length = k.toNat := by unfold ddOf; rw [List.length_map, List.length_range]
  refine ⟨by simp, by simp, fun y hy => ?_, by omega, by omega, fun e he => ?_, fun e he y hy => ?_, ⟨by simp, by simp⟩⟩
  · obtain rfl := List.mem_singleton.mp hy; exact hx
  · obtain ⟨_, _, rfl⟩ := List.mem_map.mp he; rfl
  · obtain ⟨_, _, rfl⟩ := List.mem_map.mp he
    obtain rfl := List.mem_singleton.mp hy
    exact ⟨⟨by simp, by simp⟩, by simp⟩
theorem ex_del {G F : Hp} {b : Addr} (e : Ex G F) (h : G b = none) : Ex G (del F b) := fun p o hp => by
  have ne : p ≠ b := fun z => by rw [z, h] at hp; cases hp
  rw [del_ne ne]; exact e p o hp
theorem ways_rows {F : Hp} {us : List V} {ws : List (Int × Int)} {rs : List Rw} (h : Rps F us (ws.map wayD)) (k : Rps F us (rs.map rowD)) : us = [] ∧ ws = [] ∧ rs = [] := by
  cases ws with
  | nil =>
    have e := h.unnil
    subst e
    have := k.n
    rw [List.length_map] at this
    exact ⟨rfl, rfl, List.length_eq_zero_iff.mp (by simpa using this.symm)⟩
  | cons w0 ws0 =>
    cases rs with
    | nil =>
      have e := k.unnil
      subst e
      have := h.n
      simp at this
    | cons r0 rs0 =>
      exfalso
      obtain ⟨x, xs, rfl, hx, _⟩ := Rps.uncons (d := rowD r0) (ds := rs0.map rowD) k
      obtain ⟨x', xs', e2, hx', _⟩ := Rps.uncons (d := wayD w0) (ds := ws0.map wayD) h
      obtain ⟨rfl, rfl⟩ := List.cons.inj e2
      obtain ⟨t1, ys, rfl, ht, hy⟩ := hx.tuple
      obtain ⟨t2, zs, e3, ht', hz⟩ := hx'.tuple
      cases e3
      rw [ht] at ht'
      cases ht'
      obtain ⟨y0, _, rfl, _, hy⟩ := hy.uncons
      obtain ⟨y1, _, rfl, hy1, hy⟩ := hy.uncons
      obtain ⟨z0, _, e4, _, hz⟩ := hz.uncons
      cases e4
      obtain ⟨z1, _, e5, hz1, hz⟩ := hz.uncons
      cases e5
      obtain ⟨q, _, eq, _⟩ := hy1.list
      rw [hz1.eint] at eq
      cases eq
def badRow : D := .tup [.non, .lst [wayD (0, 0)]]
theorem pu_bad : Pu badRow := pu_p2 pu_non (pu_lst (by simp; exact pu_way _) (by simp))
theorem bad_plan {w : D} {rs : List D} {n : Int} : isPlan (.tup [w, .lst (rs ++ [badRow])]) n = false := by
  show (decide ((rs ++ [badRow]).length ≤ 300) && areWays w 0 (rs ++ [badRow]).length && rowsOk n (rs ++ [badRow])) = false
  have : rowsOk n (rs ++ [badRow]) = false := by
    rw [Bool.eq_false_iff]
    intro z
    have := rowsOk_iff.mp z rs.length badRow (by rw [List.getElem?_append_right (Nat.le_refl _), Nat.sub_self]; rfl)
    have e : isRow badRow n rs.length (rs ++ [badRow]).length = false := rfl
    rw [e] at this; cases this
  rw [this, Bool.and_false]
section
variable {K : PySem.W.Frag} {σ : L2.St} {F H : Hp} {te tv : TE} {D0 : Ends} {tz : TS} {d : D}
theorem ev_ixt {p : Addr} {xs : List V} {j : Nat} {k : Int} {v : V} (h : EvV te σ H (.ref p)) (hk : k = (j : Int)) (hp : H p = some (.tup xs)) (hx : xs[j]? = some v) : EvV (tOp (rIx K) te (tC (.int k))) σ H v := fun Q q =>
  h _ (Or.inr (Or.inl ⟨p, xs, k, v, rfl, rfl, Evl.st_of hp, by rw [hk]; exact atI_nat hx, q⟩))
theorem q_appE {b : Addr} {ys : List V} (e : Ex F H) (h : EvV te σ H (.ref b)) (hb : H b = some (.lst ys)) (fb : F b = none) (hz : ys.length < 100000) (hv : ED tv σ F d)
    (k : ∀ v F1 H1, Nx F H F1 H1 → F1 b = none → Rp F1 v d → tz D0 σ (upd H1 b (.lst (ys ++ [v])))) : tSeq (tDrop (tBM K "list" rAppend te (tCons tv tNil))) tz D0 σ H :=
  h _ ⟨Or.inl ⟨rfl, ys, Evl.sq_of hb⟩, hv F H (Ex.refl F) e _ fun v F1 H1 n1 r1 => ⟨b, ys, v, rfl, rfl, n1.h _ _ hb, Evl.sz_lt hz, k v F1 H1 n1 (n1.n b (by rw [hb]; exact fun z => nomatch z) fb) r1⟩⟩
end
end Bp
namespace Bp
open PySem PySem.Spec PyProof.Rows L2
open Evl (Ex)
/-! ## reads whose answer stands in a smaller frozen part F, with FP ⊇ F frozen while they are made -/
def EDF (te : TE) (σ : L2.St) (F FP : Hp) (d : D) : Prop := ∀ F1 H1, Ex FP F1 → Ex F1 H1 → ∀ Q : VK, (∀ v H2, Nx F1 H1 F1 H2 → Rp F v d → Q v H2) → te σ H1 Q
section
variable {K : PySem.W.Frag} {σ : L2.St} {F FP H : Hp} {te tb ta : TE} {tl : TA} {D0 : Ends} {tz tu : TS} {t : TT} {d x y : D} {i j : Nat}
theorem edf_var {v : V} (h : σ[i]? = some (some v)) (r : Rp F v d) : EDF (tVar i) σ F FP d := fun F1 H1 _ e2 _ q => ⟨v, h, q v H1 (Nx.refl e2) r⟩
theorem edf_ixl {ds : List D} {k : Int} (e : Ex F FP) (h : EDF te σ F FP (.lst ds)) (hb : ED tb σ FP (.int k)) (hd : atI ds k = some d) : EDF (tOp (rIx K) te tb) σ F FP d := fun F1 H1 e1 e2 Q q =>
  h F1 H1 e1 e2 _ fun v H2 n2 rv => hb F1 H2 e1 n2.fh _ fun u F3 H3 n3 ru => by
    obtain ⟨a, vs, rfl, ha, hr⟩ := rv.list
    unfold atI at hd
    cases hj : ixN ds.length k with
    | none => rw [hj] at hd; cases hd
    | some j =>
      rw [hj] at hd
      obtain ⟨w, hw, rw_⟩ := hr.get (show ds[j]? = some d from hd)
      refine Or.inl ⟨a, vs, k, w, rfl, ru.eint, Evl.sq_of (n3.h _ _ (n2.h _ _ (e2 _ _ (e1 _ _ (e _ _ ha))))), ?_, q w H3 (n2.trans n3).drop rw_⟩
      unfold atI
      rw [hr.n, hj]; exact hw
theorem edf_ixt {ds : List D} {k : Int} (e : Ex F FP) (h : EDF te σ F FP (.tup ds)) (hb : ED tb σ FP (.int k)) (hd : atI ds k = some d) : EDF (tOp (rIx K) te tb) σ F FP d := fun F1 H1 e1 e2 Q q =>
  h F1 H1 e1 e2 _ fun v H2 n2 rv => hb F1 H2 e1 n2.fh _ fun u F3 H3 n3 ru => by
    obtain ⟨a, vs, rfl, ha, hr⟩ := rv.tuple
    unfold atI at hd
    cases hj : ixN ds.length k with
    | none => rw [hj] at hd; cases hd
    | some j =>
      rw [hj] at hd
      obtain ⟨w, hw, rw_⟩ := hr.get (show ds[j]? = some d from hd)
      refine Or.inr (Or.inl ⟨a, vs, k, w, rfl, ru.eint, Evl.st_of (n3.h _ _ (n2.h _ _ (e2 _ _ (e1 _ _ (e _ _ ha))))), ?_, q w H3 (n2.trans n3).drop rw_⟩)
      unfold atI
      rw [hr.n, hj]; exact hw
theorem EDF.ed (e : Ex F FP) (h : EDF te σ F FP d) : ED te σ FP d := fun F1 H1 e1 e2 Q q => h F1 H1 e1 e2 Q fun v H2 n r => q v F1 H2 n (r.mono (e.trans e1))
theorem q_asgF (e : Ex FP H) (h : EDF te σ F FP d) (k : ∀ v H1, Nx FP H FP H1 → Rp F v d → tz D0 (σ.set i (some v)) H1) : tSeq (tAsg te (gName i)) tz D0 σ H := h FP H (Ex.refl FP) e _ k
theorem s_asgF (e : Ex FP H) (h : EDF te σ F FP d) (k : ∀ v H1, Nx FP H FP H1 → Rp F v d → D0.nx (σ.set i (some v)) H1) : tAsg te (gName i) D0 σ H := h FP H (Ex.refl FP) e _ k
theorem s_tup2F (eF : Ex F FP) (e : Ex FP H) (h : EDF te σ F FP (.tup [x, y])) (q : ∀ v u H1, Nx FP H FP H1 → Rp F v x → Rp F u y → D0.nx ((σ.set i (some v)).set j (some u)) H1) :
    tAsg te (gTup K 2 (gCons (gName i) (gCons (gName j) gNil))) D0 σ H := h FP H (Ex.refl FP) e _ fun v H1 n1 r1 => by
  obtain ⟨a, us, rfl, ha, hr⟩ := r1.tuple
  obtain ⟨v0, _, rfl, h0, hr⟩ := hr.uncons
  obtain ⟨v1, _, rfl, h1, hr⟩ := hr.uncons
  obtain rfl := hr.unnil
  exact ⟨a, _, rfl, Evl.st_of (n1.fh _ _ (eF _ _ ha)), rfl, v0, _, rfl, v1, _, rfl, rfl, q v0 v1 H1 n1 h0 h1⟩
theorem q_tup2F (eF : Ex F FP) (e : Ex FP H) (h : EDF te σ F FP (.tup [x, y])) (q : ∀ v u H1, Nx FP H FP H1 → Rp F v x → Rp F u y → tz D0 ((σ.set i (some v)).set j (some u)) H1) :
    tSeq (tAsg te (gTup K 2 (gCons (gName i) (gCons (gName j) gNil)))) tz D0 σ H := s_tup2F (D0 := { D0 with nx := tz D0 }) eF e h q
/-- xs.append(n), a whole number -/
theorem s_appI {p : Addr} {vs : List V} {n : Int} (e : Ex F H) (hi : σ[i]? = some (some (.ref p))) (hl : H p = some (.lst vs)) (hz : vs.length < 100000) (h : ED te σ F (.int n))
    (k : ∀ H1, Nx F H F H1 → D0.nx σ (upd H1 p (.lst (vs ++ [.int n])))) : tDrop (tBM K "list" rAppend (tVar i) (tCons te tNil)) D0 σ H :=
  ⟨.ref p, hi, Or.inl ⟨rfl, vs, Evl.sq_of hl⟩, h F H (Ex.refl F) e _ fun v F1 H1 n1 r1 => ⟨p, vs, v, rfl, rfl, n1.h _ _ hl, Evl.sz_lt hz, by rw [r1.eint]; exact k H1 n1.drop⟩⟩
theorem q_appI {p : Addr} {vs : List V} {n : Int} (e : Ex F H) (hi : σ[i]? = some (some (.ref p))) (hl : H p = some (.lst vs)) (hz : vs.length < 100000) (h : ED te σ F (.int n))
    (k : ∀ H1, Nx F H F H1 → tz D0 σ (upd H1 p (.lst (vs ++ [.int n])))) : tSeq (tDrop (tBM K "list" rAppend (tVar i) (tCons te tNil))) tz D0 σ H := s_appI (D0 := { D0 with nx := tz D0 }) e hi hl hz h k
/-- [a], a whole number, the list outside the frozen part -/
theorem q_new1 {n : Int} (e : Ex F H) (h : ED te σ F (.int n)) (k : ∀ H1, Nx F H F H1 → ∀ p, H1 p = none → tz D0 (σ.set i (some (.ref p))) (upd H1 p (.lst [.int n]))) : tSeq (tAsg (tLst (tCons te tNil)) (gName i)) tz D0 σ H :=
  h F H (Ex.refl F) e _ fun v F1 H1 n1 r1 => by
    rw [r1.eint]
    exact ⟨Evl.sz_of (show 1 ≤ 100000 by decide), fun p hp => k H1 n1.drop p hp⟩
theorem s_forR {n : Int} (e : Ex F H) (h : EA tl σ F [.int n]) (hn : 0 ≤ n ∧ n ≤ 100000)
    (k : ∀ H1, Nx F H F H1 → ∃ P : Nat → L2.St → Hp → Prop, P 0 σ H1 ∧
      (∀ (i : Nat) σ' H', (i : Int) < n → P i σ' H' → tu { D0 with nx := P (i + 1), ct := P (i + 1), bk := D0.nx } (σ'.set j (some (.int (i : Int)))) H') ∧ (∀ σ' H', P n.toNat σ' H' → D0.nx σ' H')) : tFor (iRng1 tl) (gName j) tu D0 σ H :=
  h F H (Ex.refl F) e _ fun vs F1 H1 n1 r1 => by
    obtain ⟨v, us, rfl, h1, h2⟩ := r1.uncons
    rw [h2.unnil, h1.eint]
    obtain ⟨P, p0, ps, pd⟩ := k H1 n1.drop
    refine ⟨n, rfl, by omega, by omega, for_range (D := D0) (lo := 0) (n := n.toNat) P p0 (fun i σ' H' hi p => ?_) pd⟩
    have e0 : (0 : Int) + (i : Int) = (i : Int) := Int.zero_add _
    show tu _ (σ'.set j (some (.int ((0 : Int) + (i : Int))))) H'
    rw [e0]
    exact ps i σ' H' (by omega) p
/-- a while -/
theorem q_while (Pv : Nat → L2.St → Hp → Prop) (h0 : ∃ m, Pv m σ H)
    (hs : ∀ m σ H, Pv m σ H → ∃ F b, Ex F H ∧ ET t σ F b ∧ (b = true → ∀ H1, Nx F H F H1 → tu { D0 with nx := fun σ' H' => ∃ m', m' < m ∧ Pv m' σ' H', ct := fun σ' H' => ∃ m', m' < m ∧ Pv m' σ' H', bk := tz D0 } σ H1) ∧ (b = false → ∀ H1, Nx F H F H1 → tz D0 σ H1)) : tSeq (tWhile t tu) tz D0 σ H := by
  refine ⟨Pv, h0, fun m σ H p => ?_⟩
  obtain ⟨F, b, e, ht, h1, h2⟩ := hs m σ H p
  refine ht F H (Ex.refl F) e _ fun F1 H1 n1 => ?_
  cases b with
  | true => exact ⟨fun σ' H' => ∃ m', m' < m ∧ Pv m' σ' H', fun σ' H' h => h, h1 rfl H1 n1.drop⟩
  | false => exact h2 rfl H1 n1.drop
/-! what raises -/
def RZ (te : TE) (σ : L2.St) (F : Hp) (C : Addr) (E : XK) : Prop := ∀ F1 H1, Ex F F1 → Ex F1 H1 → (∀ H2, Ex H1 H2 → E (.ref C) none H2) → ∀ Q : VK, te σ H1 Q
theorem rz_call {R : List D → D → Prop} {W : List D → Addr → Prop} {E : XK} {ds : List D} {C : Addr} (h : EA tl σ F ds) (hW : W ds C) : RZ (tCall (spX R W) [] E tl) σ F C E := fun F1 H1 e1 e2 k Q =>
  h F1 H1 e1 e2 _ fun vs F2 H2 n2 r2 => ⟨F2, ds, n2.fh, by rw [List.append_nil]; exact r2, Or.inr ⟨C, hW, fun H3 e3 => k H3 (n2.h.trans e3)⟩⟩
theorem rz_op2 {r : R2} {E : XK} {C : Addr} (h : ED ta σ F x) (hb : RZ tb σ F C E) : RZ (tOp r ta tb) σ F C E := fun F1 H1 e1 e2 k Q =>
  h F1 H1 e1 e2 _ fun v F2 H2 n2 r2 => hb F2 H2 (e1.trans n2.f) n2.fh (fun H3 e3 => k H3 (n2.h.trans e3)) _
theorem s_asgZ {g : TG} {C : Addr} {E : XK} (e : Ex F H) (h : RZ te σ F C E) (k : ∀ H2, Ex H H2 → E (.ref C) none H2) : tAsg te g D0 σ H := h F H (Ex.refl F) e k _
theorem q_asgZ {g : TG} {C : Addr} {E : XK} (e : Ex F H) (h : RZ te σ F C E) (k : ∀ H2, Ex H H2 → E (.ref C) none H2) : tSeq (tAsg te g) tz D0 σ H := h F H (Ex.refl F) e k _
theorem q_dropZ {C : Addr} {E : XK} (e : Ex F H) (h : RZ te σ F C E) (k : ∀ H2, Ex H H2 → E (.ref C) none H2) : tSeq (tDrop te) tz D0 σ H := h F H (Ex.refl F) e k _
/-! a comprehension over pairs -/
theorem ed_lcP {α : Type} {emb : α → D} {e1 e2 : α → D} {xs : List α} {tl : TE} {ws : List Nat} (he12 : ∀ x, emb x = .tup [e1 x, e2 x]) (f : α → Bool) (g : α → D) (h : ED tl σ F (.lst (xs.map emb))) (hz : xs.length < 50000) (hw : ∀ x y, wipe (((wipe σ ws).set i (some x)).set j (some y)) ws = wipe σ ws)
    (ht : ∀ x v u F1, x ∈ xs → Ex F F1 → Rp F1 v (e1 x) → Rp F1 u (e2 x) → ET t (((wipe σ ws).set i (some v)).set j (some u)) F1 (f x)) (he : ∀ x v u F1, x ∈ xs → Ex F F1 → Rp F1 v (e1 x) → Rp F1 u (e2 x) → f x = true → ED te (((wipe σ ws).set i (some v)).set j (some u)) F1 (g x)) :
    ED (tLc (iList K tl) (gTup K 2 (gCons (gName i) (gCons (gName j) gNil))) t te ws) σ F (.lst ((xs.filter f).map g)) := fun F0 H0 ea eb Q q => h F0 H0 ea eb _ fun v F1 H1 n1 r1 => by
  obtain ⟨a, vs, rfl, ha, hr⟩ := r1.list
  refine ⟨a, rfl, ⟨vs, Evl.sq_of (n1.fh _ _ ha)⟩, fun Dl hD => ?_⟩
  refine lc_list (xs := vs) (fun i H' => Cw F1 H1 Dl (((xs.take i).filter f).map g) H') (Cw.start n1.fh hD) (fun i H' _ p => ?_) (fun i x H' hi p => ?_) (fun H' p => ?_)
  · obtain ⟨Fi, us, n, _⟩ := p.ex
    exact Evl.sq_of (n.fh _ _ (n.f _ _ ha))
  · obtain ⟨d, hd, rd⟩ := hr.getv hi
    rw [List.getElem?_map] at hd
    cases hx : xs[i]? with
    | none => rw [hx] at hd; cases hd
    | some y =>
      rw [hx] at hd
      obtain rfl : emb y = d := Option.some.inj hd
      have hm : y ∈ xs := List.mem_of_getElem? hx
      rw [he12] at rd
      obtain ⟨b, us, rfl, hb, hu⟩ := rd.tuple
      obtain ⟨v0, _, rfl, h0, hu⟩ := hu.uncons
      obtain ⟨v1, _, rfl, h1, hu⟩ := hu.uncons
      obtain rfl := hu.unnil
      have hHb : H' b = some (.tup [v0, v1]) := by
        obtain ⟨Fi, us, n, _⟩ := p.ex
        exact n.fh _ _ (n.f _ _ hb)
      refine ⟨b, _, rfl, Evl.st_of hHb, rfl, v0, _, rfl, v1, _, rfl, rfl, hw v0 v1, ?_⟩
      refine Cw.turn p ?_ (ht y v0 v1 F1 hm (ea.trans n1.f) h0 h1) (fun hf => he y v0 v1 F1 hm (ea.trans n1.f) h0 h1 hf) (fun H'' p' => ?_)
      · rw [List.length_map]
        have := List.length_filter_le f (xs.take i)
        rw [List.length_take] at *
        omega
      · rw [take_filter_map hx]
        exact p'
  · have hn : vs.length = xs.length := by rw [hr.n, List.length_map]
    have ef : xs.take vs.length = xs := List.take_of_length_le (by omega)
    rw [ef] at p
    obtain ⟨F2, n2, r2⟩ := p.done
    exact q _ F2 H' (n1.trans n2) r2
end
/-! ## dict(ways) -/
def rDictP (K : PySem.W.Frag) : List V → Hp → VK → Prop := fun xs H Q => ∃ (a : Addr) (ps : List Addr) (kvs : List (L2.Key × V)), xs = [.ref a] ∧ SqL K H a (ps.map V.ref) ∧ Paired (fun p kv => SqT K H p [kV kv.1, kv.2]) ps kvs ∧
    ∀ p, H p = none → Q (.ref p) (upd H p (.dK (mergeK [] kvs)))
theorem dict_K {X : Cx} (K : PySem.W.Frag) (hc : X.calm = true) (h : X.K = K := by rfl) : CallR X (.type "dict") (rDictP K) := by subst h; exact call_dictP hc
def kvsOf (ws : List (Int × Int)) : List (L2.Key × V) := ws.map fun w => (Sum.inl w.1, V.int w.2)
def plc (ws : List (Int × Int)) (k : Int) : List Int := (ws.filter fun w => decide (w.1 = k)).map Prod.snd
theorem putK_new {kvs : List (L2.Key × V)} {k : L2.Key} {v : V} (h : ∀ p ∈ kvs, p.1 ≠ k) : putK kvs k v = kvs ++ [(k, v)] := by
  unfold putK
  rw [if_neg]
  intro z
  obtain ⟨p, hp, e⟩ := List.any_eq_true.mp z
  exact h p hp (of_decide_eq_true e)
theorem merge_kvs : ∀ (ws : List (Int × Int)) (acc : List (L2.Key × V)), (ws.map Prod.fst).Nodup → (∀ w ∈ ws, ∀ p ∈ acc, p.1 ≠ Sum.inl w.1) → mergeK acc (kvsOf ws) = acc ++ kvsOf ws
  | [], acc, _, _ => by simp [kvsOf, mergeK]
  | w :: ws, acc, hn, hd => by
    have hn' := List.nodup_cons.mp hn
    show mergeK (putK acc (Sum.inl w.1) (V.int w.2)) (kvsOf ws) = _
    rw [putK_new (hd w (by simp)), merge_kvs ws _ hn'.2 fun w' hw' p hp => ?_]
    · simp [kvsOf]
    · rcases List.mem_append.mp hp with z | z
      · exact hd w' (by simp [hw']) p z
      · obtain rfl := List.mem_singleton.mp z
        intro y
        have : w.1 = w'.1 := Sum.inl.inj y
        exact hn'.1 (List.mem_map.mpr ⟨w', hw', this.symm⟩)
theorem val_kvs (k : Int) : ∀ ws : List (Int × Int), valV (kvsOf ws) (Sum.inl k) = (plc ws k).head?.map V.int
  | [] => rfl
  | w :: ws => by
    have ih := val_kvs k ws
    by_cases h : w.1 = k
    · show valV ((Sum.inl w.1, V.int w.2) :: kvsOf ws) _ = _
      rw [valV_pos (by rw [h])]
      simp [plc, h]
    · show valV ((Sum.inl w.1, V.int w.2) :: kvsOf ws) _ = _
      rw [valV_neg (by intro z; exact h (Sum.inl.inj z)), ih]
      simp [plc, h]
theorem GoodWays.nodup {a b : Int} {ws : List (Int × Int)} (h : GoodWays a b ws) : (ws.map Prod.fst).Nodup := h.1.1.imp fun h => by omega
section
variable {K : PySem.W.Frag} {σ : L2.St} {F H : Hp} {te tb ta ty : TE} {D0 : Ends} {tz : TS} {d : D} {i : Nat} {ws : List (Int × Int)}
theorem paired_ways {F H : Hp} (e : Ex F H) : ∀ {ws : List (Int × Int)} {vs : List V}, Rps F vs (ws.map wayD) → ∃ ps : List Addr, vs = ps.map V.ref ∧ Paired (fun p kv => SqT K H p [kV kv.1, kv.2]) ps (kvsOf ws)
  | [], vs, h => ⟨[], by rw [h.unnil]; rfl, .nil⟩
  | w :: ws, vs, h => by
    obtain ⟨v, us, rfl, h1, h2⟩ := Rps.uncons (d := wayD w) (ds := ws.map wayD) h
    obtain ⟨ps, rfl, hp⟩ := paired_ways e h2
    obtain ⟨a, xs, rfl, ha, hr⟩ := h1.tuple
    obtain ⟨v0, _, rfl, h0, hr⟩ := hr.uncons
    obtain ⟨v1, _, rfl, h1, hr⟩ := hr.uncons
    obtain rfl := hr.unnil
    rw [h0.eint, h1.eint] at ha
    exact ⟨a :: ps, rfl, .cons (Evl.st_of (e _ _ ha)) hp⟩
/-- a dict stands at p in F -/
theorem te_dict {Q : VK} (e : Ex F H) (h : ED ta σ F (waysD ws)) (hn : (ws.map Prod.fst).Nodup) (k : ∀ p F1 H1, Nx F H F1 H1 → F1 p = some (.dK (kvsOf ws)) → Q (.ref p) H1) : tCB (rDictP K) (tCons ta tNil) σ H Q :=
  h F H (Ex.refl F) e _ fun v F1 H1 n1 r1 => by
    obtain ⟨a, vs, rfl, ha, hr⟩ := r1.list
    obtain ⟨ps, rfl, hp⟩ := paired_ways (K := K) n1.fh hr
    refine ⟨a, ps, kvsOf ws, rfl, Evl.sq_of (n1.fh _ _ ha), hp, fun p hp' => ?_⟩
    rw [merge_kvs ws [] hn (by simp), List.nil_append]
    exact k p _ _ (n1.trans (Nx.new n1.fh hp')) upd_same
theorem q_dict (e : Ex F H) (h : ED ta σ F (waysD ws)) (hn : (ws.map Prod.fst).Nodup) (k : ∀ p F1 H1, Nx F H F1 H1 → F1 p = some (.dK (kvsOf ws)) → tz D0 (σ.set i (some (.ref p))) H1) : tSeq (tAsg (tCB (rDictP K) (tCons ta tNil)) (gName i)) tz D0 σ H :=
  te_dict e h hn k
theorem head_dp {F : Hp} (o : Option Int) : Rp F ((o.map V.int).getD .non) (dpD o) := by cases o; exact .non; exact .int _
theorem ed_get {p : Addr} {k : Int} (hσ : σ[i]? = some (some (.ref p))) (hp : F p = some (.dK (kvsOf ws))) (h : ED ty σ F (.int k)) : ED (tDGet1 (tVar i) ty) σ F (dpD (plc ws k).head?) := fun F1 H1 e1 e2 Q q =>
  ⟨.ref p, hσ, p, rfl, Or.inl ⟨_, Or.inl (e2 _ _ (e1 _ _ hp))⟩, h F1 H1 e1 e2 _ fun v F2 H2 n2 r2 => by
    rw [r2.eint]
    refine ⟨_, DGet.k (k := Sum.inl k) (n2.fh _ _ ((e1.trans n2.f) _ _ hp)), ?_⟩
    rw [val_kvs]
    exact q _ F2 H2 n2 (head_dp _)⟩
/-- dict(ways).get(k) -/
theorem ed_dget {k : Int} (h : ED ta σ F (waysD ws)) (hn : (ws.map Prod.fst).Nodup) (hk : ED ty σ F (.int k)) : ED (tDGet1 (tCB (rDictP K) (tCons ta tNil)) ty) σ F (dpD (plc ws k).head?) := fun F1 H1 e1 e2 Q q =>
  te_dict e2 (h.mono e1) hn fun p F2 H2 n2 hp => ⟨p, rfl, Or.inl ⟨_, Or.inl (n2.fh _ _ hp)⟩, hk F2 H2 (e1.trans n2.f) n2.fh _ fun v F3 H3 n3 r3 => by
    rw [r3.eint]
    refine ⟨_, DGet.k (k := Sum.inl k) (n3.fh _ _ (n3.f _ _ hp)), ?_⟩
    rw [val_kvs]
    exact q _ F3 H3 (n2.trans n3) (head_dp _)⟩
end
end Bp
namespace Bp
open PySem PySem.Spec PyProof.Rows L2
open Evl (Ex)
theorem hu1_of {n : Nat} (h : n + 64 < cLine) : n + 1 < cLine := by omega
/-! ## law k06: gone by a plan -/
def rowAt (rows : List Rw) (p : Int) : Rw := rows.getD p.toNat (none, [])
def stepR (dd : List (List (List Int))) (d r t : Int) : Int := lookOf (entryOf (deedOf dd d) r) (t % ((entryOf (deedOf dd d) r).length : Int))
def walkL (l : List Int) (dd : List (List (List Int))) (rows : List Rw) : List Int → List (Int × Int) → Int → List Int → Option (List Int)
  | [], _, _, _ => none
  | t :: ts, ws, r, f => match plc ws (lookOf l r) with
    | [] => none
    | p :: _ => match rowAt rows p with
      | (none, _) => some f
      | (some d, ws') => walkL l dd rows ts ws' (stepR dd d r t) (f ++ [stepR dd d r t])
def turnsOf (ts : List Int) (n : Nat) : List Int := ts ++ List.replicate (n + 1) 0
def dueOf (l : List Int) (dd : List (List (List Int))) (p : Pl) (r : Int) (ts : List Int) : Option (List Int) := walkL l dd p.2 (turnsOf ts p.2.length) p.1 r [r]
/-- what is left to do at a row -/
def contRow (l : List Int) (dd : List (List (List Int))) (rows : List Rw) (T : List Int) (row : Rw) (k : Nat) (r : Int) (f : List Int) : Option (List Int) :=
  match row with
  | (none, _) => some f
  | (some d, ws') => walkL l dd rows (T.drop (k + 1)) ws' (stepR dd d r (T.getD k 0)) (f ++ [stepR dd d r (T.getD k 0)])
theorem walk_cont {l : List Int} {dd : List (List (List Int))} {rows : List Rw} {T : List Int} {k : Nat} {ws : List (Int × Int)} {r : Int} {f : List Int} (hk : k < T.length) :
    walkL l dd rows (T.drop k) ws r f = match plc ws (lookOf l r) with | [] => none | p :: _ => contRow l dd rows T (rowAt rows p) k r f := by
  rw [List.drop_eq_getElem_cons hk]
  have e : T.getD k 0 = T[k] := by rw [List.getD_eq_getElem?_getD, List.getElem?_eq_getElem hk]; rfl
  show (match plc ws (lookOf l r) with | [] => none | p :: _ => _) = _
  cases plc ws (lookOf l r) with
  | nil => rfl
  | cons p ps =>
    show (match rowAt rows p with | (none, _) => _ | (some d, ws') => _) = contRow l dd rows T (rowAt rows p) k r f
    unfold contRow
    rw [e]
theorem turns_getD (ts : List Int) (n k : Nat) : (turnsOf ts n).getD k 0 = ts.getD k 0 := by
  unfold turnsOf
  rw [List.getD_eq_getElem?_getD, List.getD_eq_getElem?_getD]
  by_cases h : k < ts.length
  · rw [List.getElem?_append_left h]
  · rw [List.getElem?_append_right (by omega), List.getElem?_eq_none (show ts.length ≤ k by omega), List.getElem?_replicate]
    split <;> rfl
theorem plc_mem {a b : Int} {ws : List (Int × Int)} (h : GoodWays a b ws) {k p : Int} {ps : List Int} (e : plc ws k = p :: ps) : a ≤ p ∧ p < b := by
  have : p ∈ plc ws k := by rw [e]; simp
  obtain ⟨w, hw, rfl⟩ := List.mem_map.mp this
  exact h.2 w (List.mem_filter.mp hw).1
theorem rowAt_get {rows : List Rw} {p : Int} (h0 : 0 ≤ p) (h1 : p < rows.length) : rows[p.toNat]? = some (rowAt rows p) := by
  have h : p.toNat < rows.length := by omega
  unfold rowAt
  rw [List.getD_eq_getElem?_getD, List.getElem?_eq_getElem h]; rfl
theorem atI_rows {rows : List Rw} {p : Int} (h0 : 0 ≤ p) (h1 : p < rows.length) : atI (rows.map rowD) p = some (rowD (rowAt rows p)) := by
  refine at_nat (j := p.toNat) (by omega) ?_
  rw [List.getElem?_map, rowAt_get h0 h1]; rfl
theorem step_ok {l : List Int} {dd : List (List (List Int))} {w : List Int} (hs : Hs l dd w) {d r t : Int} (d0 : 0 ≤ d) (d1 : d < dd.length) (r0 : 0 ≤ r) (r1 : r < l.length) : 0 < (entryOf (deedOf dd d) r).length ∧ (deedOf dd d).length = l.length ∧ 0 ≤ stepR dd d r t ∧ stepR dd d r t < l.length := by
  have hm := deedOf_mem d0 d1
  have hl := hs.dn _ hm
  have hx := entryOf_mem (e := deedOf dd d) r0 (by omega)
  have ⟨up, ne⟩ := hs.de _ hm _ hx
  have h0 : 0 < (entryOf (deedOf dd d) r).length := List.length_pos_iff.mpr ne
  have a := Int.emod_nonneg t (b := ((entryOf (deedOf dd d) r).length : Int)) (by omega)
  have b := Int.emod_lt_of_pos t (show 0 < ((entryOf (deedOf dd d) r).length : Int) by omega)
  have := up.2 _ (lookOf_mem a b)
  exact ⟨h0, hl, this.1, this.2⟩
theorem atI_lastI (f : List Int) (r : Int) : atI ((f ++ [r]).map D.int) (-1) = some (.int r) := by
  have e : (f ++ [r]).map D.int = f.map D.int ++ [D.int r] := by rw [List.map_append]; rfl
  rw [e]
  exact atI_last _ _
def R_need_room (A : Ad) (ds : List D) (d : D) : Prop := ∃ l dd w x, ds = [hsD A.hs (li l) dd w, x] ∧ noObj x = true ∧ isWhole x l.length = true ∧ d = .non
def W_need_room (A : Ad) (ds : List D) (C : Addr) : Prop := ∃ l dd w x, ds = [hsD A.hs (li l) dd w, x] ∧ noObj x = true ∧ isWhole x l.length = false ∧ C = A.bg
def R_need_way (ds : List D) (d : D) : Prop := ∃ ws k p ps, ds = [waysD ws, .int k] ∧ (ws.map Prod.fst).Nodup ∧ plc ws k = p :: ps ∧ d = .int p
def W_need_way (A : Ad) (ds : List D) (C : Addr) : Prop := ∃ ws k, ds = [waysD ws, .int k] ∧ (ws.map Prod.fst).Nodup ∧ plc ws k = [] ∧ C = A.nw
def R_room_behind (ds : List D) (d : D) : Prop := ∃ e ts k, ds = [li e, li ts, .int k] ∧ 0 < e.length ∧ 0 ≤ k ∧ d = .int (lookOf e (ts.getD k.toNat 0 % (e.length : Int)))
def R_gone (A : Ad) (ds : List D) (d : D) : Prop := ∃ l dd w p r ts f, ds = [hsD A.hs (li l) (llli dd) (li w), planD p, .int r, li ts] ∧ Hs l dd w ∧ GoodPlan dd.length p ∧ 0 ≤ r ∧ r < (l.length : Int) ∧ dueOf l dd p r ts = some f ∧ d = li f
def W_gone (A : Ad) (ds : List D) (C : Addr) : Prop := ∃ l dd w x y z, ds = [hsD A.hs (li l) (llli dd) (li w), x, y, z] ∧ Hs l dd w ∧
  ((Pu x ∧ isPlan x dd.length = false ∧ C = A.bp) ∨ (∃ p, x = planD p ∧ GoodPlan dd.length p ∧ noObj y = true ∧ isWhole y l.length = false ∧ C = A.bg) ∨ (∃ p r ts, x = planD p ∧ GoodPlan dd.length p ∧ y = .int r ∧ 0 ≤ r ∧ r < (l.length : Int) ∧ z = li ts ∧ dueOf l dd p r ts = none ∧ C = A.nw))
def optD : Option (List Int) → D
  | none => .non
  | some f => li f
def R_due (ds : List D) (d : D) : Prop := ∃ l dd w p r ts, ds = [.tup [li l, llli dd, li w], planD p, .int r, li ts] ∧ Hs l dd w ∧ GoodPlan dd.length p ∧ p.2.length ≤ 90 ∧ ts.length ≤ 200 ∧ 0 ≤ r ∧ r < (l.length : Int) ∧ d = optD (dueOf l dd p r ts)
def R_told6 (A : Ad) (ds : List D) (d : D) : Prop := R_gone A ds d ∨ ∃ C, W_gone A ds C ∧ ((C = A.nw ∧ d = .str "way") ∨ (C = A.bp ∧ d = .str "plan") ∨ (C = A.bg ∧ d = .str "guess"))
/-- the two lists of moved, and handed, cleared and filled anew -/
def spTurn : Sp := fun vs H Q _ => ∃ F ph pm m0 m1 v2 v3 ts p xs ys zs, vs = [.ref ph, .ref pm, v2, v3] ∧ Ex F H ∧ Rp F v2 (li ts) ∧ Rp F v3 (planD p) ∧ F pm = some (.tup [.ref m0, .ref m1]) ∧ F ph = none ∧ F m0 = none ∧ F m1 = none ∧
  ph ≠ m0 ∧ ph ≠ m1 ∧ m0 ≠ m1 ∧ H ph = some (.lst xs) ∧ H m0 = some (.lst ys) ∧ H m1 = some (.lst zs) ∧ ts.length ≤ 1000 ∧ p.1.length ≤ 1000 ∧ p.2.length ≤ 1000 ∧
  ∀ us ws H2, Rps F us (p.1.map wayD) → Rps F ws (p.2.map rowD) → Ex F H2 → H2 ph = some (.lst (ts.map V.int)) → H2 m0 = some (.lst us) → H2 m1 = some (.lst ws) → Q .non H2
end Bp
namespace Bp
open PySem PySem.Spec PyProof.Rows L2
open Evl (Ex)
section
variable {K : PySem.W.Frag} {σ : L2.St} {F FP H : Hp} {te tb ta : TE} {tl : TA} {D0 : Ends} {tz tu : TS} {t : TT} {d x y : D} {i j : Nat}
/-- list(xs), whole numbers, the new list outside the frozen part -/
theorem q_newL {ns : List Int} (e : Ex F H) (h : ED te σ F (li ns)) (k : ∀ H1, Nx F H F H1 → ∀ p, H1 p = none → tz D0 (σ.set i (some (.ref p))) (upd H1 p (.lst (ns.map V.int)))) : tSeq (tAsg (tCB (rListS' K) (tCons te tNil)) (gName i)) tz D0 σ H :=
  h F H (Ex.refl F) e _ fun v F1 H1 n1 r1 => by
    obtain ⟨a, ws, rfl, ha, hr⟩ := r1.list
    rw [hr.eints] at ha
    exact ⟨a, _, rfl, Or.inl (Or.inl (Or.inl (n1.fh _ _ ha))), fun p hp => k H1 n1.drop p hp⟩
/-- for a, b in t: t a tuple of pairs -/
theorem q_forTP {ds : List D} (e : Ex F H) (h : ED te σ F (.tup ds)) (hp : ∀ d ∈ ds, ∃ x y, d = .tup [x, y])
    (k : ∀ F1 H1, Nx F H F1 H1 → ∃ P : Nat → L2.St → Hp → Prop, P 0 σ H1 ∧ (∀ i σ' H', P i σ' H' → Ex F1 H') ∧
      (∀ n v u x y σ' H', ds[n]? = some (.tup [x, y]) → Rp F1 v x → Rp F1 u y → P n σ' H' → tu { D0 with nx := P (n + 1), ct := P (n + 1), bk := tz D0 } ((σ'.set i (some v)).set j (some u)) H') ∧ (∀ σ' H', P ds.length σ' H' → tz D0 σ' H')) : tSeq (tFor (iTup K te) (gTup K 2 (gCons (gName i) (gCons (gName j) gNil))) tu) tz D0 σ H :=
  h F H (Ex.refl F) e _ fun v F1 H1 n1 r1 => by
    obtain ⟨a, vs, rfl, ha, hr⟩ := r1.tuple
    obtain ⟨P, p0, pe, ps, pd⟩ := k F1 H1 n1
    refine ⟨a, rfl, ⟨vs, Evl.st_of (n1.fh _ _ ha)⟩, for_tup (D := { D0 with nx := tz D0 }) (xs := vs) P p0 (fun i σ' H' _ p => Evl.st_of (pe i σ' H' p _ _ ha)) (fun n x σ' H' hx p => ?_) (fun σ' H' p => pd σ' H' (by rw [← hr.n]; exact p))⟩
    obtain ⟨d, hd, rd⟩ := hr.getv hx
    obtain ⟨x, y, rfl⟩ := hp d (List.mem_of_getElem? hd)
    obtain ⟨b, us, rfl, hb, hu⟩ := rd.tuple
    obtain ⟨v0, _, rfl, h0, hu⟩ := hu.uncons
    obtain ⟨v1, _, rfl, h1, hu⟩ := hu.uncons
    obtain rfl := hu.unnil
    exact ⟨b, _, rfl, Evl.st_of (pe n σ' H' p _ _ hb), rfl, v0, _, rfl, v1, _, rfl, rfl, ps n v0 v1 x y σ' H' hd h0 h1 p⟩
/-- ([], []): two lists that will be changed, in a tuple -/
theorem q_new2 (e : Ex F H) (k : ∀ m0 m1 pm, H m0 = none → H m1 = none → H pm = none → m0 ≠ m1 → m0 ≠ pm → m1 ≠ pm → tz D0 (σ.set i (some (.ref pm))) (upd (upd (upd H m0 (.lst [])) m1 (.lst [])) pm (.tup [.ref m0, .ref m1]))) : tSeq (tAsg (tTup (tCons (tLst tNil) (tCons (tLst tNil) tNil))) (gName i)) tz D0 σ H :=
  ⟨Nat.zero_le _, fun m0 h0 => ⟨Nat.zero_le _, fun m1 h1 => ⟨Evl.sz_of (show 2 ≤ 100000 by decide), fun pm h2 => by
    have n1 : m1 ≠ m0 := fun z => by rw [z, upd_same] at h1; cases h1
    rw [upd_ne n1] at h1
    have n2 : pm ≠ m1 := fun z => by rw [z, upd_same] at h2; cases h2
    rw [upd_ne n2] at h2
    have n3 : pm ≠ m0 := fun z => by rw [z, upd_same] at h2; cases h2
    rw [upd_ne n3] at h2
    exact k m0 m1 pm h0 h1 h2 (Ne.symm n1) (Ne.symm n3) (Ne.symm n2)⟩⟩⟩
end
theorem cutL_take (xs : List D) (n : Nat) : cutL xs none (some (n : Int)) = xs.take n := by
  unfold cutL
  rw [show HT.sIx xs.length 0 none = 0 from rfl, HT.sIx_nat, List.drop_zero, Nat.sub_zero]
  by_cases h : n ≤ xs.length
  · rw [Nat.min_eq_left h]
  · rw [Nat.min_eq_right (by omega), List.take_of_length_le (Nat.le_refl _), List.take_of_length_le (by omega)]
theorem cutL_drop (xs : List D) (n : Nat) : cutL xs (some (n : Int)) none = xs.drop n := by
  unfold cutL
  rw [show HT.sIx xs.length xs.length none = xs.length from rfl, HT.sIx_nat]
  by_cases h : n ≤ xs.length
  · rw [Nat.min_eq_left h, List.take_of_length_le (by rw [List.length_drop]; omega)]
  · rw [Nat.min_eq_right (by omega), List.drop_eq_nil_of_le (Nat.le_refl _), List.drop_eq_nil_of_le (by omega)]; simp
theorem cutL_init (xs : List D) : cutL xs none (some (-1)) = xs.dropLast := by
  unfold cutL
  rw [show HT.sIx xs.length 0 none = 0 from rfl, List.drop_zero, Nat.sub_zero, List.dropLast_eq_take]
  congr 1
  cases xs with
  | nil => rfl
  | cons x xs =>
    show HT.sIx (xs.length + 1) (xs.length + 1) (some (-1)) = xs.length
    unfold HT.sIx
    simp
    try omega
def shorterOf (p : Pl) : Pl := (p.1, [(none, [])].take p.2.length ++ p.2.drop 1)
def turnedOf (p : Pl) : Pl := (p.1, p.2.dropLast ++ [(some 0, [])].take p.2.length)
theorem shorter_len (p : Pl) : (shorterOf p).2.length = p.2.length := by
  unfold shorterOf
  cases h : p.2 with
  | nil => rfl
  | cons x xs => simp
theorem turned_len (p : Pl) : (turnedOf p).2.length = p.2.length := by
  unfold turnedOf
  cases h : p.2 with
  | nil => rfl
  | cons x xs => simp
theorem shorter_ok {n : Int} {p : Pl} (h : GoodPlan n p) : GoodPlan n (shorterOf p) := by
  refine ⟨by rw [shorter_len]; exact h.l, by rw [shorter_len]; exact h.w, fun i r hr => ?_⟩
  rw [shorter_len]
  obtain ⟨ws, rs⟩ := p
  cases rs with
  | nil => simp [shorterOf] at hr
  | cons x xs =>
    have hr : ((none, []) :: xs)[i]? = some r := by simpa [shorterOf] using hr
    cases i with
    | zero => cases hr; rfl
    | succ i => exact h.r (i + 1) r (by simpa using hr)
theorem turned_ok {n : Int} {p : Pl} (h : GoodPlan n p) (hn : 0 < n) : GoodPlan n (turnedOf p) := by
  refine ⟨by rw [turned_len]; exact h.l, by rw [turned_len]; exact h.w, fun i r hr => ?_⟩
  rw [turned_len]
  obtain ⟨ws, rs⟩ := p
  cases rs with
  | nil => simp [turnedOf] at hr
  | cons x xs =>
    have hr : ((x :: xs).dropLast ++ [(some 0, [])])[i]? = some r := by simpa [turnedOf] using hr
    by_cases hi : i < (x :: xs).dropLast.length
    · rw [List.getElem?_append_left hi] at hr
      refine h.r i r ?_
      rw [List.dropLast_eq_take, List.getElem?_take] at hr
      split at hr
      · exact hr
      · cases hr
    · rw [List.getElem?_append_right (by omega)] at hr
      have : r = (some 0, []) := by
        cases hj : i - (x :: xs).dropLast.length with
        | zero => rw [hj] at hr; cases hr; rfl
        | succ j => rw [hj] at hr; simp at hr
      subst this
      exact ⟨Int.le_refl _, hn, ⟨by simp, by simp⟩, by simp⟩
def turnsL (ns : List Int) (m : Int) : List Int := (rng m).map fun k => cell ns (1 + k % 10) / 7 + k
def toldD : Option (List Int) → D
  | none => .str "way"
  | some f => li f
theorem told_ok {A : Ad} {l : List Int} {dd : List (List (List Int))} {w : List Int} {p : Pl} {r : Int} {ts : List Int} (hs : Hs l dd w) (gp : GoodPlan dd.length p) (r0 : 0 ≤ r) (r1 : r < l.length) :
    R_told6 A [hsD A.hs (li l) (llli dd) (li w), planD p, .int r, li ts] (toldD (dueOf l dd p r ts)) := by
  cases h : dueOf l dd p r ts with
  | none => exact .inr ⟨A.nw, ⟨l, dd, w, _, _, _, rfl, hs, .inr (.inr ⟨p, r, ts, rfl, gp, rfl, r0, r1, rfl, h, rfl⟩)⟩, .inl ⟨rfl, rfl⟩⟩
  | some f => exact .inl ⟨l, dd, w, p, r, ts, f, rfl, hs, gp, r0, r1, h, rfl⟩
def odd6 (m : Int) : List D := [.int m, .int (-1), .bl true, .non, .str "0", .bl false]
theorem odd6_ok {m : Nat} {y : D} (h : y ∈ odd6 m) : noObj y = true ∧ isWhole y m = false := by
  simp only [odd6, List.mem_cons, List.not_mem_nil, or_false] at h
  rcases h with rfl | rfl | rfl | rfl | rfl | rfl <;> refine ⟨rfl, ?_⟩ <;> simp [isWhole]
end Bp
namespace Bp
theorem walk_len {l : List Int} {dd : List (List (List Int))} {rows : List Rw} : ∀ {T : List Int} {ws : List (Int × Int)} {r : Int} {f g : List Int}, walkL l dd rows T ws r f = some g → g.length ≤ f.length + T.length
  | [], _, _, _, _, h => by cases h
  | t :: T, ws, r, f, g, h => by
    unfold walkL at h
    cases hp : plc ws (lookOf l r) with
    | nil => rw [hp] at h; cases h
    | cons p ps =>
      rw [hp] at h
      simp only at h
      split at h
      · cases h; omega
      · have := walk_len h
        rw [List.length_append, List.length_singleton] at this
        rw [List.length_cons]; omega
theorem due_len' {l : List Int} {dd : List (List (List Int))} {p : Pl} {r : Int} {ts f : List Int} (h : dueOf l dd p r ts = some f) (h1 : p.2.length ≤ 300) (h2 : ts.length ≤ 1000) : f.length < 50000 := by
  have := walk_len h
  unfold turnsOf at this
  rw [List.length_append, List.length_replicate, List.length_singleton] at this
  omega
end Bp
namespace Bp
open PySem PySem.Spec PyProof.Rows L2
open Evl (Ex)
/-! ## the steps of a plan -/
abbrev Tb := Int → Int → Option Int
def goM : List (Option Int) → Int → Option Int
  | [], m => some m
  | none :: _, _ => none
  | some a :: xs, m => goM xs (if a > m then a else m)
def wayT (l : List Int) (T : Tb) (ws : List (Int × Int)) (r : Int) : Option Int := match plc ws (lookOf l r) with
  | [] => none
  | p :: _ => T p r
def stepsW (l : List Int) (T : Tb) (ws : List (Int × Int)) (rooms : List Int) : Option Int := goM (rooms.map (wayT l T ws)) 0
def byRow (l : List Int) (dd : List (List (List Int))) (w : List Int) (T : Tb) (row : Rw) (r : Int) : Option Int := match row with
  | (none, _) => if r ∈ w then some 0 else none
  | (some d, ws) => (stepsW l T ws (entryOf (deedOf dd d) r)).map (· + 1)
def tbl (l : List Int) (dd : List (List (List Int))) (w : List Int) (rows : List Rw) : Nat → Tb
  | 0 => fun _ _ => none
  | k + 1 => fun p r => if p = (rows.length : Int) - 1 - k then byRow l dd w (tbl l dd w rows k) (rowAt rows p) r else tbl l dd w rows k p r
def leadsOf (l : List Int) (dd : List (List (List Int))) (w : List Int) (p : Pl) (g : List Int) : Option Int := stepsW l (tbl l dd w p.2 p.2.length) p.1 g
/-- at each row the steps of those behind it are the same in any larger table -/
theorem tbl_more {l : List Int} {dd : List (List (List Int))} {w : List Int} {rows : List Rw} {k j : Nat} {p r : Int} (h : (rows.length : Int) - k ≤ p) : tbl l dd w rows (k + j) p r = tbl l dd w rows k p r := by
  induction j with
  | zero => rfl
  | succ j ih =>
    show (if p = (rows.length : Int) - 1 - (k + j : Nat) then _ else tbl l dd w rows (k + j) p r) = _
    rw [if_neg (by omega), ih]
theorem stepsW_congr {l : List Int} {T T' : Tb} {ws : List (Int × Int)} {rooms : List Int} (h : ∀ w ∈ ws, ∀ r, T w.2 r = T' w.2 r) : stepsW l T ws rooms = stepsW l T' ws rooms := by
  unfold stepsW
  congr 1
  refine List.map_congr_left fun r _ => ?_
  unfold wayT
  cases hp : plc ws (lookOf l r) with
  | nil => rfl
  | cons p ps =>
    have : p ∈ plc ws (lookOf l r) := by rw [hp]; simp
    obtain ⟨w, hw, rfl⟩ := List.mem_map.mp this
    exact h w (List.mem_filter.mp hw).1 r
theorem tbl_row {l : List Int} {dd : List (List (List Int))} {w : List Int} {p : Pl} {n : Int} (gp : GoodPlan n p) {i : Nat} (hi : i < p.2.length) (r : Int) :
    tbl l dd w p.2 p.2.length i r = byRow l dd w (tbl l dd w p.2 p.2.length) (rowAt p.2 i) r := by
  obtain ⟨k, hk⟩ : ∃ k, p.2.length = (k + 1) + i := ⟨p.2.length - 1 - i, by omega⟩
  have e1 : tbl l dd w p.2 p.2.length i r = tbl l dd w p.2 (k + 1) i r := by
    rw [hk]; exact tbl_more (rows := p.2) (by omega)
  rw [e1]
  show (if (i : Int) = (p.2.length : Int) - 1 - k then byRow l dd w (tbl l dd w p.2 k) (rowAt p.2 i) r else _) = _
  rw [if_pos (by omega)]
  have g := gp.r i _ (rowAt_get (rows := p.2) (p := (i : Int)) (by omega) (by omega))
  generalize rowAt p.2 i = row at g
  obtain ⟨d, ws⟩ := row
  cases d with
  | none => rfl
  | some d =>
    show (stepsW l _ ws _).map _ = (stepsW l _ ws _).map _
    congr 1
    refine stepsW_congr fun x hx r => ?_
    have := g.2.2.2 x hx
    have e2 : tbl l dd w p.2 p.2.length x.2 r = tbl l dd w p.2 k x.2 r := by
      have : p.2.length = k + (1 + i) := by omega
      rw [this]; exact tbl_more (by omega)
    exact e2.symm
theorem goM_some {xs : List (Option Int)} {m v : Int} (h : goM xs m = some v) : ∀ x ∈ xs, x ≠ none := by
  induction xs generalizing m with
  | nil => simp
  | cons x xs ih =>
    cases x with
    | none => cases h
    | some a =>
      intro y hy
      rcases List.mem_cons.mp hy with rfl | hy
      · exact fun z => nomatch z
      · exact ih h y hy
theorem goM_all {xs : List Int} {m : Int} : goM (xs.map some) m = some (xs.foldl (fun m a => if a > m then a else m) m) := by
  induction xs generalizing m with
  | nil => rfl
  | cons x xs ih => exact ih
/-! ## dicts with pairs of whole numbers as keys -/
def oV : Option Int → V
  | none => .non
  | some i => .int i
theorem rp_oV {F : Hp} (o : Option Int) : Rp F (oV o) (dpD o) := by cases o; exact .non; exact .int _
def k2 (a b : Int) : List L2.Key := [.inl a, .inl b]
theorem k2_inj {a b c d : Int} (h : k2 a b = k2 c d) : a = c ∧ b = d := by
  unfold k2 at h
  simp only [List.cons.injEq, and_true] at h
  exact ⟨Sum.inl.inj h.1, Sum.inl.inj h.2⟩
theorem val_put_same {κ : Type} [DecidableEq κ] {kvs : List (κ × V)} {k : κ} {v : V} : valV (putK kvs k v) k = some v := by
  unfold putK
  by_cases h : (kvs.any fun kv => decide (kv.1 = k)) = true
  · rw [if_pos h]
    unfold valV
    induction kvs with
    | nil => cases h
    | cons p kvs ih =>
      by_cases e : p.1 = k
      · simp [e]
      · have : (kvs.any fun kv => decide (kv.1 = k)) = true := by simpa [e] using h
        have := ih this
        simp [e] at this ⊢
        exact this
  · rw [if_neg h]
    unfold valV
    rw [List.find?_append]
    have : kvs.find? (fun kv => decide (kv.1 = k)) = none := by
      rw [List.find?_eq_none]
      intro x hx z
      exact h (List.any_eq_true.mpr ⟨x, hx, z⟩)
    rw [this]; simp
theorem val_put_ne {κ : Type} [DecidableEq κ] {kvs : List (κ × V)} {k j : κ} {v : V} (hj : j ≠ k) : valV (putK kvs k v) j = valV kvs j := by
  unfold putK
  by_cases h : (kvs.any fun kv => decide (kv.1 = k)) = true
  · rw [if_pos h]
    unfold valV
    clear h
    induction kvs with
    | nil => rfl
    | cons p kvs ih =>
      by_cases e : p.1 = k
      · have e2 : ¬ p.1 = j := fun z => hj (z.symm.trans e)
        have e3 : ¬ k = j := fun z => hj z.symm
        simp [e, e3] at ih ⊢
        exact ih
      · by_cases e2 : p.1 = j
        · simp [e, e2, hj]
        · simp [e, e2] at ih ⊢
          exact ih
  · rw [if_neg h]
    unfold valV
    rw [List.find?_append]
    cases kvs.find? (fun kv => decide (kv.1 = j)) with
    | some x => rfl
    | none => simp [Ne.symm hj]
theorem putK_len {κ : Type} [DecidableEq κ] {kvs : List (κ × V)} {k : κ} {v : V} : (putK kvs k v).length ≤ kvs.length + 1 := by
  unfold putK
  split <;> simp
section
variable {K : PySem.W.Frag} {σ : L2.St} {F H : Hp} {te tb ta ty tv : TE} {D0 : Ends} {tz : TS} {d : D} {i : Nat}
theorem ed_dgT {kvs : List (List L2.Key × V)} {p : Addr} {a b : Int} {v : V} (hσ : σ[i]? = some (some (.ref p))) (hp : F p = some (.dT kvs)) (h : ED ty σ F (.tup [.int a, .int b])) (hv : valV kvs (k2 a b) = some v) (rv : Rp F v d) : ED (tDGet (tVar i) ty) σ F d := fun F1 H1 e1 e2 Q q =>
  ⟨.ref p, hσ, h F1 H1 e1 e2 _ fun u F2 H2 n2 r2 => by
    obtain ⟨c, us, rfl, hc, hr⟩ := r2.tuple
    have e := Rps.eints (ns := [a, b]) hr
    subst e
    exact ⟨p, v, rfl, hv ▸ DGet.t (k := k2 a b) (n2.fh _ _ ((e1.trans n2.f) _ _ hp)) (n2.fh _ _ hc), q v F2 H2 n2 (rv.mono (e1.trans n2.f))⟩⟩
/-- d[a, b] = e -/
theorem s_dputT {kvs : List (List L2.Key × V)} {p : Addr} {a b : Int} (e : Ex F H) (fp : F p = none) (hi : σ[i]? = some (some (.ref p))) (hp : H p = some (.dT kvs)) (hz : kvs.length < 100000) (hv : ED tv σ F d) (hk : ED ty σ F (.tup [.int a, .int b]))
    (k : ∀ v F1 H1, Nx F H F1 H1 → F1 p = none → Rp F1 v d → H1 p = some (.dT kvs) → D0.nx σ (upd H1 p (.dT (putK kvs (k2 a b) v)))) : sDPut (tVar i) ty tv D0 σ H :=
  hv F H (Ex.refl F) e _ fun v F1 H1 n1 r1 => ⟨.ref p, hi, hk F1 H1 n1.f n1.fh _ fun u F2 H2 n2 r2 => by
    obtain ⟨c, us, rfl, hc, hr⟩ := r2.tuple
    have e := Rps.eints (ns := [a, b]) hr
    subst e
    have n := n1.trans n2
    have hp2 := n.h _ _ hp
    exact ⟨p, _, rfl, DPut.t (k := k2 a b) hp2 (n2.fh _ _ hc) (Evl.sz_lt hz), k v F2 H2 n (n.n p (by rw [hp]; exact fun z => nomatch z) fp) (r1.mono n2.f) hp2⟩⟩
theorem q_dputT {kvs : List (List L2.Key × V)} {p : Addr} {a b : Int} (e : Ex F H) (fp : F p = none) (hi : σ[i]? = some (some (.ref p))) (hp : H p = some (.dT kvs)) (hz : kvs.length < 100000) (hv : ED tv σ F d) (hk : ED ty σ F (.tup [.int a, .int b]))
    (k : ∀ v F1 H1, Nx F H F1 H1 → F1 p = none → Rp F1 v d → H1 p = some (.dT kvs) → tz D0 σ (upd H1 p (.dT (putK kvs (k2 a b) v)))) : tSeq (sDPut (tVar i) ty tv) tz D0 σ H := s_dputT (D0 := { D0 with nx := tz D0 }) e fp hi hp hz hv hk k
theorem q_newT (e : Ex F H) (k : ∀ p, H p = none → tz D0 (σ.set i (some (.ref p))) (upd H p (.dT []))) : tSeq (tAsg tDNewT (gName i)) tz D0 σ H := fun p hp => k p hp
end
/-- a part F of the heap with what stands at p -/
theorem ex_up {F H : Hp} {p : Addr} {o : HO} (e : Ex F H) (hp : H p = some o) : Ex (upd F p o) H := fun b u hb => by
  by_cases z : b = p
  · subst z; rw [upd_same] at hb; rw [hp]; exact hb
  · rw [upd_ne z] at hb; exact e b u hb
/-- steps by ways, by a row: the dict at k holds T -/
def spSW (A : Ad) : Sp := fun vs H Q _ => ∃ F k kvs T l dd w ws rooms v0 v1 v2, vs = [v0, v1, v2, .ref k] ∧ Ex F H ∧ Rp F v0 (hsD A.hs (li l) (llli dd) (li w)) ∧ Rp F v1 (waysD ws) ∧ Rp F v2 (li rooms) ∧ F k = some (.dT kvs) ∧
  (ws.map Prod.fst).Nodup ∧ (∀ r ∈ rooms, 0 ≤ r ∧ r < (l.length : Int)) ∧ (∀ x ∈ ws, ∀ r, 0 ≤ r → r < (l.length : Int) → valV kvs (k2 x.2 r) = some (oV (T x.2 r))) ∧
  ∀ v F2 H2, Nx F H F2 H2 → Rp F2 v (dpD (stepsW l T ws rooms)) → Q v H2
def spSR (A : Ad) : Sp := fun vs H Q _ => ∃ F k kvs T l dd w row a b r v0 v1, vs = [v0, v1, .int r, .ref k] ∧ Ex F H ∧ Rp F v0 (hsD A.hs (li l) (llli dd) (li w)) ∧ Hs l dd w ∧ Rp F v1 (rowD row) ∧ F k = some (.dT kvs) ∧ GoodRow dd.length a b row ∧ 0 ≤ r ∧ r < (l.length : Int) ∧
  (∀ x ∈ row.2, ∀ r, 0 ≤ r → r < (l.length : Int) → valV kvs (k2 x.2 r) = some (oV (T x.2 r))) ∧
  ∀ v F2 H2, Nx F H F2 H2 → Rp F2 v (dpD (byRow l dd w T row r)) → Q v H2
def R_leads (A : Ad) (ds : List D) (d : D) : Prop := ∃ l dd w p g, ds = [hsD A.hs (li l) (llli dd) (li w), li g, planD p] ∧ Hs l dd w ∧ GoodPlan dd.length p ∧ isGuess (li g) l.length = true ∧ d = dpD (leadsOf l dd w p g)
def W_leads (A : Ad) (ds : List D) (C : Addr) : Prop := ∃ l dd w x y, ds = [hsD A.hs (li l) (llli dd) (li w), x, y] ∧ Hs l dd w ∧ ((noObjs x = true ∧ isGuess x l.length = false ∧ C = A.bg) ∨ (∃ g, x = li g ∧ isGuess x l.length = true ∧ Pu y ∧ isPlan y dd.length = false ∧ C = A.bp))
end Bp
namespace Bp
open PySem PySem.Spec PyProof.Rows L2
open Evl (Ex)
section
variable {K : PySem.W.Frag} {σ : L2.St} {F H : Hp} {t0 t1 t2 t3 : TE} {D0 : Ends} {tz : TS} {d0 d1 d2 d3 : D} {i j : Nat} {sp : Sp} {E : XK} {w : V}
/-- x = f(a, b, c, y), y a slot that is handed as it is -/
theorem h1call (e : Ex F H) (hj : σ[j]? = some (some w)) (h0 : ED t0 σ F d0) (h1 : ED t1 σ F d1) (h2 : ED t2 σ F d2)
    (k : ∀ u0 u1 u2 F1 H1, Nx F H F1 H1 → Rp F1 u0 d0 → Rp F1 u1 d1 → Rp F1 u2 d2 → sp [u0, u1, u2, w] H1 (fun v H2 => tz D0 (σ.set i (some v)) H2) E) : tSeq (tAsg (tCall sp [] E (tCons t0 (tCons t1 (tCons t2 (tCons (tVar j) tNil))))) (gName i)) tz D0 σ H :=
  h0 F H (Ex.refl F) e _ fun u0 F1 H1 n1 r0 => h1 F1 H1 n1.f n1.fh _ fun u1 F2 H2 n2 r1 => h2 F2 H2 (n1.f.trans n2.f) n2.fh _ fun u2 F3 H3 n3 r2 =>
    ⟨w, hj, k u0 u1 u2 F3 H3 ((n1.trans n2).trans n3) (r0.mono (n2.f.trans n3.f)) (r1.mono n3.f) r2⟩
theorem h1callR (e : Ex F H) (hj : σ[j]? = some (some w)) (h0 : ED t0 σ F d0) (h1 : ED t1 σ F d1) (h2 : ED t2 σ F d2)
    (k : ∀ u0 u1 u2 F1 H1, Nx F H F1 H1 → Rp F1 u0 d0 → Rp F1 u1 d1 → Rp F1 u2 d2 → sp [u0, u1, u2, w] H1 D0.rt E) : tRet (tCall sp [] E (tCons t0 (tCons t1 (tCons t2 (tCons (tVar j) tNil))))) D0 σ H :=
  h0 F H (Ex.refl F) e _ fun u0 F1 H1 n1 r0 => h1 F1 H1 n1.f n1.fh _ fun u1 F2 H2 n2 r1 => h2 F2 H2 (n1.f.trans n2.f) n2.fh _ fun u2 F3 H3 n3 r2 =>
    ⟨w, hj, k u0 u1 u2 F3 H3 ((n1.trans n2).trans n3) (r0.mono (n2.f.trans n3.f)) (r1.mono n3.f) r2⟩
end
end Bp
namespace Bp
open PySem PySem.Spec PyProof.Rows L2
open Evl (Ex)
/-! ## a part of the heap with the objects at S as they stand in H -/
open Classical in
noncomputable def fr (F H : Hp) (S : List Addr) : Hp := fun x => if x ∈ S then H x else F x
theorem fr_in {F H : Hp} {S : List Addr} {x : Addr} (h : x ∈ S) : fr F H S x = H x := by unfold fr; rw [if_pos h]
theorem fr_out {F H : Hp} {S : List Addr} {x : Addr} (h : x ∉ S) : fr F H S x = F x := by unfold fr; rw [if_neg h]
theorem fr_ex {F H : Hp} {S : List Addr} (e : Ex F H) : Ex F (fr F H S) := fun x o hx => by
  by_cases h : x ∈ S
  · rw [fr_in h]; exact e x o hx
  · rw [fr_out h]; exact hx
theorem fr_h {F H : Hp} {S : List Addr} (e : Ex F H) : Ex (fr F H S) H := fun x o hx => by
  by_cases h : x ∈ S
  · rw [fr_in h] at hx; exact hx
  · rw [fr_out h] at hx; exact e x o hx
/-- told with what was made at S -/
theorem nx_fr {F H H' F2 H2 : Hp} {S : List Addr} (e : Ex F H) (eH : Ex H H') (eF : Ex F H') (hS : ∀ x ∈ S, H x = none) (n : Nx (fr F H' S) H' F2 H2) : Nx F H F2 H2 :=
  ⟨(fr_ex eF).trans n.f, eH.trans n.h, n.fh, fun b hb q => n.n b (fun z => hb (Evl.fresh_back eH z)) (by
    have : b ∉ S := fun z => hb (hS b z)
    rw [fr_out this]; exact q)⟩
/-! ## lists of lists that are changed: at pm the list of bs, at each of bs a list -/
structure Mat (H : Hp) (pm : Addr) (bs : List Addr) (M : Nat → List Int) : Prop where
  p : H pm = some (.lst (bs.map V.ref))
  b : ∀ (j : Nat) a, bs[j]? = some a → H a = some (.lst ((M j).map V.int))
  nd : bs.Nodup
  ne : pm ∉ bs
theorem Mat.up {H H' : Hp} {pm : Addr} {bs : List Addr} {M : Nat → List Int} (m : Mat H pm bs M) (e : Ex H H') : Mat H' pm bs M := ⟨e _ _ m.p, fun j a h => e _ _ (m.b j a h), m.nd, m.ne⟩
theorem Mat.rp {F H : Hp} {pm : Addr} {bs : List Addr} {M : Nat → List Int} (m : Mat H pm bs M) : Rp (fr F H (pm :: bs)) (.ref pm) (lli ((List.range bs.length).map M)) := by
  refine Rp.mkL (by rw [fr_in (by simp)]; exact m.p) ⟨by simp, fun i v d hv hd => ?_⟩
  rw [List.getElem?_map] at hv
  cases hb : bs[i]? with
  | none => rw [hb] at hv; cases hv
  | some a =>
    rw [hb] at hv
    obtain rfl := Option.some.inj hv
    have hi := (List.getElem?_eq_some_iff.mp hb).1
    rw [List.getElem?_map, List.getElem?_map, List.getElem?_range hi] at hd
    obtain rfl := Option.some.inj hd
    exact Rp.mkL (by rw [fr_in (by simp [List.mem_of_getElem? hb])]; exact m.b i a hb) (Rps.ints _)
def updM (M : Nat → List Int) (q : Nat) (r : Int) : Nat → List Int := fun j => if j = q then M q ++ [r] else M j
theorem Mat.add {H : Hp} {pm : Addr} {bs : List Addr} {M : Nat → List Int} (m : Mat H pm bs M) {q : Nat} {a : Addr} {r : Int} (hq : bs[q]? = some a) : Mat (upd H a (.lst ((M q).map V.int ++ [.int r]))) pm bs (updM M q r) := by
  have am := List.mem_of_getElem? hq
  refine ⟨by rw [upd_ne (fun z => m.ne (by rw [z]; exact am))]; exact m.p, fun j b hb => ?_, m.nd, m.ne⟩
  unfold updM
  by_cases e : j = q
  · subst e
    rw [hq] at hb
    cases hb
    rw [if_pos rfl, upd_same, List.map_append]; rfl
  · rw [if_neg e]
    have ne : b ≠ a := fun z => by
      subst z
      obtain ⟨h1, h2⟩ := List.getElem?_eq_some_iff.mp hb
      obtain ⟨h3, h4⟩ := List.getElem?_eq_some_iff.mp hq
      rcases Nat.lt_or_gt_of_ne e with z | z
      · exact (List.pairwise_iff_getElem.mp m.nd) j q h1 h3 z (by rw [h2, h4])
      · exact (List.pairwise_iff_getElem.mp m.nd) q j h3 h1 z (by rw [h2, h4])
    rw [upd_ne ne]; exact m.b j b hb
section
variable {K : PySem.W.Frag} {σ : L2.St} {F H : Hp} {te tv tl : TE} {D0 : Ends} {tz : TS} {d : D} {i j : Nat}
/-- [[] for x in xs] -/
theorem q_lcE {ds : List D} {ws : List Nat} (e : Ex F H) (h : ED tl σ F (.lst ds)) (hz : ds.length < 50000) (hw : ∀ x, wipe ((wipe σ ws).set j (some x)) ws = wipe σ ws)
    (q : ∀ (pm : Addr) (bs : List Addr) (H2 : Hp), Ex H H2 → H pm = none → (∀ b ∈ bs, H b = none) → bs.length = ds.length → Mat H2 pm bs (fun _ => []) → tz D0 (σ.set i (some (.ref pm))) H2) :
    tSeq (tAsg (tLc (iList K tl) (gName j) tYes (tLst tNil) ws) (gName i)) tz D0 σ H := h F H (Ex.refl F) e _ fun v F1 H1 n1 r1 => by
  obtain ⟨a, vs, rfl, ha, hr⟩ := r1.list
  refine ⟨a, rfl, ⟨vs, Evl.sq_of (n1.fh _ _ ha)⟩, fun Dl hD => ?_⟩
  refine lc_list (xs := vs) (fun i H' => ∃ bs : List Addr, Ex H1 H' ∧ bs.length = i ∧ (∀ b ∈ bs, H1 b = none) ∧ Mat H' Dl bs (fun _ => [])) ⟨[], Ex.new hD, rfl, by simp, ⟨upd_same, by simp, List.nodup_nil, by simp⟩⟩ (fun i H' _ p => ?_) (fun i x H' hi p => ⟨hw x, ?_⟩) (fun H' p => ?_)
  · obtain ⟨bs, e', _⟩ := p
    exact Evl.sq_of (e' _ _ (n1.fh _ _ ha))
  · obtain ⟨bs, e', hl, hn, m⟩ := p
    have hil := (List.getElem?_eq_some_iff.mp hi).1
    have hn1 := hr.n
    refine ⟨Nat.zero_le _, fun b hb => ⟨_, (Ex.new hb) _ _ m.p, Evl.sz_lt (by rw [List.length_map, hl]; omega), bs ++ [b], ?_, by simp [hl], ?_, ?_⟩⟩
    · exact Ex.mut (e'.trans (Ex.new hb)) hD
    · intro c hc
      rcases List.mem_append.mp hc with z | z
      · exact hn c z
      · obtain rfl := List.mem_singleton.mp z
        exact Evl.fresh_back e' hb
    · have bD : b ≠ Dl := fun z => by rw [z, m.p] at hb; cases hb
      have bn : b ∉ bs := fun z => by
        obtain ⟨k, hk⟩ := List.getElem?_of_mem z
        rw [m.b k b hk] at hb; cases hb
      refine ⟨by rw [upd_same, List.map_append]; rfl, fun k c hc => ?_, List.nodup_append.mpr ⟨m.nd, by simp, fun x hx y hy => ?_⟩, fun z => ?_⟩
      · by_cases hk : k < bs.length
        · rw [List.getElem?_append_left hk] at hc
          have cD : c ≠ Dl := fun z => m.ne (by rw [← z]; exact List.mem_of_getElem? hc)
          have cb : c ≠ b := fun z => bn (by rw [← z]; exact List.mem_of_getElem? hc)
          rw [upd_ne cD, upd_ne cb]; exact m.b k c hc
        · rw [List.getElem?_append_right (by omega)] at hc
          have : c = b := by
            cases hk2 : k - bs.length with
            | zero => rw [hk2] at hc; cases hc; rfl
            | succ z => rw [hk2] at hc; simp at hc
          subst this
          rw [upd_ne bD, upd_same]; rfl
      · obtain rfl := List.mem_singleton.mp hy
        intro z; exact bn (by rw [← z]; exact hx)
      · rcases List.mem_append.mp z with z | z
        · exact m.ne z
        · exact bD (List.mem_singleton.mp z).symm
  · obtain ⟨bs, e', hl, hn, m⟩ := p
    exact q Dl bs H' (n1.h.trans e') (Evl.fresh_back n1.h hD) (fun b hb => Evl.fresh_back n1.h (hn b hb)) (by rw [hl, hr.n]) m
theorem ev_ixv {p : Addr} {xs : List V} {k : Nat} {v : V} {c : Int} (h : EvV te σ H (.ref p)) (hi : σ[i]? = some (some (.int c))) (hc : c = (k : Int)) (hp : H p = some (.lst xs)) (hx : xs[k]? = some v) : EvV (tOp (rIx K) te (tVar i)) σ H v := fun Q q =>
  h _ ⟨.int c, hi, Or.inl ⟨p, xs, c, v, rfl, rfl, Evl.sq_of hp, by rw [hc]; exact atI_nat hx, q⟩⟩
theorem s_appV {b : Addr} {ys : List V} {v : V} (h : EvV te σ H (.ref b)) (hb : H b = some (.lst ys)) (hz : ys.length < 100000) (hv : EvV tv σ H v) (k : D0.nx σ (upd H b (.lst (ys ++ [v])))) :
    tDrop (tBM K "list" rAppend te (tCons tv tNil)) D0 σ H := h _ ⟨Or.inl ⟨rfl, ys, Evl.sq_of hb⟩, hv _ ⟨b, ys, v, rfl, rfl, hb, Evl.sz_lt hz, k⟩⟩
end
/-! ## who comes where -/
inductive Reach (l : List Int) (dd : List (List (List Int))) (p : Pl) (g : List Int) : Nat → Int → Prop
  | start {r q : Int} {qs : List Int} : r ∈ g → plc p.1 (lookOf l r) = q :: qs → Reach l dd p g q.toNat r
  | step {i : Nat} {r d r' q : Int} {ws : List (Int × Int)} {qs : List Int} : Reach l dd p g i r → p.2[i]? = some (some d, ws) → r' ∈ entryOf (deedOf dd d) r → plc ws (lookOf l r') = q :: qs → Reach l dd p g q.toNat r'
theorem Reach.ok {l : List Int} {dd : List (List (List Int))} {w : List Int} {p : Pl} {g : List Int} (hs : Hs l dd w) (gp : GoodPlan dd.length p) (hg : Up l.length g) {i : Nat} {r : Int} (h : Reach l dd p g i r) : i < p.2.length ∧ 0 ≤ r ∧ r < l.length := by
  induction h with
  | start hr hp =>
    have := plc_mem gp.w hp
    exact ⟨by omega, hg.2 _ hr⟩
  | @step i r d r' q ws qs _ hrow hr' hp ih =>
    have gr := gp.r _ _ hrow
    obtain ⟨d0, d1, gw⟩ := gr
    have hm := deedOf_mem d0 d1
    have hl := hs.dn _ hm
    have hx := entryOf_mem (e := deedOf dd d) ih.2.1 (by omega)
    have := plc_mem gw hp
    exact ⟨by omega, (hs.de _ hm _ hx).1.2 _ hr'⟩
/-- somebody has no way -/
def NoWayOut (l : List Int) (dd : List (List (List Int))) (p : Pl) (g : List Int) : Prop := (∃ r ∈ g, plc p.1 (lookOf l r) = []) ∨ ∃ (i : Nat) (r d r' : Int) (ws : List (Int × Int)), Reach l dd p g i r ∧ p.2[i]? = some (some d, ws) ∧ r' ∈ entryOf (deedOf dd d) r ∧ plc ws (lookOf l r') = []
def AllWays (l : List Int) (dd : List (List (List Int))) (p : Pl) (g : List Int) : Prop := (∀ r ∈ g, plc p.1 (lookOf l r) ≠ []) ∧ ∀ (i : Nat) (r d r' : Int) (ws : List (Int × Int)), Reach l dd p g i r → p.2[i]? = some (some d, ws) → r' ∈ entryOf (deedOf dd d) r → plc ws (lookOf l r') ≠ []
/-- where the steps are known, all who come somewhere have steps there -/
theorem known_reach {l : List Int} {dd : List (List (List Int))} {w : List Int} {p : Pl} {n : Int} {g : List Int} (gp : GoodPlan n p) {v : Int} (h : leadsOf l dd w p g = some v) {i : Nat} {r : Int} (hr : Reach l dd p g i r) (hi : ∀ {i r}, Reach l dd p g i r → i < p.2.length) : tbl l dd w p.2 p.2.length i r ≠ none := by
  induction hr with
  | @start r q qs hr hp =>
    have := goM_some h (wayT l (tbl l dd w p.2 p.2.length) p.1 r) (List.mem_map_of_mem hr)
    unfold wayT at this
    rw [hp] at this
    have q0 := (plc_mem gp.w hp).1
    rw [Int.toNat_of_nonneg q0]; exact this
  | @step i r d r' q ws qs hrch hrow hr' hp ih =>
    have hlt := hi hrch
    rw [tbl_row gp hlt] at ih
    have er : rowAt p.2 i = (some d, ws) := by
      have := rowAt_get (rows := p.2) (p := (i : Int)) (by omega) (by omega)
      rw [Int.toNat_natCast, hrow] at this
      exact (Option.some.inj this).symm
    rw [er] at ih
    have gr := gp.r _ _ hrow
    cases hs : stepsW l (tbl l dd w p.2 p.2.length) ws (entryOf (deedOf dd d) r) with
    | none =>
      exfalso; apply ih
      show (stepsW l _ ws _).map _ = none
      rw [hs]; rfl
    | some z =>
      have := goM_some hs (wayT l (tbl l dd w p.2 p.2.length) ws r') (List.mem_map_of_mem hr')
      unfold wayT at this
      rw [hp] at this
      have q0 := (plc_mem gr.2.2 hp).1
      rw [Int.toNat_of_nonneg (by omega)]; exact this
theorem leads_noway {l : List Int} {dd : List (List (List Int))} {w : List Int} {p : Pl} {n : Int} {g : List Int} (gp : GoodPlan n p) (hi : ∀ {i r}, Reach l dd p g i r → i < p.2.length) (h : NoWayOut l dd p g) : leadsOf l dd w p g = none := by
  cases hl : leadsOf l dd w p g with
  | none => rfl
  | some v =>
    exfalso
    rcases h with ⟨r, hr, hp⟩ | ⟨i, r, d, r', ws, hrch, hrow, hr', hp⟩
    · have := goM_some hl (wayT l (tbl l dd w p.2 p.2.length) p.1 r) (List.mem_map_of_mem hr)
      unfold wayT at this
      rw [hp] at this
      exact this rfl
    · have ih := known_reach gp hl hrch hi
      have hlt := hi hrch
      rw [tbl_row gp hlt] at ih
      have er : rowAt p.2 i = (some d, ws) := by
        have := rowAt_get (rows := p.2) (p := (i : Int)) (by omega) (by omega)
        rw [Int.toNat_natCast, hrow] at this
        exact (Option.some.inj this).symm
      rw [er] at ih
      cases hs : stepsW l (tbl l dd w p.2 p.2.length) ws (entryOf (deedOf dd d) r) with
      | none =>
        apply ih
        show (stepsW l _ ws _).map _ = none
        rw [hs]; rfl
      | some z =>
        have := goM_some hs (wayT l (tbl l dd w p.2 p.2.length) ws r') (List.mem_map_of_mem hr')
        unfold wayT at this
        rw [hp] at this
        exact this rfl
/-- somebody comes to an end that is not wished -/
theorem leads_end {l : List Int} {dd : List (List (List Int))} {w : List Int} {p : Pl} {n : Int} {g : List Int} (gp : GoodPlan n p) (hi : ∀ {i r}, Reach l dd p g i r → i < p.2.length) {i : Nat} {r : Int} {ws : List (Int × Int)} (hr : Reach l dd p g i r) (hrow : p.2[i]? = some (none, ws)) (hw : r ∉ w) : leadsOf l dd w p g = none := by
  cases hl : leadsOf l dd w p g with
  | none => rfl
  | some v =>
    exfalso
    have ih := known_reach gp hl hr hi
    have hlt := hi hr
    rw [tbl_row gp hlt] at ih
    have er : rowAt p.2 i = (none, ws) := by
      have := rowAt_get (rows := p.2) (p := (i : Int)) (by omega) (by omega)
      rw [Int.toNat_natCast, hrow] at this
      exact (Option.some.inj this).symm
    rw [er] at ih
    apply ih
    show (if r ∈ w then some 0 else none) = none
    rw [if_neg hw]
def R_way_for (ds : List D) (d : D) : Prop := ∃ ws k, ds = [waysD ws, .int k] ∧ ws.length < 50000 ∧ d = dpD (plc ws k).head?
structure Walked (l : List Int) (dd : List (List (List Int))) (p : Pl) (g : List Int) (M : List (List Int)) : Prop where
  n : M.length = p.2.length
  m : ∀ (i : Nat) ys, M[i]? = some ys → ys.Nodup ∧ ∀ r, r ∈ ys ↔ Reach l dd p g i r
  a : AllWays l dd p g
def spWk : Sp := fun vs H Q _ => ∃ F l dd w g p, Ex F H ∧ Rps F vs [li l, llli dd, li g, planD p] ∧ Hs l dd w ∧ GoodPlan dd.length p ∧ Up l.length g ∧
  ∀ d v F2 H2, ((d = .non ∧ NoWayOut l dd p g) ∨ ∃ M, d = lli M ∧ Walked l dd p g M) → Nx F H F2 H2 → Rp F2 v d → Q v H2
theorem mem_led {e : List (List Int)} {g : List Int} {n : Nat} (hn : e.length = n) (he : ∀ x ∈ e, Up n x) (hg : ∀ r ∈ g, 0 ≤ r ∧ r < (n : Int)) {k : Int} : k ∈ ledOf e g ↔ ∃ r ∈ g, k ∈ entryOf e r := by
  unfold ledOf
  rw [List.mem_filter, mem_rng]
  constructor
  · rintro ⟨_, h⟩
    have ne : ledBy e g k ≠ [] := by simpa using h
    obtain ⟨r, hr⟩ := List.exists_mem_of_ne_nil _ ne
    have := List.mem_filter.mp hr
    exact ⟨r, this.1, by simpa using this.2⟩
  · rintro ⟨r, hr, hk⟩
    have r' := hg r hr
    have k' := (he _ (entryOf_mem r'.1 (by omega))).2 k hk
    refine ⟨by omega, ?_⟩
    have : r ∈ ledBy e g k := List.mem_filter.mpr ⟨hr, decide_eq_true hk⟩
    have ne : ledBy e g k ≠ [] := fun z => by rw [z] at this; cases this
    simpa using ne
def Has (l : List Int) (ws : List (Int × Int)) (r : Int) (M : Nat → List Int) : Prop := ∃ q qs, plc ws (lookOf l r) = q :: qs ∧ r ∈ M q.toNat
def Done (l : List Int) (dd : List (List (List Int))) (p : Pl) (g : List Int) (M : Nat → List Int) : Nat → Prop
  | 0 => ∀ r ∈ g, Has l p.1 r M
  | j + 1 => ∀ d ws, p.2[j]? = some (some d, ws) → ∀ r ∈ M j, ∀ r' ∈ entryOf (deedOf dd d) r, Has l ws r' M
theorem Has.up {l : List Int} {ws : List (Int × Int)} {r : Int} {M M' : Nat → List Int} (h : Has l ws r M) (k : ∀ j r, r ∈ M j → r ∈ M' j) : Has l ws r M' := by
  obtain ⟨q, qs, e, hm⟩ := h
  exact ⟨q, qs, e, k _ _ hm⟩
theorem Done.up {l : List Int} {dd : List (List (List Int))} {p : Pl} {g : List Int} {M M' : Nat → List Int} (k : ∀ j r, r ∈ M j → r ∈ M' j) : ∀ {i : Nat}, (∀ j, j + 1 = i → M' j = M j) → Done l dd p g M i → Done l dd p g M' i
  | 0, _, h => fun r hr => (h r hr).up k
  | j + 1, e, h => fun d ws hrow r hr r' hr' => (h d ws hrow r (by rw [← e j rfl]; exact hr) r' hr').up k
/-- where all is done, all who come somewhere stand there -/
theorem done_all {l : List Int} {dd : List (List (List Int))} {p : Pl} {g : List Int} {M : Nat → List Int} (h : ∀ i, i ≤ p.2.length → Done l dd p g M i) {i : Nat} {r : Int} (hr : Reach l dd p g i r) (hi : ∀ {i r}, Reach l dd p g i r → i < p.2.length) : r ∈ M i := by
  induction hr with
  | @start r q qs hr hp =>
    obtain ⟨q', qs', e, hm⟩ := h 0 (Nat.zero_le _) r hr
    rw [hp] at e
    cases e; exact hm
  | @step i r d r' q ws qs hrch hrow hr' hp ih =>
    have hlt := hi hrch
    obtain ⟨q', qs', e, hm⟩ := h (i + 1) hlt d ws hrow r ih r' hr'
    rw [hp] at e
    cases e; exact hm
theorem done_ways {l : List Int} {dd : List (List (List Int))} {p : Pl} {g : List Int} {M : Nat → List Int} (h : ∀ i, i ≤ p.2.length → Done l dd p g M i) (hi : ∀ {i r}, Reach l dd p g i r → i < p.2.length) : AllWays l dd p g := by
  refine ⟨fun r hr z => ?_, fun i r d r' ws hrch hrow hr' z => ?_⟩
  · obtain ⟨q', qs', e, _⟩ := h 0 (Nat.zero_le _) r hr
    rw [z] at e; cases e
  · obtain ⟨q', qs', e, _⟩ := h (i + 1) (hi hrch) d ws hrow r (done_all h hrch hi) r' hr'
    rw [z] at e; cases e
theorem ex_into {F H : Hp} {c : Addr} {o : HO} (e : Ex F H) (hc : H c = some o) : Ex F (upd F c o) := fun b u hb => by
  by_cases z : b = c
  · subst z; have := e _ _ hb; rw [hc] at this; rw [upd_same]; exact this
  · rw [upd_ne z]; exact hb
theorem sub_len : ∀ {ys zs : List Int}, ys.Nodup → (∀ y ∈ ys, y ∈ zs) → ys.length ≤ zs.length
  | [], _, _, _ => Nat.zero_le _
  | y :: ys, zs, hn, h => by
    have hn' := List.nodup_cons.mp hn
    have hy := h y (by simp)
    have := sub_len (zs := zs.erase y) hn'.2 fun x hx => (List.mem_erase_of_ne (fun z => hn'.1 (by rw [← z]; exact hx))).mpr (h x (by simp [hx]))
    rw [List.length_erase_of_mem hy] at this
    have : 0 < zs.length := List.length_pos_of_mem hy
    rw [List.length_cons]; omega
theorem nodup_len {m : Int} (h0 : 0 ≤ m) : ∀ {ys : List Int}, ys.Nodup → (∀ r ∈ ys, 0 ≤ r ∧ r < m) → (ys.length : Int) ≤ m := by
  intro ys hn hr
  have := sub_len hn fun r h => mem_rng.mpr (hr r h)
  have e := rng_len h0
  omega
section
variable {K : PySem.W.Frag} {σ : L2.St} {F H : Hp} {te : TE} {D0 : Ends} {d : D} {i : Nat}
theorem s_asgN (e : Ex F H) (h : EN te σ F d) (k : ∀ v G H1, Nw H G H1 → Rp G v d → D0.nx (σ.set i (some v)) H1) : tAsg te (gName i) D0 σ H := h F H (Ex.refl F) e _ k
end
end Bp
namespace Bp
open PySem PySem.Spec PyProof.Rows L2
open Evl (Ex)
theorem max_K {X : Cx} (K : PySem.W.Frag) (hc : X.calm = true) (h : X.K = K := by rfl) : CallR X (.builtin "max") (rMax K) := by subst h; exact cr_max hc
section
variable {K : PySem.W.Frag} {σ : L2.St} {F H : Hp} {te ta tb ty tv : TE} {D0 : Ends} {tz : TS} {d : D} {i : Nat}
theorem rl_maxL {ns : List Int} {m : Int} (h0 : m ∈ ns) (h1 : ∀ y ∈ ns, y ≤ m) : RL (rMax K) F [li ns] (.int m) := fun F1 H1 vs _ e2 rv Q q => by
  obtain ⟨v, us, rfl, h2, h3⟩ := rv.uncons
  obtain rfl := h3.unnil
  obtain ⟨a, ws, rfl, ha, hr⟩ := h2.list
  rw [hr.eints] at ha
  refine ⟨a, ns, rfl, Evl.sq_of (e2 _ _ ha), List.length_pos_of_mem h0, fun m' hm hle => ?_⟩
  have : m' = m := Int.le_antisymm (h1 m' hm) (hle m h0)
  rw [this]
  exact q _ F1 H1 (Nx.refl e2) (.int _)
theorem ed_dgT' {kvs : List (List L2.Key × V)} {p : Addr} {a b : Int} {v : V} (hσ : σ[i]? = some (some (.ref p))) (hp : F p = some (.dT kvs)) (h : ED ty σ F (.tup [.int a, .int b])) (hv : valV kvs (k2 a b) = some v) (rv : Rp F v d) : ED (tDGet (tVar i) ty) σ F d := ed_dgT hσ hp h hv rv
end
/-- the greatest of nought and the numbers -/
theorem fold_mx : ∀ (xs : List Int) (m0 : Int), m0 ≤ xs.foldl (fun m a => if a > m then a else m) m0 ∧ (∀ x ∈ xs, x ≤ xs.foldl (fun m a => if a > m then a else m) m0) ∧ (xs.foldl (fun m a => if a > m then a else m) m0 = m0 ∨ xs.foldl (fun m a => if a > m then a else m) m0 ∈ xs)
  | [], m0 => ⟨Int.le_refl _, by simp, .inl rfl⟩
  | x :: xs, m0 => by
    obtain ⟨h1, h2, h3⟩ := fold_mx xs (if x > m0 then x else m0)
    show m0 ≤ xs.foldl _ (if x > m0 then x else m0) ∧ (∀ y ∈ x :: xs, y ≤ xs.foldl _ (if x > m0 then x else m0)) ∧ (xs.foldl _ (if x > m0 then x else m0) = m0 ∨ xs.foldl _ (if x > m0 then x else m0) ∈ x :: xs)
    generalize xs.foldl (fun m a => if a > m then a else m) (if x > m0 then x else m0) = z at *
    refine ⟨by split at h1 <;> omega, fun y hy => ?_, ?_⟩
    · rcases List.mem_cons.mp hy with rfl | hy
      · split at h1 <;> omega
      · exact h2 y hy
    · rcases h3 with h3 | h3
      · by_cases hx : x > m0
        · rw [if_pos hx] at h3; right; rw [h3]; simp
        · rw [if_neg hx] at h3; exact .inl h3
      · right; exact List.mem_cons_of_mem _ h3
/-- what the rooms' steps by the ways are, where all are known -/
theorem stepsW_of {l : List Int} {T : Tb} {ws : List (Int × Int)} {rooms : List Int} {f : Int → Int} (h : ∀ r ∈ rooms, wayT l T ws r = some (f r)) : stepsW l T ws rooms = some ((rooms.map f).foldl (fun m a => if a > m then a else m) 0) := by
  unfold stepsW
  have : rooms.map (wayT l T ws) = (rooms.map f).map some := by
    rw [List.map_map]
    exact List.map_congr_left fun r hr => h r hr
  rw [this, goM_all]
/-- the dict at k knows the steps of these rooms by these ways -/
def KnowsW (l : List Int) (T : Tb) (ws : List (Int × Int)) (rooms : List Int) (kvs : List (List L2.Key × V)) : Prop :=
  ∀ r ∈ rooms, ∃ q qs a, plc ws (lookOf l r) = q :: qs ∧ T q r = some a ∧ 0 ≤ a ∧ valV kvs (k2 q r) = some (.int a)
def spMost : Sp := fun vs H Q _ => ∃ F k kvs T l ws rooms v0 v1 v2, vs = [v0, v1, v2, .ref k] ∧ Ex F H ∧ Rp F v0 (li l) ∧ Rp F v1 (waysD ws) ∧ Rp F v2 (li rooms) ∧ F k = some (.dT kvs) ∧ ws.length < 50000 ∧ rooms.length < 50000 ∧ rooms ≠ [] ∧ (∀ r ∈ rooms, 0 ≤ r ∧ r < (l.length : Int)) ∧ KnowsW l T ws rooms kvs ∧
  ∀ v F2 H2 z, stepsW l T ws rooms = some z → 0 ≤ z → Nx F H F2 H2 → Rp F2 v (.int z) → Q v H2
theorem knows_steps {l : List Int} {T : Tb} {ws : List (Int × Int)} {rooms : List Int} {kvs : List (List L2.Key × V)} (h : KnowsW l T ws rooms kvs) :
    ∃ f : Int → Int, (∀ r ∈ rooms, wayT l T ws r = some (f r) ∧ 0 ≤ f r ∧ ∃ q qs, plc ws (lookOf l r) = q :: qs ∧ valV kvs (k2 q r) = some (.int (f r))) := by
  refine ⟨fun r => (wayT l T ws r).getD 0, fun r hr => ?_⟩
  obtain ⟨q, qs, a, h1, h2, h3, h4⟩ := h r hr
  have e : wayT l T ws r = some a := by unfold wayT; rw [h1]; exact h2
  have e2 : (wayT l T ws r).getD 0 = a := by rw [e]; rfl
  show wayT l T ws r = some ((wayT l T ws r).getD 0) ∧ 0 ≤ (wayT l T ws r).getD 0 ∧ ∃ q qs, plc ws (lookOf l r) = q :: qs ∧ valV kvs (k2 q r) = some (.int ((wayT l T ws r).getD 0))
  rw [e2]
  exact ⟨e, h3, q, qs, h1, h4⟩
def spSteps : Sp := fun vs H Q _ => ∃ F l dd w x g p, Ex F H ∧ Rps F vs [.tup [li l, llli dd, x], li g, planD p, li w] ∧ Hs l dd w ∧ GoodPlan dd.length p ∧ Up l.length g ∧ g ≠ [] ∧
  ∀ v F2 H2, Nx F H F2 H2 → Rp F2 v (dpD (leadsOf l dd w p g)) → Q v H2
end Bp
namespace Bp
open PySem PySem.Spec PyProof.Rows L2
open Evl (Ex)
section
variable {σ : L2.St} {F H : Hp} {t0 t1 t2 : TE} {d0 d1 d2 : D} {j : Nat} {sp : Sp} {E : XK} {w : V}
theorem h1callE {Q : VK} (e : Ex F H) (hj : σ[j]? = some (some w)) (h0 : ED t0 σ F d0) (h1 : ED t1 σ F d1) (h2 : ED t2 σ F d2)
    (k : ∀ u0 u1 u2 F1 H1, Nx F H F1 H1 → Rp F1 u0 d0 → Rp F1 u1 d1 → Rp F1 u2 d2 → sp [u0, u1, u2, w] H1 Q E) : tCall sp [] E (tCons t0 (tCons t1 (tCons t2 (tCons (tVar j) tNil)))) σ H Q :=
  h0 F H (Ex.refl F) e _ fun u0 F1 H1 n1 r0 => h1 F1 H1 n1.f n1.fh _ fun u1 F2 H2 n2 r1 => h2 F2 H2 (n1.f.trans n2.f) n2.fh _ fun u2 F3 H3 n3 r2 =>
    ⟨w, hj, k u0 u1 u2 F3 H3 ((n1.trans n2).trans n3) (r0.mono (n2.f.trans n3.f)) (r1.mono n3.f) r2⟩
end
end Bp
namespace Bp
open PySem PySem.Spec PyProof.Rows L2
open Evl (Ex)
section
variable {X : Cx} (K : PySem.W.Frag)
theorem sortPO_K (h : X.K = K := by rfl) : CallR X (.builtin "sorted") (rSortedPO K) := by subst h; exact cr_sortedPO
theorem sorted_K (h : X.K = K := by rfl) : CallR X (.builtin "sorted") (rSorted K) := by subst h; exact cr_sorted
end
section
variable {K : PySem.W.Frag} {σ : L2.St} {F H : Hp} {te ta tb ti tv : TE} {tl : TA} {D0 : Ends} {tz : TS} {d : D} {i j : Nat} {P : D → Prop}
/-- sorted([a, b]), two pairs with different first numbers -/
theorem ex_sortP {a b : Int × Int} {lo hi : Int} (h : ED te σ F (waysD [a, b])) (hne : a.1 ≠ b.1) (ha : 0 ≤ a.1 ∧ a.1 < 10 ∧ lo ≤ a.2 ∧ a.2 < hi) (hb : 0 ≤ b.1 ∧ b.1 < 10 ∧ lo ≤ b.2 ∧ b.2 < hi) :
    EX (tCB (rSortedPO K) (tCons te tNil)) σ F fun d => ∃ ws, d = waysD ws ∧ GoodWays lo hi ws := fun F1 H1 e1 e2 Q q => h F1 H1 e1 e2 _ fun v F2 H2 n2 r2 => by
  obtain ⟨p, vs, rfl, hp, hr⟩ := r2.list
  obtain ⟨x, _, rfl, hx, hr⟩ := Rps.uncons (d := wayD a) (ds := [wayD b]) hr
  obtain ⟨y, _, rfl, hy, hr⟩ := Rps.uncons (d := wayD b) (ds := []) hr
  obtain rfl := hr.unnil
  obtain ⟨t1, us, rfl, ht1, hu⟩ := hx.tuple
  have e := Rps.eints (ns := [a.1, a.2]) hu
  subst e
  obtain ⟨t2, us, rfl, ht2, hu2⟩ := hy.tuple
  have e := Rps.eints (ns := [b.1, b.2]) hu2
  subst e
  have tne0 : t2 ≠ t1 → (V.ref t2) ≠ V.ref t1 := fun h z => h (V.ref.inj z)
  have tne : (V.ref t2) ≠ V.ref t1 := fun z => by
    cases z
    rw [ht1] at ht2
    have := Option.some.inj ht2
    simp at this
    exact hne this.1
  refine ⟨p, _, fun v => if v = .ref t1 then a else b, rfl, Evl.sq_of (n2.fh _ _ hp), fun x hx => ?_, fun ys c hs hst hc => ?_⟩
  · rcases List.mem_cons.mp hx with rfl | hx
    · exact ⟨t1, rfl, by show H2 t1 = some (.tup [.int (if V.ref t1 = V.ref t1 then a else b).1, .int (if V.ref t1 = V.ref t1 then a else b).2]); rw [if_pos rfl]; exact n2.fh _ _ ht1⟩
    · obtain rfl := List.mem_singleton.mp hx
      exact ⟨t2, rfl, by show H2 t2 = some (.tup [.int (if V.ref t2 = V.ref t1 then a else b).1, .int (if V.ref t2 = V.ref t1 then a else b).2]); rw [if_neg tne]; exact n2.fh _ _ ht2⟩
  · have hl := hst.perm.length_eq
    have hm : ∀ z ∈ ys, z = .ref t1 ∨ z = .ref t2 := fun z hz => by have := hst.perm.mem_iff.mp hz; simpa using this
    have m1 : (V.ref t1) ∈ ys := hst.perm.mem_iff.mpr (by simp)
    have m2 : (V.ref t2) ∈ ys := hst.perm.mem_iff.mpr (by simp)
    have two : ys = [.ref t1, .ref t2] ∨ ys = [.ref t2, .ref t1] := by
      match ys, hl with
      | [u, w], _ =>
        rcases hm u (by simp) with rfl | rfl
        · rcases hm w (by simp) with rfl | rfl
          · simp at m2; exact absurd (congrArg V.ref m2) tne
          · exact .inl rfl
        · rcases hm w (by simp) with rfl | rfl
          · exact .inr rfl
          · simp at m1; exact absurd (congrArg V.ref m1.symm) tne
    have fin : ∀ (u w : Int × Int) (s1 s2 : Addr), F2 s1 = some (.tup [.int u.1, .int u.2]) → F2 s2 = some (.tup [.int w.1, .int w.2]) → Rp (upd F2 c (.lst [.ref s1, .ref s2])) (.ref c) (waysD [u, w]) := fun u w s1 s2 h1 h2 => by
      have ec : Ex F2 (upd F2 c (.lst [.ref s1, .ref s2])) := Ex.new (Evl.fresh_back n2.fh hc)
      exact Rp.mkL upd_same (Rps.cons (Rp.mkT (ec _ _ h1) (Rps.cons (.int _) (Rps.cons (.int _) .nil))) (Rps.cons (Rp.mkT (ec _ _ h2) (Rps.cons (.int _) (Rps.cons (.int _) .nil))) .nil))
    rcases two with rfl | rfl
    · have h1 : SrtO.lexB b a = false := by
        have := (List.pairwise_cons.mp hs).1 (.ref t2) (by simp)
        have t21 : ¬ t2 = t1 := fun z => tne (by rw [z])
        simpa [ltP, t21] using this
      have := SrtO.lexB_no.mp h1
      exact q _ _ _ _ ⟨[a, b], rfl, ⟨by simp; omega, by simp; omega⟩, by simp; omega⟩ (n2.trans (Nx.new n2.fh hc)) (fin a b t1 t2 ht1 ht2)
    · have h1 : SrtO.lexB a b = false := by
        have := (List.pairwise_cons.mp hs).1 (.ref t1) (by simp)
        have t21 : ¬ t2 = t1 := fun z => tne (by rw [z])
        simpa [ltP, t21] using this
      have := SrtO.lexB_no.mp h1
      exact q _ _ _ _ ⟨[b, a], rfl, ⟨by simp; omega, by simp; omega⟩, by simp; omega⟩ (n2.trans (Nx.new n2.fh hc)) (fin b a t2 t1 ht2 ht1)
/-- sorted([a, b]), two different whole numbers -/
theorem ex_sort2 {a b n : Int} (h : ED te σ F (li [a, b])) (hne : a ≠ b) (ha : 0 ≤ a ∧ a < n) (hb : 0 ≤ b ∧ b < n) : EX (tCB (rSorted K) (tCons te tNil)) σ F fun d => ∃ ns, d = li ns ∧ Up n ns ∧ ns ≠ [] := fun F1 H1 e1 e2 Q q => h F1 H1 e1 e2 _ fun v F2 H2 n2 r2 => by
  obtain ⟨p, vs, rfl, hp, hr⟩ := r2.list
  rw [hr.eints] at hp
  refine ⟨p, [a, b], rfl, Evl.sq_of (n2.fh _ _ hp), by simp, fun ns' c hperm hs hc => ?_⟩
  have hm : ∀ z, z ∈ ns' ↔ z = a ∨ z = b := fun z => by rw [hperm.mem_iff]; simp
  have nd : ns'.Nodup := hperm.nodup_iff.mpr (by simp [hne])
  refine q _ _ _ _ ⟨ns', rfl, ⟨?_, fun x hx => ?_⟩, fun z => ?_⟩ (n2.trans (Nx.new n2.fh hc)) (Rp.mkL upd_same (Rps.ints _))
  · have k : ∀ l : List Int, l.Pairwise (· ≤ ·) → l.Nodup → l.Pairwise (· < ·) := by
      intro l
      induction l with
      | nil => intro _ _; exact .nil
      | cons x xs ih =>
        intro h1 h2
        have h1' := List.pairwise_cons.mp h1
        have h2' := List.nodup_cons.mp h2
        refine List.pairwise_cons.mpr ⟨fun y hy => ?_, ih h1'.2 h2'.2⟩
        have a1 := h1'.1 y hy
        have a2 : x ≠ y := fun z => h2'.1 (by rw [z]; exact hy)
        omega
    exact k ns' hs nd
  · rcases (hm x).mp hx with rfl | rfl <;> assumption
  · have := (hm a).mpr (.inl rfl)
    rw [z] at this; cases this
/-- a comprehension over range(n), its list outside the frozen part -/
theorem q_lcRo {n : Int} {ws : List Nat} (g : Nat → D) (e : Ex F H) (h : EA tl σ F [.int n]) (hz : 0 ≤ n ∧ n < 50000) (hw : ∀ x, wipe ((wipe σ ws).set j (some x)) ws = wipe σ ws)
    (he : ∀ (x : Nat) F1, (x : Int) < n → Ex F F1 → ED te ((wipe σ ws).set j (some (.int (x : Int)))) F1 (g x))
    (q : ∀ Dl F1 vs H1, Nx F H F1 H1 → F1 Dl = none → H Dl = none → H1 Dl = some (.lst vs) → Rps F1 vs ((List.range n.toNat).map g) → tz D0 (σ.set i (some (.ref Dl))) H1) :
    tSeq (tAsg (tLc (iRng1 tl) (gName j) tYes te ws) (gName i)) tz D0 σ H := h F H (Ex.refl F) e _ fun vs F1 H1 n1 r1 => by
  obtain ⟨v, us, rfl, h1, h2⟩ := r1.uncons
  rw [h2.unnil, h1.eint]
  refine ⟨n, rfl, by omega, by omega, fun Dl hD => ?_⟩
  refine lc_range (lo := 0) (n := n.toNat) (fun i H' => Cw F1 H1 Dl (((List.range n.toNat).take i).map g) H') (Cw.start n1.fh hD) (fun i H' hi p => ⟨hw _, ?_⟩) (fun H' p => ?_)
  · have e0 : (0 : Int) + (i : Int) = (i : Int) := Int.zero_add _
    rw [e0]
    have hx : (List.range n.toNat)[i]? = some i := by rw [List.getElem?_range hi]
    refine Cw.turn (b := true) p ?_ et_yes (fun _ => he i F1 (by omega) n1.f) (fun H'' p' => ?_)
    · rw [List.length_map, List.length_take]; omega
    · rw [take_map_succ hx]
      exact p'
  · have ef : (List.range n.toNat).take n.toNat = List.range n.toNat := List.take_of_length_le (by simp)
    rw [ef] at p
    obtain ⟨Fi, vs, nx, f, hh, r⟩ := p.ex
    exact q Dl Fi vs H' (n1.trans nx) f (Evl.fresh_back n1.h hD) hh r
/-- xs[k] = v, xs outside the frozen part -/
theorem q_setL {p : Addr} {vs : List V} {ds : List D} {c : Int} {k : Nat} (e : Ex F H) (fp : F p = none) (hi : σ[i]? = some (some (.ref p))) (hp : H p = some (.lst vs)) (hr : Rps F vs ds) (hv : ED tv σ F d) (hc : ED ti σ F (.int c)) (hk : c = (k : Int)) (hl : k < ds.length)
    (q : ∀ v F1 H1, Nx F H F1 H1 → F1 p = none → Rps F1 (vs.set k v) (ds.set k d) → H1 p = some (.lst vs) → tz D0 σ (upd H1 p (.lst (vs.set k v)))) : tSeq (tAsg tv (gSub (tVar i) ti rSetL)) tz D0 σ H :=
  hv F H (Ex.refl F) e _ fun v F1 H1 n1 r1 => ⟨.ref p, hi, hc F1 H1 n1.f n1.fh _ fun u F2 H2 n2 r2 => by
    have n := n1.trans n2
    have hp2 := n.h _ _ hp
    refine ⟨p, vs, c, k, rfl, r2.eint, hp2, ?_, q v F2 H2 n (n.n p (by rw [hp]; exact fun z => nomatch z) fp) ?_ hp2⟩
    · unfold ixN
      rw [hk, if_pos (by omega), hr.n, if_pos (by omega)]; simp
    · have hr2 := hr.mono n.f
      refine ⟨by rw [List.length_set, List.length_set, hr.n], fun m w dd hw hd => ?_⟩
      rw [List.getElem?_set] at hw hd
      by_cases z : k = m
      · rw [if_pos z, if_pos (by rw [hr.n]; exact hl)] at hw
        rw [if_pos z, if_pos hl] at hd
        cases hw; cases hd
        exact r1.mono n2.f
      · rw [if_neg z] at hw hd
        exact hr2.r m w dd hw hd⟩
/-- xs.append(e), e some data with a property -/
theorem q_appX {l : Addr} {vs : List V} (e : Ex F H) (fl : F l = none) (hi : σ[i]? = some (some (.ref l))) (hl : H l = some (.lst vs)) (hz : vs.length < 100000) (h : EX te σ F P)
    (k : ∀ d v F1 H1, P d → Nx F H F1 H1 → F1 l = none → Rp F1 v d → tz D0 σ (upd H1 l (.lst (vs ++ [v])))) : tSeq (tDrop (tBM K "list" rAppend (tVar i) (tCons te tNil))) tz D0 σ H :=
  ⟨.ref l, hi, Or.inl ⟨rfl, vs, Evl.sq_of hl⟩, h F H (Ex.refl F) e _ fun d v F1 H1 pd n1 r1 => ⟨l, vs, v, rfl, rfl, n1.h _ _ hl, Evl.sz_lt hz, k d v F1 H1 pd n1 (n1.n l (by rw [hl]; exact fun z => nomatch z) fl) r1⟩⟩
/-- [g for x in range(a, b)] -/
theorem ed_lcR2 {lo hi : Int} {ws : List Nat} (g : Int → D) (h : EA tl σ F [.int lo, .int hi]) (hz : -1000 ≤ lo ∧ lo ≤ 1000 ∧ -1000 ≤ hi ∧ hi ≤ 1000) (hw : ∀ x, wipe ((wipe σ ws).set j (some x)) ws = wipe σ ws)
    (he : ∀ (x : Int) F1, lo ≤ x → x < hi → Ex F F1 → ED te ((wipe σ ws).set j (some (.int x))) F1 (g x)) :
    ED (tLc (iRng2 tl) (gName j) tYes te ws) σ F (.lst ((List.range (hi - lo).toNat).map fun (k : Nat) => g (lo + k))) := fun F0 H0 e1 e2 Q q => h F0 H0 e1 e2 _ fun vs F1 H1 n1 r1 => by
  obtain ⟨v, us, rfl, h1, h2⟩ := r1.uncons
  obtain ⟨w, us, rfl, h3, h2⟩ := h2.uncons
  rw [h2.unnil, h1.eint, h3.eint]
  refine ⟨lo, hi, rfl, by omega, fun Dl hD => ?_⟩
  refine lc_range (lo := lo) (n := (hi - lo).toNat) (fun i H' => Cw F1 H1 Dl (((List.range (hi - lo).toNat).take i).map fun (k : Nat) => g (lo + k)) H') (Cw.start n1.fh hD) (fun i H' hi' p => ⟨hw _, ?_⟩) (fun H' p => ?_)
  · have hx : (List.range (hi - lo).toNat)[i]? = some i := by rw [List.getElem?_range hi']
    refine Cw.turn (b := true) p ?_ et_yes (fun _ => he (lo + i) F1 (by omega) (by omega) (e1.trans n1.f)) (fun H'' p' => ?_)
    · rw [List.length_map, List.length_take]; omega
    · rw [take_map_succ hx]
      exact p'
  · have ef : (List.range (hi - lo).toNat).take (hi - lo).toNat = List.range (hi - lo).toNat := List.take_of_length_le (by simp)
    rw [ef] at p
    obtain ⟨F2, n2, r2⟩ := p.done
    exact q _ F2 H' (n1.trans n2) r2
/-- a, b, c, e = a list of four whole numbers -/
theorem q_unl4 {a b c e : Nat} {w x y z : Int} (eF : Ex F H) (h : ED te σ F (li [w, x, y, z])) (q : ∀ H1, Nx F H F H1 → tz D0 ((((σ.set a (some (.int w))).set b (some (.int x))).set c (some (.int y))).set e (some (.int z))) H1) :
    tSeq (tAsg te (gUnl K 4 (gCons (gName a) (gCons (gName b) (gCons (gName c) (gCons (gName e) gNil)))))) tz D0 σ H := h F H (Ex.refl F) eF _ fun v F1 H1 n1 r1 => by
  obtain ⟨p, vs, rfl, hp, hr⟩ := r1.list
  have ev := Rps.eints (ns := [w, x, y, z]) hr
  subst ev
  exact ⟨p, _, rfl, Evl.sq_of (n1.fh _ _ hp), rfl, _, _, rfl, _, _, rfl, _, _, rfl, _, _, rfl, rfl, q H1 n1.drop⟩
end
def okC (d : D) : Prop := ∃ l dd w g p, d = .tup [.tup [li l, llli dd, li w], li g, planD p] ∧ Hs l dd w ∧ Up l.length g ∧ g ≠ [] ∧ GoodPlan dd.length p ∧ p.2.length ≤ 70
def spWished : Sp := fun vs H Q _ => ∃ F l dd w g p c, Ex F H ∧ Rps F vs [.tup [li l, llli dd, li w], li g, planD p, .int c] ∧ Hs l dd w ∧ GoodPlan dd.length p ∧ Up l.length g ∧
  ∀ v F2 H2 w', Up l.length w' → Nx F H F2 H2 → Rp F2 v (li w') → Q v H2
end Bp
namespace Bp
open PySem PySem.Spec PyProof.Rows L2
open Evl (Ex)
/-- a list outside the frozen part, added to and then frozen -/
theorem lst_freeze {F1 H1 F2 H2 F3 H3 : Hp} {p : Addr} {vs : List V} {ds : List D} {v : V} {d : D} (nx : Nx F1 H1 F2 H2) (h0 : H1 p = none) (rs : Rps F2 vs ds) (n3 : Nx F2 H2 F3 H3) (f3 : F3 p = none) (rv : Rp F3 v d) :
    Nx F1 H1 (upd F3 p (.lst (vs ++ [v]))) (upd H3 p (.lst (vs ++ [v]))) ∧ Rp (upd F3 p (.lst (vs ++ [v]))) (.ref p) (.lst (ds ++ [d])) :=
  ⟨((nx.trans n3).mut (p := p) (o := .lst (vs ++ [v])) h0 f3).freeze h0 f3 upd_same, Rp.mkL upd_same (((rs.mono n3.f).mono (Ex.new f3)).snoc (rv.mono (Ex.new f3)))⟩
/-! ## the crossed plan -/
def crossA (M x : Int) : List Rw := (rng M).map fun k => (some 0, [(x, k + 1)])
def crossB (M N y : Int) : List Rw := (List.range (N - (M + 1)).toNat).map fun (k : Nat) => (some 0, [(y, M + 1 + k + 1)])
def crossR (M N x y : Int) (ws : List (Int × Int)) : List Rw := crossA M x ++ [(some 1, ws)] ++ crossB M N y ++ [(none, [])]
theorem one_way {x a lo hi : Int} (hx : 0 ≤ x ∧ x < 10) (ha : lo ≤ a ∧ a < hi) : GoodWays lo hi [(x, a)] := ⟨⟨by simp, by simp; exact hx⟩, by simp; exact ha⟩
theorem cross_ok {M N x y : Int} {ws pw : List (Int × Int)} (hM : 1 ≤ M ∧ M ≤ 4) (hN : M + 2 ≤ N ∧ N ≤ 9) (hx : 0 ≤ x ∧ x < 10) (hy : 0 ≤ y ∧ y < 10) (hw : GoodWays (M + 1) (N + 1) ws) (hp : GoodWays 0 (N + 1) pw) : GoodPlan 2 (pw, crossR M N x y ws) ∧ ((crossR M N x y ws).length : Int) = N + 1 := by
  have la : ((crossA M x).length : Int) = M := by unfold crossA; rw [List.length_map]; exact rng_len (by omega)
  have lb : ((crossB M N y).length : Int) = N - M - 1 := by unfold crossB; rw [List.length_map, List.length_range]; omega
  have hl : ((crossR M N x y ws).length : Int) = N + 1 := by
    unfold crossR
    rw [List.length_append, List.length_append, List.length_append, List.length_singleton, List.length_singleton]
    omega
  refine ⟨⟨by show (crossR M N x y ws).length ≤ 300; omega, by show GoodWays 0 ((crossR M N x y ws).length : Int) pw; rw [hl]; exact hp, fun i r hr => ?_⟩, hl⟩
  show GoodRow 2 i ((crossR M N x y ws).length : Int) r
  rw [hl]
  have hr : (crossR M N x y ws)[i]? = some r := hr
  have hi := (List.getElem?_eq_some_iff.mp hr).1
  unfold crossR at hr
  by_cases h1 : i < (crossA M x).length
  · rw [List.getElem?_append_left (by simp; omega), List.getElem?_append_left (by simp; omega), List.getElem?_append_left h1] at hr
    unfold crossA at hr
    rw [List.getElem?_map, rng_get (by omega)] at hr
    obtain rfl := Option.some.inj hr
    exact ⟨by decide, by decide, one_way hx (by omega)⟩
  · by_cases h2 : i = (crossA M x).length
    · subst h2
      rw [List.getElem?_append_left (by simp), List.getElem?_append_left (by simp), List.getElem?_append_right (by omega), Nat.sub_self] at hr
      obtain rfl := Option.some.inj hr
      refine ⟨by decide, by decide, ?_⟩
      rw [la]; exact hw
    · by_cases h3 : i < (crossA M x).length + 1 + (crossB M N y).length
      · rw [List.getElem?_append_left (by simp; omega), List.getElem?_append_right (by simp; omega)] at hr
        unfold crossB at hr
        rw [List.getElem?_map, List.getElem?_range (by simp; omega)] at hr
        obtain rfl := Option.some.inj hr
        refine ⟨by decide, by decide, one_way hy ?_⟩
        simp only [List.length_append, List.length_singleton]
        omega
      · have h4 : i = (crossA M x).length + 1 + (crossB M N y).length := by omega
        rw [List.getElem?_append_right (by simp; omega)] at hr
        have : i - (crossA M x ++ [(some 1, ws)] ++ crossB M N y).length = 0 := by simp; omega
        rw [this] at hr
        obtain rfl := Option.some.inj hr
        rfl
theorem go_ok {p q : Nat} {r s : Int} (hr : 0 ≤ r ∧ r < 4) (hs : 0 ≤ s ∧ s < 4) : ∀ e ∈ (((rng 4).map fun x => [x]).set p [r]).set q [s], Up 4 e ∧ e ≠ [] := fun e he => by
  have one : ∀ x : Int, 0 ≤ x → x < 4 → Up 4 [x] ∧ [x] ≠ [] := fun x a b => ⟨⟨by simp, by simp; omega⟩, by simp⟩
  rcases List.mem_or_eq_of_mem_set he with he | rfl
  · rcases List.mem_or_eq_of_mem_set he with he | rfl
    · obtain ⟨x, hx, rfl⟩ := List.mem_map.mp he
      have := mem_rng.mp hx
      exact one x this.1 this.2
    · exact one r hr.1 hr.2
  · exact one s hs.1 hs.2
end Bp
namespace Bp
open PySem PySem.Spec PyProof.Rows L2
open Evl (Ex)
section
variable {K : PySem.W.Frag} {σ : L2.St} {F H : Hp} {te : TE} {tl : TA} {D0 : Ends} {i j k : Nat} {P : D → Prop}
theorem s_tup3X (e : Ex F H) (h : EX te σ F P) (hp : ∀ d, P d → ∃ x y z, d = .tup [x, y, z]) (q : ∀ x y z v u w F1 H1, P (.tup [x, y, z]) → Nx F H F1 H1 → Rp F1 v x → Rp F1 u y → Rp F1 w z → D0.nx (((σ.set i (some v)).set j (some u)).set k (some w)) H1) :
    tAsg te (gTup K 3 (gCons (gName i) (gCons (gName j) (gCons (gName k) gNil)))) D0 σ H := h F H (Ex.refl F) e _ fun d v F1 H1 pd n1 r1 => by
  obtain ⟨x, y, z, rfl⟩ := hp d pd
  obtain ⟨a, us, rfl, ha, hr⟩ := r1.tuple
  obtain ⟨v0, _, rfl, h0, hr⟩ := hr.uncons
  obtain ⟨v1, _, rfl, h1, hr⟩ := hr.uncons
  obtain ⟨v2, _, rfl, h2, hr⟩ := hr.uncons
  obtain rfl := hr.unnil
  exact ⟨a, _, rfl, Evl.st_of (n1.fh _ _ ha), rfl, v0, _, rfl, v1, _, rfl, v2, _, rfl, rfl, q x y z v0 v1 v2 F1 H1 pd n1 h0 h1 h2⟩
end
theorem upto_all {m : Int} {f : Int → Bool} : Up m (upto m f) := upto_up m f
theorem up_filter {m : Int} {xs : List Int} {f : Int → Bool} (h : Up m xs) : Up m (xs.filter f) := ⟨h.1.filter _, fun x hx => h.2 x (List.mem_filter.mp hx).1⟩
def R_refL (A : Ad) (ds : List D) (d : D) : Prop := ∃ C, W_leads A ds C ∧ ((C = A.bp ∧ d = .str "plan") ∨ (C = A.bg ∧ d = .str "guess"))
theorem Hs.wish {l : List Int} {dd : List (List (List Int))} {w w' : List Int} (h : Hs l dd w) (h' : Up l.length w') : Hs l dd w' := ⟨h.n0, h.n8, h.lk, h.d1, h.d5, h.dn, h.de, h'⟩
theorem plan99 {w : D} {rs : List D} {n : Int} (hn : n ≤ 99) : isPlan (.tup [w, .lst (rs ++ [rowD (some 99, [])])]) n = false := by
  show (decide ((rs ++ [rowD (some 99, [])]).length ≤ 300) && areWays w 0 (rs ++ [rowD (some 99, [])]).length && rowsOk n (rs ++ [rowD (some 99, [])])) = false
  have : rowsOk n (rs ++ [rowD (some 99, [])]) = false := by
    rw [Bool.eq_false_iff]
    intro z
    have h := rowsOk_iff.mp z rs.length (rowD (some 99, [])) (by rw [List.getElem?_append_right (Nat.le_refl _), Nat.sub_self]; rfl)
    have := (isRow_of (by omega)).mp h
    exact absurd this.2.1 (by omega)
  rw [this, Bool.and_false]
end Bp
namespace L2
open PySem PySem.Spec PyProof.Rows PySem.Calls
section
variable {X : Cx} {pos : Pos}
/-- (a, *b, ..) = a list -/
def gStar (K : PySem.W.Frag) (n i : Nat) (t : TGs) : TG := fun v σ H Q => ∃ a xs, v = .ref a ∧ SqL K H a xs ∧ n ≤ xs.length + 1 ∧ xs.length ≤ 16000 ∧
  ∀ p, H p = none → t (xs.take i ++ [.ref p] ++ (xs.drop i).drop (xs.length + 1 - n)) σ (upd H p (.lst ((xs.drop i).take (xs.length + 1 - n)))) Q
theorem vals_app {xs ys : List V} {us vs : List Value} (a : Vals xs us) (b : Vals ys vs) : Vals (xs ++ ys) (us ++ vs) := by
  induction a with
  | nil => exact b
  | cons r _ ih => exact .cons r ih
theorem vals_take {xs : List V} {us : List Value} (a : Vals xs us) (n : Nat) : Vals (xs.take n) (us.take n) := by
  induction a generalizing n with
  | nil => simp; exact .nil
  | cons r _ ih => cases n with
    | zero => exact .nil
    | succ n => exact .cons r (ih n)
theorem vals_drop {xs : List V} {us : List Value} (a : Vals xs us) (n : Nat) : Vals (xs.drop n) (us.drop n) := by
  induction a generalizing n with
  | nil => simp; exact .nil
  | cons r t ih => cases n with
    | zero => exact .cons r t
    | succ n => exact ih n
theorem pgs_starred {e : Expr} {es : List Expr} {t : TG} {u : TGs} {q : Pos} (h1 : PG X e t) (h2 : PGs X es u) : PGs X (.Starred e q :: es) (gCons t u) := by
  refine ⟨fun pins s σ H vs us Q I r h => ?_⟩
  obtain ⟨v, vr, e1, h⟩ := h
  subst e1
  cases r with
  | cons r rr =>
    refine assignInOrder_cons (thn (h1.run pins s σ H _ _ _ I r h) fun _ s1 ⟨σ1, H1, I1, q1⟩ => ?_)
    exact h2.run pins s1 σ1 H1 _ _ Q I1 rr q1
theorem pg_star {es : List Expr} {k n i : Nat} {t : TGs} (hc : X.calm = true) (h : PGs X es t) (hi : i < n)
    (hn : (assignEach es X.env).length = n := by rfl) (hst : (assignEach es X.env).findIdx? (·.1) = some i := by rfl) : PG X (.Tuple es k pos) (gStar X.K n i t) := by
  refine ⟨fun pins s σ H v u Q I r hw => ?_⟩
  obtain ⟨a, xs, e1, hq, hl, hx, hw⟩ := hw
  subst e1
  cases r
  obtain ⟨its, rv, pl, hz⟩ := I.list hq
  have hll : s.heap.IsList a its.toArray := by
    obtain ⟨o, m, e, c, d, q⟩ := pl
    exact ⟨o, e, c, m, q⟩
  have hlen : its.length = xs.length := rv.length.symm
  have hh : X.A.handled = none := I.ok.hd hc
  rw [PyProof.Rows.assign_Tuple]
  refine wpAny_bind (wpAny_standAt ?_)
  unfold unpack
  rw [hn, hst]
  refine wpAny_bind (wpAny_holding ?_)
  have hlt : a ≠ s.heap.objs.size := by obtain ⟨o, ho, _⟩ := hll; exact Nat.ne_of_lt (Heap.lt_size ho)
  unfold unpackItems
  refine wpAny_bind ?_
  unfold notIterableAtAll
  refine wpAny_bind (wpAny_specialOf hll.typeIs slot_list_iter.lookup ?_)
  refine wpAny_pure ?_
  simp only [Bool.false_eq_true, if_false]
  refine wpAny_bind (wpAny_holding (wpAny_pyIter_list hll ?_))
  refine wpAny_bind (wpAny_holding (PySem.W.kun_draw hlt i 0 _ _ ⟨_, Heap.get?_push_size _ rfl, rfl, rfl⟩ (hll.push _) (by simp; omega) fun h₁ hit₁ hs₁ => ?_))
  have hl₁ : h₁.IsList a its.toArray := (hll.push _).extBut hs₁.extBut hlt
  rw [Nat.zero_add] at hit₁
  have hit₁' := hit₁
  obtain ⟨oi, hoi, _⟩ := hit₁'
  have hl₁' := hl₁
  obtain ⟨ol, hol, _⟩ := hl₁'
  rw [List.drop_zero]
  have hfl : (its.toArray.toList.take i).length = i := by rw [List.length_take, List.toList_toArray]; omega
  rw [if_neg (show ¬ ((its.toArray.toList.take i).length < i) by rw [hfl]; omega)]
  refine wpAny_bind (wpAny_holding (PySem.W.kun_collect (s := { s with heap := h₁ }) (T := "list_iterator") (.inr (.inr (.inl rfl))) (Walks.list (A := X.A.in1) hh s.heap.objs.size a hlt its.toArray) (fun j u st => st.1.typeIs) (k := i) (by simp; omega) ⟨hit₁, hl₁⟩ (Heap.lt_size hoi) (Heap.lt_size hol) (fun h₂ tk hk => ?_) (by rw [sizeLine_eq]; simp; omega)))
  have hrl : (its.toArray.toList.drop i).length = xs.length - i := by rw [List.length_drop, List.toList_toArray, hlen]
  have hmid : (its.toArray.toList.drop i).length - (n - 1 - i) = xs.length + 1 - n := by rw [hrl]; omega
  show wpAny _ _ (if (its.toArray.toList.drop i).length < n - 1 - i then _ else _) _ _ _
  rw [if_neg (by rw [hrl]; omega)]
  show wpAny _ _ (newList ((its.toArray.toList.drop i).take ((its.toArray.toList.drop i).length - (n - 1 - i))) >>= fun d => pure (its.toArray.toList.take i ++ [d] ++ (its.toArray.toList.drop i).drop ((its.toArray.toList.drop i).length - (n - 1 - i)))) _ _ _
  rw [hmid]
  have he : Heap.ExtBut s.heap.objs.size s.heap h₂ := fun b o hb e => hk b o hb (hs₁.extBut b o hb (Heap.get?_push_of_some _ e))
  have I1 : Inv X pins σ H { s with heap := h₂, toks := tk } := I.kept (t' := tk) fun b o e => he b o (Nat.ne_of_lt (Heap.lt_size e)) e
  have hf : H h₂.objs.size = none := I1.hok.fresh (Nat.le_refl _)
  have rm : Vals ((xs.drop i).take (xs.length + 1 - n)) ((its.drop i).take (xs.length + 1 - n)) := vals_take (vals_drop rv i) _
  have hz2 : ((its.drop i).take (xs.length + 1 - n)).length ≤ sizeLine := by rw [← rm.length, List.length_take, List.length_drop, sizeLine_eq]; omega
  refine wpAny_bind (wpAny_newList (s := { s with heap := h₂, toks := tk }) (wpAny_pure ?_) hz2)
  have I2 : Inv X pins σ (upd H h₂.objs.size (.lst ((xs.drop i).take (xs.length + 1 - n)))) { s with heap := h₂.push { cls := .type "list", data := .seq ((its.drop i).take (xs.length + 1 - n)).toArray }, toks := tk } :=
    I1.laid (t' := tk) (fun b u e => Heap.get?_push_of_some _ e) (Nat.le_refl _) ⟨by rw [rm.length]; exact hz2, _, 0, rm, Heap.get?_push_size _ rfl⟩
  exact h.run pins _ σ _ _ _ Q I2 (vals_app (vals_app (vals_take rv i) (.cons (show RelV (.ref h₂.objs.size) (.ref h₂.objs.size) from rfl) .nil)) (vals_drop (vals_drop rv i) _)) (hw _ hf)
end
end L2
namespace L2
open PySem PySem.Spec PyProof.Rows PySem.Calls
section
variable {X : Cx}
/-! a range object kept in a slot, walked -/
def rRgV : List V → Hp → VK → Prop := fun vs H Q => ∃ n, vs = [V.int n] ∧ ∀ p, H p = none → Q (.ref p) (upd H p (.rng 0 n))
theorem cr_rgV : CallR X (.type "range") rRgV := fun pins s σ H vs us Q I r ⟨n, e, q⟩ => by
  subst e
  obtain ⟨u, rfl, rn⟩ := vals1 r
  obtain ⟨t, rfl⟩ := rn
  have fresh := I.hok.fresh (Nat.le_refl _)
  exact call_range_1 ⟨.ref _, _, I.laid (o := .rng 0 n) (t' := s.toks + 1 + 1) (fun b o => Heap.get?_push_of_some _) (Nat.le_refl _) ⟨_, _, _, Heap.get?_push_size _ rfl⟩, rfl, q _ fresh⟩
def iRgV (te : TE) : TI := fun σ H R => te σ H fun x H1 => ∃ (a : Addr) (n : Int), x = .ref a ∧ H1 a = some (.rng 0 n) ∧ 0 ≤ n ∧ n < 100000 ∧ R (Itr 0 n.toNat) H1
theorem pi_rgV {tg e : Expr} {te : TE} (he : PE X e te) : PI X tg e (iRgV te) := ⟨fun pins s σ H R I h =>
  thn (he.run pins s σ H _ I h) fun v s1 ⟨x, H1, I1, rx, a, n, ex, ha, n0, n1, q⟩ => by
    subst ex
    obtain rfl : v = Value.ref a := rx
    obtain ⟨t, u, w, hr⟩ := (show ObjOk X.prog X.w H1 s1.heap a (.rng 0 n) from I1.hok a _ ha)
    refine wpAny_pyIter_range (show IsRange _ _ _ _ _ _ _ _ from hr) (small_one (by omega) (by omega) (by omega) (by omega)) (pi_one (tk := s1.toks) I1 _ (turn_range _ 0 n.toNat) ?_ q)
    have e1 : (0 : Int) + ((0 : Nat) : Int) * 1 = 0 := by omega
    have e2 : ((n.toNat : Nat) : Int) - ((0 : Nat) : Int) = Builtin.Range.rangeSize 0 n 1 := by rw [rangeSize_one]; split <;> omega
    show IsRangeIter _ _ ((0 : Int) + ((0 : Nat) : Int) * 1) (((n.toNat : Nat) : Int) - ((0 : Nat) : Int)) 1
    rw [e1, e2]
    exact Heap.get?_push_size _ rfl⟩
/-! the pairs of a dict with tuples as keys -/
theorem frz_val {pins : List (Addr × Obj)} {σ : St} {H : Hp} {s : Shared} {d : Addr} {o : Obj} {kvs : List (List Key × V)} (I : Inv X pins σ H s) (h : H d = some (.frz o (.dT kvs))) :
    (d == sysModules) = false ∧ ∃ es ep, o.data = .dict es ep ∧ DT.Raw s.heap d es ep ∧ es.size = kvs.length ∧
      ∀ (i : Nat) (k : List Key) (v : V), kvs[i]? = some (k, v) → ∃ (en : DictEntry) (q : Addr), es[i]? = some en ∧ en.key = .ref q ∧ RelV v en.val ∧ H q = some (.tup (k.map kV)) := by
  obtain ⟨a1, a2, a3, es, ep, a4, a5, _⟩ := I.frzT h
  refine ⟨a1, es, ep, a4, ⟨o, a2, a3, a4⟩, a5, fun i k v e => ?_⟩
  obtain ⟨_, _, _, xs, pr, o', es', ep', ho, _, hdt, hent, _⟩ := I.hok d _ h
  obtain rfl : o = o' := Option.some.inj (a2.symm.trans ho)
  obtain ⟨rfl, rfl⟩ := dict_ep hdt a4
  obtain ⟨b, hb, _, e2, e3⟩ := paired_get pr e
  have q := entry_at hent i
  rw [hb] at q
  exact ⟨_, b.2.1, q, rfl, e3, e2⟩
def ItT (d : Addr) (o : Obj) (kvs : List (List Key × V)) : It :=
  ⟨fun i H => H d = some (.frz o (.dT kvs)) ∧ i < kvs.length, fun i H x H' => ∃ (T q : Addr) (k : List Key) (v : V), kvs[i]? = some (k, v) ∧ x = .ref T ∧ H T = none ∧ H q = some (.tup (k.map kV)) ∧ H' = upd H T (.tup [.ref q, v]),
    fun i H => H d = some (.frz o (.dT kvs)) ∧ kvs.length ≤ i⟩
theorem turn_itT {P : Program} {w : World} {K : PySem.W.Frag} {d : Addr} {o : Obj} {es : Array DictEntry} {ep : Nat} {kvs : List (List Key × V)} {ts : List Expr} {kk : Nat} {tp : Pos} (it : Addr) (hod : o.data = .dict es ep) (hsz : es.size = kvs.length) :
    Turn P w K (.Tuple ts kk tp) (ItT d o kvs) [it] it (fun i h => ∃ ok ov, IsItemIter h it d i es.size ep ok ov) where
  mem := List.mem_singleton.mpr rfl
  obj := fun i h st b hb => by
    obtain rfl := List.mem_singleton.mp hb
    obtain ⟨ok, ov, e⟩ := st
    exact ⟨_, e, fun v z => nomatch z⟩
  keep := fun i h h' st k => let ⟨ok, ov, e⟩ := st; ⟨ok, ov, k it (List.mem_singleton.mpr rfl) _ e⟩
  item := fun X hP hw hK hc i pins s σ H E I hf st hg => by
    cases hP; cases hw; cases hK
    obtain ⟨hd, hi⟩ := hg
    obtain ⟨_, es', ep', g1, raw, g3, g4⟩ := frz_val I hd
    obtain ⟨rfl, rfl⟩ := dict_ep hod g1
    obtain ⟨en, q, c1, c2, c3, c4⟩ := g4 i kvs[i].1 kvs[i].2 (List.getElem?_eq_getElem hi)
    have hi' : i < es'.size := by omega
    have een : es'[i] = en := Option.some.inj ((Array.getElem?_eq_getElem hi').symm.trans c1)
    obtain ⟨ok, ov, st⟩ := st
    have low : it < s.heap.objs.size := Heap.lt_size st
    refine DT.nextI st raw hi' fun h' hOut hT _ hk => ⟨_, rfl, wpAny_letOwnedTupleGo_items (s := { s with heap := h' }) hOut fun h'' back sb => ?_⟩
    rw [een, c2] at hT
    have hT2 : h''.get? s.heap.objs.size = _ := (sb.2 _ (Nat.ne_of_gt low)).trans hT
    have kept : ∀ b ob, b ∉ [it] → s.heap.get? b = some ob → h''.get? b = some ob := fun b ob hb e => by
      have ne : b ≠ it := fun z => hb (List.mem_singleton.mpr z)
      exact (sb.2 b ne).trans (hk b ob ne e)
    have new : ObjOk X.prog X.w (upd H s.heap.objs.size (.tup [.ref q, kvs[i].2])) h'' s.heap.objs.size (.tup [.ref q, kvs[i].2]) :=
      ⟨by show 2 ≤ sizeLine; decide, [.ref q, en.val], .cons (show RelV (.ref q) (.ref q) from rfl) (.cons c3 .nil), ⟨_, hT2, rfl, _, rfl⟩⟩
    refine ⟨.ref s.heap.objs.size, _, I.turnedNew (t' := s.toks) (ch := [it]) kept hf (Nat.le_refl _) new, rfl, ⟨_, q, kvs[i].1, kvs[i].2, List.getElem?_eq_getElem hi, rfl, I.hok.fresh (Nat.le_refl _), c4, rfl⟩, ⟨_, _, back⟩, fun b hb => ?_⟩
    obtain rfl := List.mem_singleton.mp hb
    rw [upd_ne (Nat.ne_of_lt low)]
    exact (hf b hb).1
  done := fun X hP hw hK hc i pins s σ H E I hf st hg => by
    cases hP; cases hw; cases hK
    obtain ⟨hd, hi⟩ := hg
    obtain ⟨f0, f1, f2, f3, f4, f5⟩ := hf it (List.mem_singleton.mpr rfl)
    obtain ⟨_, es', ep', g1, raw, g3, _⟩ := frz_val I hd
    obtain ⟨rfl, rfl⟩ := dict_ep hod g1
    obtain ⟨ok, ov, st⟩ := st
    exact DT.endI (I.ok.hd hc) st raw (by omega) fun h' eb => ⟨rfl, I.turned (t' := s.toks) (fun b ob hb => eb b ob hb) f0 f1 f3 f4 f5⟩
  self := fun A i s Q E st h => let ⟨_, _, e⟩ := st; PySem.W.kcp_self e h
def iItT (td : TE) : TI := fun σ H R => td σ H fun x H1 => ∃ d o kvs, x = .ref d ∧ H1 d = some (.frz o (.dT kvs)) ∧ R (ItT d o kvs) H1
theorem pi_itT {e : Expr} {td : TE} {apos cpos tp : Pos} {ts : List Expr} {kk : Nat} (he : PE X e td) (hb : attributeBase e "items" X.env (eval e X.env) = eval e X.env := by rfl) (hl : (apos.endLine == cpos.line) = true := by rfl) :
    PI X (.Tuple ts kk tp) (.Call (.Attribute e "items" apos) [] [] cpos) (iItT td) := ⟨fun pins s σ H R I h => by
  refine wpAny_Call_method (T := "dict") (id := "dict.items") hb rfl hl F.plainAttrs_dict F.slot_dict_items F.type_dict_items (thn (he.run pins s σ H _ I h) fun u s1 ⟨x, H1, I1, rx, d, o, kvs, ex, hd, q⟩ => ?_)
  subst ex
  obtain rfl : u = Value.ref d := rx
  obtain ⟨sysd, es, ep, g1, raw, g3, _⟩ := frz_val I1 hd
  refine ⟨raw.typeIs, fun a ea => by cases ea; obtain ⟨ob, ho, hx, _⟩ := raw; exact ⟨ob, ho, hx.2.1⟩, ?_⟩
  have I2 : Inv X pins σ H1 { s1 with heap := s1.heap.push { cls := .type "dict_items", data := .fields #[.ref d] } } := I1.kept (t' := s1.toks) fun b ob => Heap.get?_push_of_some _
  show wpAny _ _ (callWith cpos (.builtin "dict.items") [.ref d] [] []) _ X.xe s1
  refine Calls.callWith_builtin rfl (PySem.evalArgs_none (DT.callItems (es := es) (ep := ep) sysd raw ?_))
  refine DT.iterI (d := d) (es := es) (ep := ep) ⟨_, Heap.get?_push_size _ rfl, rfl, rfl⟩ (raw.push _) (pi_one (tk := s1.toks) I2 _ (turn_itT _ g1 g3) ⟨.none, .none, ?_⟩ q)
  exact Heap.get?_push_size _ rfl⟩
end
end L2
namespace L2
open PySem PySem.Spec PyProof.Rows PySem.Calls
section
variable {X : Cx}
/-! a dict comprehension whose keys are tuples -/
theorem put_comp {pins : List (Addr × Obj)} {σ : St} {H H' : Hp} {s : Shared} {E : Value → Shared → Prop} {D : Addr} {y z : V} {u r : Value} {Q : Unit → Shared → Prop} (hu : X.A.units < cLine) (I : Inv X pins σ H s) (g : DPut H D y z H') (ry : RelV y u) (rz : RelV z r)
    (q : ∀ s', Inv X pins σ H' s' → Q () s') : wpAny (model X.prog X.w) X.A (dictSet D u r) Q E s := by
  rcases g with ⟨kvs, k, hD, rfl, l, rfl⟩ | ⟨kvs, k, b, hD, rfl, hb, l, rfl⟩
  · exact d_dictSet I hD l ry rz q
  · obtain rfl : u = Value.ref b := ry
    have ⟨z0, z1, xs, rel, dd⟩ := dt_of I.hok hD
    have size_xs : xs.length ≤ sizeLine := (Paired.length rel) ▸ z0
    have size_put : (putK kvs k z).length ≤ sizeLine := Nat.le_trans (length_putK kvs k z) l
    refine wpAny_dictSet_heap (hsz := size_xs) (knd := tupleKind (mixKind X.prog X.w)) (show (tupleKind (mixKind X.prog X.w)).room X.A from hu) (key_of I.hok hb) dd fun h' dd' same => q _ ?_
    have ⟨o, es, ep, c1, c2, c3, c4, _, c5⟩ := dd'
    have tups : ∀ c ys, H c = some (.tup ys) → upd H D (.dT (putK kvs k z)) c = some (.tup ys) := fun c ys ec => by rw [upd_ne (ne_of ec hD (fun w => nomatch w))]; exact ec
    exact d_write I (show Mut (H D) by rw [hD]; trivial) same ⟨o, c1⟩ ⟨size_put, z1, _, (rel.put k hb rz).keeps tups, o, es, ep, c1, c2, c3, c4, c5⟩
def tDcT (wi : TI) (g : TG) (tt : TT) (tk tv : TE) (vs : List Nat) : TE := fun σ H Q => wi σ H fun J H1 => ∀ D, H1 D = none → ∃ W : Nat → Nat → Hp → Prop, (∃ m, W 0 m (upd H1 D (.dT []))) ∧ ∀ i m H2, W i m H2 →
  (J.stop i H2 ∧ Q (.ref D) H2) ∨ (J.go i H2 ∧ ∃ Nx : Hp → Prop, (∀ H', Nx H' → ∃ m', m' < m ∧ W (i + 1) m' H') ∧ ∀ x H', J.yld i H2 x H' → g x (wipe σ vs) H' fun σ2 H3 => wipe σ2 vs = wipe σ vs ∧ tt σ2 H3 fun b H4 =>
    if b = true then tk σ2 H4 fun y H5 => tv σ2 H5 fun z H6 => ∃ H7, DPut H6 D y z H7 ∧ Nx H7 else Nx H4)
theorem dcT_core {pins : List (Addr × Obj)} {s : Shared} {σ : St} {H : Hp} {Q : VK} {kx vx tg iter : Expr} {ifs : List Expr} {scope : Scope} {own : List (Str × Nat)} {pos pos' : Pos} {wi : TI} {g : TG} {tt : TT} {tk tv : TE} {use : Option (Value → Sem Unit)} {Qf : Value → Shared → Prop}
    (hc : X.calm = true) (hN : X.N.Nodup) (hu : X.A.units < cLine) (I : Inv X pins σ H s) (hi : PI X tg iter wi) (ok : BlkOk X.N X.env.scope scope own)
    (hg : ∀ s H C cl fp, PG (X.blk s H scope (compEnvC scope cl C X.env) fp) tg g) (ht : ∀ s H C cl fp, PTs (X.blk s H scope (compEnvC scope cl C X.env) fp) ifs tt)
    (hk : ∀ s H C cl fp, PE (X.blk s H scope (compEnvC scope cl C X.env) fp) kx tk) (hv : ∀ s H C cl fp, PE (X.blk s H scope (compEnvC scope cl C X.env) fp) vx tv)
    (hs : ∀ x, foldedSetIterable iter X.env x = pure x) (h : tDcT wi g tt tk tv (own.map (·.2)) σ H Q)
    (finish : ∀ D C s' m H', Inv X pins σ H' s' → Q (.ref D) H' → s'.heap.Ns C m → FpOk X pins H' C → compPost (model X.prog X.w) X.A X.xe use Qf (.ref D) C (.ok .next) s') :
    wpAny (model X.prog X.w) X.A (comprehension (.DictComp kx vx [⟨tg, iter, ifs, 0⟩] scope pos) scope X.env pos' newDict false (eval iter X.env) use) Qf X.xe s := by
  have cellsOf : ∀ y ∈ scope.names, y.2 = .free → ∃ c, X.env.cells.lookup y.1 = some c := fun y hy e => I.ok.has _ (Or.elim (ok.free y hy e) .inl .inr)
  refine wpAny_comprehension_free (use := use) rfl hs (closure_ok cellsOf) ok.kind (fun y hy e => (ok.uniq y hy).trans (congrArg some e)) (thn (hi.run pins s σ H _ I h) fun xv s1 hx => thn hx fun itv s2 h2 => ?_)
  obtain ⟨it, fp, tn, J, H2, rfl, I2, T, at0, fpOk, q⟩ := h2
  refine wpAny_newObj_type (newEnv_comp ?_)
  -- the new dict, at D
  let D := s2.heap.objs.size
  have Dfree : H2 D = none := I2.hok.fresh (Nat.le_refl _)
  obtain ⟨W, ⟨m0, w0⟩, turn⟩ := q D Dfree
  generalize es3 : ({ s2 with heap := s2.heap.push { cls := .type "dict", data := .dict #[] } } : Shared) = s3
  have hp3 : s3.heap = s2.heap.push { cls := .type "dict", data := .dict #[] } := es3 ▸ rfl
  have I3 : Inv X pins σ (upd H2 D (.dT [])) s3 := es3 ▸ I2.laid (t' := s2.toks) (fun b o => Heap.get?_push_of_some _) (Nat.le_refl _) (dt_empty s2.heap I2.big)
  have under : ∀ b ∈ fp, b < D := fun b hb => let ⟨_, e, _⟩ := T.obj _ _ at0 b hb; Heap.lt_size e
  have fpOk3 : ∀ b ∈ fp, FpOk X pins (upd H2 D (.dT [])) b ∧ b < s3.heap.objs.size := fun b hb =>
    ⟨⟨(upd_ne (Nat.ne_of_lt (under b hb))).trans (fpOk b hb).1, (fpOk b hb).2⟩, by rw [hp3, Heap.size_push]; exact Nat.lt_succ_of_lt (under b hb)⟩
  have at3 : tn 0 s3.heap := T.keep _ _ _ at0 fun b _ o e => by rw [hp3]; exact Heap.get?_push_of_some _ e
  have I4 := block_start I3 ok hN fpOk3
  let C := s3.heap.objs.size
  have none3 : ∀ b ∈ fp, (upd H2 D (.dT [])) b = none := fun b hb => (fpOk3 b hb).1.1
  show codeAny _ _ (.compStart (.DictComp kx vx [⟨tg, iter, ifs, 0⟩] scope pos) 0 (.ref it) (.ref D) (compEnvC scope (cellsFrom (s3.heap.objs.size + 1) scope.names (cloFrom X.env.cells scope.names [])) C X.env)) (compPost (model X.prog X.w) X.A X.xe use _ (.ref D) C) { s3 with heap := pushCells (s3.heap.push { cls := .type "dict", data := .dict #[] }) scope.names }
  generalize ece : compEnvC scope (cellsFrom (s3.heap.objs.size + 1) scope.names (cloFrom X.env.cells scope.names [])) C X.env = ce
  have Gt := ece ▸ hg s3 (upd H2 D (.dT [])) C (cellsFrom (s3.heap.objs.size + 1) scope.names (cloFrom X.env.cells scope.names [])) fp
  have Tt := ece ▸ ht s3 (upd H2 D (.dT [])) C (cellsFrom (s3.heap.objs.size + 1) scope.names (cloFrom X.env.cells scope.names [])) fp
  have Kt := ece ▸ hk s3 (upd H2 D (.dT [])) C (cellsFrom (s3.heap.objs.size + 1) scope.names (cloFrom X.env.cells scope.names [])) fp
  have Vt := ece ▸ hv s3 (upd H2 D (.dT [])) C (cellsFrom (s3.heap.objs.size + 1) scope.names (cloFrom X.env.cells scope.names [])) fp
  have Ceq : ce.locals = C := ece ▸ rfl
  rw [show s3.heap.objs.size = C from rfl, ece] at I4
  generalize eH3 : upd H2 D (.dT []) = H3 at I3 I4 Gt Tt Kt Vt w0 none3 fpOk3
  generalize es4 : ({ s3 with heap := pushCells (s3.heap.push { cls := .type "dict", data := .dict #[] }) scope.names } : Shared) = s4 at I4 ⊢
  have at4 : tn 0 s4.heap := T.keep _ _ _ at3 fun b _ o e => es4 ▸ pushCells_keeps _ _ _ _ (Heap.get?_push_of_some _ e)
  have inside : ∀ {σ' : St} {H' : Hp} {s' : Shared}, Inv (X.blk s3 H3 scope ce fp) [] σ' H' s' → (∀ b ∈ fp, H' b = none) → ∀ b ∈ fp, FpOk (X.blk s3 H3 scope ce fp) [] H' b := fun I' hn b hb =>
    ⟨hn b hb, (I'.ok.exf b hb).1, I'.ok.exfs b hb, .inl hb, fun x c e => (I'.ok.exf b hb).2 x c e, fun p hp => nomatch hp⟩
  let Loop : Nat → Shared → Prop := fun n s' => ∃ i H', Inv (X.blk s3 H3 scope ce fp) [] (wipe σ (own.map (·.2))) H' s' ∧ tn i s'.heap ∧ (∀ b ∈ fp, H' b = none) ∧ W i n H'
  have whole : codeAny (model X.prog X.w) X.A (.compLoop (.DictComp kx vx [⟨tg, iter, ifs, 0⟩] scope pos) 0 (.ref it) (.ref D) ce) (compPost (model X.prog X.w) X.A X.xe use Qf (.ref D) C) s4 := by
    refine compLoop_anyD Loop (fun n s5 ⟨i, H5, I5, at5, none5, w5⟩ => ?_) m0 ⟨0, H3, I4, at4, none3, w0⟩
    rcases turn i n H5 w5 with ⟨stop, done⟩ | ⟨go, Nx, later, step⟩
    · refine thnF (T.done (X.blk s3 H3 scope ce fp) rfl rfl rfl hc i [] s5 _ H5 (fun _ _ => False) I5 (inside I5 none5) at5 stop) fun r s6 ⟨er, I6⟩ => ?_
      subst er
      have I7 : Inv X pins σ H5 s6 := I3.call' (ch := fp) I6.os I6.base I6.hok I6.bare fun b hb => let z := (fpOk3 b hb).1.2; ⟨z.2.2.1, z.1, z.2.2.2.1, z.2.2.2.2⟩
      have freeC : H5 C = none := Ceq ▸ (show H5 ce.locals = none from I6.free)
      obtain ⟨m, ns, _⟩ := I6.loc
      have ns : s6.heap.Ns C m := Ceq ▸ (show s6.heap.Ns ce.locals m from ns)
      exact finish D C s6 m H5 I7 done ns (I3.fpOk (Nat.le_refl _) freeC)
    · refine thnF (T.item (X.blk s3 H3 scope ce fp) rfl rfl rfl hc i [] s5 _ H5 (fun _ _ => False) I5 (inside I5 none5) at5 go) fun r s6 ⟨u, er, h6⟩ => ?_
      subst er
      refine thnF h6 fun _ s7 ⟨x, H7, I7, r7, y7, at7, none7⟩ => ?_
      refine thnF (Gt.run _ s7 _ H7 x u _ (I7.pinned (inside I7 none7) (T.obj _ _ at7)) r7 (step x H7 y7)) fun _ s8 ⟨σ8, H8, I8, same8, q8⟩ => ?_
      refine thnF (Tt.run _ s8 σ8 H8 _ I8 q8) fun b s9 ⟨H9, I9, q9⟩ => ?_
      -- how a turn ends
      have ends : ∀ {s' : Shared} {H' : Hp}, Inv (X.blk s3 H3 scope ce fp) ([] ++ pinsAt fp s7.heap) σ8 H' s' → Nx H' → ∃ m, m < n ∧ Loop m s' := fun {s' H'} I' nx => by
        obtain ⟨m', lt, w'⟩ := later H' nx
        have pinned : ∀ b ∈ fp, ∀ o, s7.heap.get? b = some o → s'.heap.get? b = some o ∧ H' b = none := fun b hb o e => (fun z => ⟨z.1, z.2.1⟩) (I'.pin (b, o) (List.mem_append_right _ (List.mem_append_right _ (mem_pinsAt hb e))))
        refine ⟨m', lt, i + 1, H', I'.unpinned (pins := []) |>.weak ((wipe_length σ _).trans ((wipe_length σ _).symm.trans (same8 ▸ wipe_length σ8 _))) (fun j v e => (wipe_some (same8.symm ▸ e)).1), ?_, ?_, w'⟩
        · exact T.keep _ _ _ at7 fun b hb o e => (pinned b hb o e).1
        · exact fun b hb => let ⟨o, e, _⟩ := T.obj _ _ at7 b hb; (pinned b hb o e).2
      cases b with
      | false => exact ends I9 (by simpa using q9)
      | true =>
        rw [if_pos rfl] at q9
        refine thnF (Kt.run _ s9 σ8 H9 _ I9 q9) fun z s10 ⟨yk, H10, I10, r10, q10⟩ => ?_
        refine thnF (Vt.run _ s10 σ8 H10 _ I10 q10) fun z2 s11 ⟨yv, H11, I11, r11, H12, put, nx⟩ => ?_
        exact put_comp (X := X.blk s3 H3 scope ce fp) hu I11 put r10 r11 fun s12 I12 => ends I12 nx
  exact codeAny_compStart_dict whole (T.self X.A 0 _ _ _ at4 whole)
section
variable {kx vx tg iter : Expr} {ifs : List Expr} {scope : Scope} {own : List (Str × Nat)} {pos : Pos} {wi : TI} {g : TG} {tt : TT} {tk tv : TE}
theorem pe_dcT (hc : X.calm = true) (hN : X.N.Nodup) (hu : X.A.units < cLine) (hi : PI X tg iter wi) (ok : BlkOk X.N X.env.scope scope own)
    (hg : ∀ s H C cl fp, PG (X.blk s H scope (compEnvC scope cl C X.env) fp) tg g) (ht : ∀ s H C cl fp, PTs (X.blk s H scope (compEnvC scope cl C X.env) fp) ifs tt)
    (hk : ∀ s H C cl fp, PE (X.blk s H scope (compEnvC scope cl C X.env) fp) kx tk) (hv : ∀ s H C cl fp, PE (X.blk s H scope (compEnvC scope cl C X.env) fp) vx tv)
    (hs : ∀ x, foldedSetIterable iter X.env x = pure x := by intro _; rfl) : PE X (.DictComp kx vx [⟨tg, iter, ifs, 0⟩] scope pos) (tDcT wi g tt tk tv (own.map (·.2))) := ⟨fun pins s σ H Q I h => by
  rw [arm_eval_DictComp]
  refine dcT_core hc hN hu I hi ok hg ht hk hv hs h fun D C s' m H' I' q ns fpo => ⟨m, ns, fun h'' same => ?_⟩
  obtain ⟨a0, a1, _, a3, a4, a5⟩ := fpo
  exact ⟨.ref D, H', I'.turned (t' := s'.toks) (fun b o hb => ((same.2 b hb).trans ·)) a0 a1 a3 a4 a5, rfl, q⟩⟩
theorem sw_trueD {gs : List Comprehension} {py : Pos} {y : Str} {n : Nat} {env : Env} (hk : env.scope.kind = .function) (hy : env.scope.names.lookup y = some .local) (hl : (py.line == pos.line) = true)
    (free : (scope.names.any fun (m, k) => m == y && (k == .local || k == .cell)) = false) : swapsWith (.DictComp kx vx gs scope pos) (some (.Name y py)) n env = pure true := by
  have k1 : env.blockKind = .function := by rw [Env.blockKind, hk]; rfl
  have k2 : env.kindOf y = some .local := hy
  unfold swapsWith
  simp only [k1, k2, free, Expr.pos, hl]; rfl
/-- name = {..} on one line -/
theorem ps_setDcT {i : Nat} {y : Str} {py spos : Pos} (hc : X.calm = true) (hN : X.N.Nodup) (hu : X.A.units < cLine) (hy : X.N[i]? = some y) (hyl : X.env.scope.names.lookup y = some .local)
    (hsw : swapsWith (.DictComp kx vx [⟨tg, iter, ifs, 0⟩] scope pos) (some (.Name y py)) spos.line X.env = pure true) (hi : PI X tg iter wi) (ok : BlkOk X.N X.env.scope scope own)
    (hg : ∀ s H C cl fp, PG (X.blk s H scope (compEnvC scope cl C X.env) fp) tg g) (ht : ∀ s H C cl fp, PTs (X.blk s H scope (compEnvC scope cl C X.env) fp) ifs tt)
    (hk : ∀ s H C cl fp, PE (X.blk s H scope (compEnvC scope cl C X.env) fp) kx tk) (hv : ∀ s H C cl fp, PE (X.blk s H scope (compEnvC scope cl C X.env) fp) vx tv)
    (hs : ∀ x, foldedSetIterable iter X.env x = pure x := by intro _; rfl) : PS X (.Assign [.Name y py] (.DictComp kx vx [⟨tg, iter, ifs, 0⟩] scope pos) spos) (tAsg (tDcT wi g tt tk tv (own.map (·.2))) (gName i)) := ⟨fun pins s σ H D I h => by
  have h : tDcT wi g tt tk tv (own.map (·.2)) σ H (fun x H1 => gName i x σ H1 D.nx) := h
  rw [exec_Assign_Name_used _ _ _ _ hsw]
  refine wpAny_bind (wpAny_standAt (wpAny_bind (wpAny_bind (thn (dcT_core (use := some (assign (.Name y py) X.env)) (Qf := fun _ s' => SP X pins D .next s') hc hN hu I hi ok hg ht hk hv hs h fun L C s' m H' I' q ns fpo => ?_) fun _ s' hq => wpAny_pure (wpAny_pure hq)))))
  obtain ⟨a0, a1, _, a3, a4, a5⟩ := fpo
  show wpAny _ _ (assign (.Name y py) X.env (.ref L)) _ _ _
  refine wpAny_assign_Name (store_ok2 (v := V.ref L) I' hN hy (.inl hyl) rfl (fun s2 I2 ⟨a, sb, ha⟩ => ?_) (.inr hyl))
  have Ca : C ≠ a := by
    rcases ha with z | z
    · exact fun e => a1 (e.trans z)
    · exact fun e => a4 y a z e.symm
  exact ⟨m, ns.sameBut sb Ca, fun h3 sb3 => ⟨_, H', I2.turned (t' := s2.toks) (fun b o hb => ((sb3.2 b hb).trans ·)) a0 a1 a3 a4 a5, q⟩⟩⟩
end
end
end L2
namespace L2
open PySem PySem.Spec PyProof.Rows PySem.Calls
section
variable {X : Cx}
/-! whether a dict with tuple keys is empty -/
def truT : V → Hp → (Bool → Hp → Prop) → Prop := fun x H Q => ∃ p kvs, x = .ref p ∧ H p = some (.dT kvs) ∧ Q (!kvs.isEmpty) H
theorem tru_T : TruR X truT := fun pins s σ H x v Q I rx ⟨p, kvs, ex, hp, q⟩ => by
  subst ex
  obtain rfl : v = Value.ref p := rx
  have ⟨z0, z1, xs, rel, dd⟩ := dt_of I.hok hp
  have len_xs : kvs.length = xs.length := Paired.length rel
  have fit : (xs.length : Int) < 2 ^ 63 := by have := line63; omega
  have same : ((xs.length : Int) != 0) = !kvs.isEmpty := by rw [← len_xs]; cases kvs <;> simp <;> omega
  have is_dict : s.TypeIs (.ref p) "dict" := let ⟨o, _, _, h1, h2, _⟩ := dd; ⟨o, h1, h2.1⟩
  have its_len : wpAny (model X.prog X.w) X.A (runValue (.builtin "len" ⟨[.ref p], []⟩)) (fun r s' => (∃ t, r = .int xs.length t) ∧ TP X pins σ Q (!kvs.isEmpty) s') X.xe s := by
    refine wpAny_runValue (codeAny_builtin entry_len ?_)
    rw [Around.under_plainId plain_len _]
    exact wpAny_mono (wpAny_len_body_dictH (Q := fun r s' => (∃ t, r = .int xs.length t) ∧ TP X pins σ Q (!kvs.isEmpty) s') z1 dd fit ⟨⟨_, rfl⟩, H, I.tok _, q⟩) (fun fin s' ⟨r, er, hq⟩ => er ▸ hq) fun _ _ e => e
  unfold truthy
  refine wpAny_bind (wpAny_callSpecial?_none (name := Str.ofString "__bool__") is_dict noBool_dict ?_)
  refine wpAny_bind (wpAny_specialOf (name := Str.ofString "__len__") is_dict F.slot_dict_len.lookup ?_)
  exact wpAny_bind (wpAny_mono its_len (fun r s' ⟨⟨t, er⟩, hq⟩ => by subst er; exact wpAny_pure (same ▸ hq)) fun _ _ e => e)
theorem pt_truT {a : Expr} {ta : TE} (ha : PE X a ta) (he : ∀ whole, isTrue a X.env whole = (do let v ← whole; standAt a.pos; holding [v] (truthy v)) := by intro _; rfl) : PT X a (fun σ H Q => ta σ H fun x H' => truT x H' Q) :=
  ⟨fun pins s σ H Q I h => isTrue_plain (thn (ha.run pins s σ H _ I h) fun v s1 ⟨x, H1, I1, r1, q1⟩ => tru_T pins s1 σ H1 x v Q I1 r1 q1) (he _)⟩
end
end L2
namespace Bp
open PySem PySem.Spec PyProof.Rows L2
open Evl (Ex)
/-! ## dicts whose keys are lists of whole numbers -/
def kI (q : List Int) : List L2.Key := q.map Sum.inl
theorem kI_inj {p q : List Int} (h : kI p = kI q) : p = q := by
  induction p generalizing q with
  | nil => cases q with
    | nil => rfl
    | cons b q => cases h
  | cons a p ih => cases q with
    | nil => cases h
    | cons b q =>
      unfold kI at h
      rw [List.map_cons, List.map_cons] at h
      injection h with h1 h2
      rw [Sum.inl.inj h1, ih h2]
theorem kI_V : ∀ q : List Int, (kI q).map kV = q.map V.int
  | [] => rfl
  | a :: q => congrArg (V.int a :: ·) (kI_V q)
abbrev ti (q : List Int) : D := .tup (q.map D.int)
def At (σ : L2.St) (H : Hp) (j : Nat) (q : List Int) : Prop := ∃ b, σ[j]? = some (some (.ref b)) ∧ H b = some (.tup (q.map V.int))
theorem At.of {σ : L2.St} {F H : Hp} {j : Nat} {q : List Int} {v : V} (e : Ex F H) (r : Rp F v (ti q)) (h : σ[j]? = some (some v)) : At σ H j q := by
  obtain ⟨a, us, rfl, ha, hr⟩ := r.tuple
  rw [Rps.eints hr] at ha
  exact ⟨a, h, e _ _ ha⟩
theorem At.up {σ : L2.St} {H H2 : Hp} {j : Nat} {q : List Int} (a : At σ H j q) (e : Ex H H2) : At σ H2 j q := let ⟨b, h1, h2⟩ := a; ⟨b, h1, e _ _ h2⟩
structure Tab (F : Hp) (kvs : List (List L2.Key × V)) (es : List (List Int × D)) : Prop where
  p : Paired (fun x e => x.1 = kI e.1 ∧ Rp F x.2 e.2) kvs es
  nd : (es.map Prod.fst).Nodup
theorem Tab.nil {F : Hp} : Tab F [] [] := ⟨.nil, List.nodup_nil⟩
theorem Tab.mono {F F' : Hp} {kvs : List (List L2.Key × V)} {es : List (List Int × D)} (t : Tab F kvs es) (e : Ex F F') : Tab F' kvs es := ⟨Paired.mapP t.p fun _ _ z => ⟨z.1, z.2.mono e⟩, t.nd⟩
theorem Tab.len {F : Hp} {kvs : List (List L2.Key × V)} {es : List (List Int × D)} (t : Tab F kvs es) : kvs.length = es.length := t.p.length
theorem pair_none {F : Hp} {kvs : List (List L2.Key × V)} {es : List (List Int × D)} {q : List Int} (t : Paired (fun x e => x.1 = kI e.1 ∧ Rp F x.2 e.2) kvs es) (h : q ∉ es.map Prod.fst) : valV kvs (kI q) = none := by
  unfold valV
  rw [Option.map_eq_none_iff, List.find?_eq_none]
  induction t with
  | nil => exact fun x hx => nomatch hx
  | @cons x e xs es hx _ ih =>
    rw [List.map_cons, List.mem_cons, not_or] at h
    intro y hy
    rcases List.mem_cons.mp hy with rfl | hy
    · rw [decide_eq_true_eq, hx.1]; exact fun z => h.1 (kI_inj z).symm
    · exact ih h.2 y hy
theorem pair_some {F : Hp} {kvs : List (List L2.Key × V)} {es : List (List Int × D)} {q : List Int} {d : D} (t : Paired (fun x e => x.1 = kI e.1 ∧ Rp F x.2 e.2) kvs es) (nd : (es.map Prod.fst).Nodup) (h : (q, d) ∈ es) : ∃ v, valV kvs (kI q) = some v ∧ Rp F v d := by
  unfold valV
  induction t with
  | nil => cases h
  | @cons x e xs es hx _ ih =>
    rw [List.map_cons, List.nodup_cons] at nd
    by_cases c : x.1 = kI q
    · have eq : e.1 = q := kI_inj (hx.1.symm.trans c)
      rcases List.mem_cons.mp h with h | h
      · refine ⟨x.2, by simp [c], ?_⟩
        rw [← h] at hx; exact hx.2
      · exact absurd (List.mem_map.mpr ⟨_, h, eq.symm⟩) nd.1
    · rcases List.mem_cons.mp h with h | h
      · rw [← h] at hx; exact absurd hx.1 c
      · obtain ⟨v, h1, h2⟩ := ih nd.2 h
        exact ⟨v, by simpa [c] using h1, h2⟩
theorem Tab.none {F : Hp} {kvs : List (List L2.Key × V)} {es : List (List Int × D)} {q : List Int} (t : Tab F kvs es) (h : q ∉ es.map Prod.fst) : valV kvs (kI q) = .none := pair_none t.p h
theorem Tab.some {F : Hp} {kvs : List (List L2.Key × V)} {es : List (List Int × D)} {q : List Int} {d : D} (t : Tab F kvs es) (h : (q, d) ∈ es) : ∃ v, valV kvs (kI q) = .some v ∧ Rp F v d := pair_some t.p t.nd h
theorem put_new {κ : Type} [DecidableEq κ] {kvs : List (κ × V)} {k : κ} {v : V} (h : valV kvs k = .none) : putK kvs k v = kvs ++ [(k, v)] := by
  unfold putK
  unfold valV at h
  rw [Option.map_eq_none_iff, List.find?_eq_none] at h
  rw [if_neg]
  rw [List.any_eq_true]
  exact fun ⟨x, hx, hk⟩ => h x hx hk
theorem Tab.snoc {F F' : Hp} {kvs : List (List L2.Key × V)} {es : List (List Int × D)} {q : List Int} {d : D} {v : V} (t : Tab F kvs es) (e : Ex F F') (h : q ∉ es.map Prod.fst) (r : Rp F' v d) : Tab F' (kvs ++ [(kI q, v)]) (es ++ [(q, d)]) :=
  ⟨Paired.snoc (t.mono e).p ⟨rfl, r⟩, by rw [List.map_append]; exact List.nodup_append.mpr ⟨t.nd, by simp, fun x hx y hy z => by rw [List.map_singleton, List.mem_singleton] at hy; rw [z, hy] at hx; exact h hx⟩⟩
theorem Tab.keys {F : Hp} {kvs : List (List L2.Key × V)} {es : List (List Int × D)} (t : Tab F kvs es) {n : Nat} {k : List L2.Key} {v : V} (h : kvs[n]? = Option.some (k, v)) : ∃ q d, es[n]? = Option.some (q, d) ∧ k = kI q ∧ Rp F v d := by
  obtain ⟨e, he, h1, h2⟩ := paired_get t.p h
  exact ⟨e.1, e.2, he, h1, h2⟩
section
variable {K : PySem.W.Frag} {σ : L2.St} {F H : Hp} {te tv ty : TE} {tt : TT} {D0 : Ends} {tz tu tw : TS} {d : D} {i j : Nat} {p : Addr} {q : List Int} {kvs : List (List L2.Key × V)} {es : List (List Int × D)}
theorem nin_at {Q : VK} (hj : At σ H j q) (hi : σ[i]? = some (some (.ref p))) (hp : Rd H p (.dT kvs)) (T : Tab F kvs es) (k : Q (.bl (!decide (q ∈ es.map Prod.fst))) H) : tDNotIn (tVar j) (tVar i) σ H Q := by
  obtain ⟨b, h1, h2⟩ := hj
  rw [← kI_V] at h2
  refine ⟨_, h1, _, hi, p, valV kvs (kI q), rfl, .inr ⟨kvs, _, b, hp, rfl, h2, rfl⟩, ?_⟩
  by_cases c : q ∈ es.map Prod.fst
  · obtain ⟨e, he, rfl⟩ := List.mem_map.mp c
    obtain ⟨v, hv, _⟩ := T.some he
    rw [hv]; rw [decide_eq_true c] at k; exact k
  · rw [T.none c]; rw [decide_eq_false c] at k; exact k
theorem s_ifNin (hj : At σ H j q) (hi : σ[i]? = some (some (.ref p))) (hp : Rd H p (.dT kvs)) (T : Tab F kvs es) (h1 : q ∉ es.map Prod.fst → tu D0 σ H) (h2 : q ∈ es.map Prod.fst → tw D0 σ H) : tIfS (tB (tDNotIn (tVar j) (tVar i))) tu tw D0 σ H := by
  unfold tIfS tB
  refine nin_at hj hi hp T ⟨_, rfl, ?_⟩
  by_cases c : q ∈ es.map Prod.fst
  · rw [decide_eq_true c]; exact h2 c
  · rw [decide_eq_false c]; exact h1 c
theorem get_at {Q : VK} (hj : At σ H j q) (hi : σ[i]? = some (some (.ref p))) (hp : Rd H p (.dT kvs)) (T : Tab F kvs es) (he : (q, d) ∈ es) (k : ∀ v, Rp F v d → Q v H) : tDGet (tVar i) (tVar j) σ H Q := by
  obtain ⟨b, h1, h2⟩ := hj
  rw [← kI_V] at h2
  obtain ⟨v, hv, r⟩ := T.some he
  exact ⟨_, hi, _, h1, p, v, rfl, .inr ⟨kvs, _, b, hp, rfl, h2, hv.symm⟩, k v r⟩
theorem s_putAt (e : Ex F H) (fp : F p = none) (hi : σ[i]? = some (some (.ref p))) (hp : H p = some (.dT kvs)) (T : Tab F kvs es) (hz : kvs.length < 100000) (hj : At σ H j q) (hq : q ∉ es.map Prod.fst) (hv : ED tv σ F d)
    (k : ∀ v F1 H1, Nx F H F1 H1 → F1 p = none → Tab F1 (kvs ++ [(kI q, v)]) (es ++ [(q, d)]) → D0.nx σ (upd H1 p (.dT (kvs ++ [(kI q, v)])))) : sDPut (tVar i) (tVar j) tv D0 σ H :=
  hv F H (Ex.refl F) e _ fun v F1 H1 n1 r1 => by
    obtain ⟨b, h1, h2⟩ := hj.up n1.h
    rw [← kI_V] at h2
    refine ⟨_, hi, _, h1, p, _, rfl, DPut.t (n1.h _ _ hp) h2 (Evl.sz_lt hz), ?_⟩
    rw [put_new (T.none hq)]
    exact k v F1 H1 n1 (n1.n p (by rw [hp]; exact fun z => nomatch z) fp) (T.snoc n1.f hq r1)
/-! a dict that is walked stands locked -/
abbrev frzd (od : Obj) (kvs : List (List L2.Key × V)) : HO := .frz od (.dT kvs)
theorem nx_unl {F2 H2 : Hp} {od : Obj} (n : Nx F H F2 H2) (fp : F p = none) (hp : H p = some (frzd od kvs)) : F2 p = none ∧ Nx F (upd H p (.dT kvs)) F2 (upd H2 p (.dT kvs)) := by
  have f2 : F2 p = none := n.n p (by rw [hp]; exact fun z => nomatch z) fp
  refine ⟨f2, n.f, fun b o hb => ?_, fun b o hb => ?_, fun b hb q => n.n b (fun z => hb ?_) q⟩
  · by_cases c : b = p
    · subst c; rw [upd_same] at hb ⊢; exact hb
    · rw [upd_ne c] at hb ⊢; exact n.h b o hb
  · by_cases c : b = p
    · subst c; rw [f2] at hb; cases hb
    · rw [upd_ne c]; exact n.fh b o hb
  · have c : b ≠ p := fun c => by rw [c, hp] at z; cases z
    rw [upd_ne c]; exact z
theorem ex_unl {H' : Hp} {od : Obj} (e : Ex F (upd H' p (.dT kvs))) (fp : F p = none) : Ex F H' := fun b o hb => by
  by_cases c : b = p
  · subst c; rw [fp] at hb; cases hb
  · have := e b o hb; rw [upd_ne c] at this; exact this
theorem s_walkK (hi : σ[i]? = some (some (.ref p))) (hp : H p = some (.dT kvs)) (T : Tab F kvs es)
    (k : ∀ od, ∃ P : Nat → L2.St → Hp → Prop, P 0 σ (upd H p (frzd od kvs)) ∧ (∀ n σ' H', P n σ' H' → H' p = some (frzd od kvs)) ∧
      (∀ n b e σ' H', es[n]? = some e → H' b = some (.tup (e.1.map V.int)) → P n σ' H' →
        tu ⟨P (n + 1), fun v H' => H' p = some (frzd od kvs) ∧ D0.rt v (upd H' p (.dT kvs)), fun σ' H' => H' p = some (frzd od kvs) ∧ D0.nx σ' (upd H' p (.dT kvs)), P (n + 1)⟩ (σ'.set j (some (.ref b))) H') ∧
      (∀ σ' H', P es.length σ' H' → D0.nx σ' (upd H' p (.dT kvs)))) : tLock (tFor (iKeys (tVar i)) (gName j) tu) D0 σ H :=
  ⟨p, .dT kvs, hp, trivial, fun od => by
    obtain ⟨P, p0, pg, ps, pd⟩ := k od
    refine ⟨.ref p, hi, p, od, rfl, .inr ⟨kvs, upd_same, ?_⟩⟩
    refine for_it walk_keysT P p0 (fun n σ' H' _ h => pg n σ' H' h) (fun n x σ' H' H'' hn h y => ?_) (fun σ' H' h => ?_)
    · obtain ⟨rfl, k, v, b, hk, rfl, hb⟩ := y
      obtain ⟨q, d, he, rfl, _⟩ := T.keys hk
      rw [kI_V] at hb
      exact ps n b (q, d) σ' _ he hb h
    · rw [T.len] at h
      exact ⟨pg _ _ _ h, pd σ' H' h⟩⟩
end
end Bp
namespace Bp
open PySem PySem.Spec PyProof.Rows L2
open Evl (Ex)
theorem bt_range : bootBuiltins "range" = some (.type "range") := boot_range
theorem hu0_of {n : Nat} (h : n + 64 < cLine) : n < cLine := by omega
/-! ## a new list that may be changed -/
def EL (te : TE) (σ : L2.St) (F : Hp) (es : List D) : Prop := ∀ F1 H1, Ex F F1 → Ex F1 H1 → ∀ Q : VK, (∀ a us F2 H2, Nx F1 H1 F2 H2 → F2 a = none → H1 a = none → H2 a = some (.lst us) → Rps F2 us es → Q (.ref a) H2) → te σ H1 Q
def spL (R : List D → List D → Prop) : Sp := fun vs H Q _ => ∃ F ds es, Ex F H ∧ Rps F vs ds ∧ R ds es ∧ ∀ a us F2 H2, Nx F H F2 H2 → F2 a = none → H a = none → H2 a = some (.lst us) → Rps F2 us es → Q (.ref a) H2
theorem len_L {R : List D → List D → Prop} {n : Nat} (h : ∀ ds es, R ds es → ds.length = n) : ∀ vs H Q E, spL R vs H Q E → vs.length = n := fun vs H Q E ⟨F, ds, es, _, r, hR, _⟩ => r.n.trans (h ds es hR)
section
variable {K : PySem.W.Frag} {σ : L2.St} {F H : Hp} {te tv ty : TE} {tl : TA} {tt : TT} {D0 : Ends} {tz tu tw : TS} {d : D} {ds es : List D} {i j : Nat} {R : List D → List D → Prop} {E : XK}
theorem EL.ed (h : EL te σ F es) : ED te σ F (.lst es) := fun F1 H1 e1 e2 Q q => h F1 H1 e1 e2 Q fun a us F2 H2 n f0 h0 ha r => q _ _ _ (n.freeze h0 f0 ha) (Rp.mkL upd_same (r.mono (Ex.new f0)))
theorem el_call {ta : TA} (h : EA ta σ F ds) (hR : R ds es) : EL (tCall (spL R) [] E ta) σ F es := fun F1 H1 e1 e2 Q q =>
  h F1 H1 e1 e2 _ fun vs F2 H2 n2 r2 => ⟨F2, ds, es, n2.fh, by rw [List.append_nil]; exact r2, hR, fun a us F3 H3 n3 f0 h0 ha r => q a us F3 H3 (n2.trans n3) f0 (Evl.fresh_back n2.h h0) ha r⟩
theorem ed_callL {ta : TA} (h : EA ta σ F ds) (hR : R ds es) : ED (tCall (spL R) [] E ta) σ F (.lst es) := (el_call h hR).ed
theorem q_asgL (e : Ex F H) (h : EL te σ F es) (k : ∀ a us F1 H1, Nx F H F1 H1 → F1 a = none → H a = none → H1 a = some (.lst us) → Rps F1 us es → tz D0 (σ.set i (some (.ref a))) H1) : tSeq (tAsg te (gName i)) tz D0 σ H := h F H (Ex.refl F) e _ k
theorem s_retL (e : Ex F H) (h : EL te σ F es) (k : ∀ a us F1 H1, Nx F H F1 H1 → F1 a = none → H a = none → H1 a = some (.lst us) → Rps F1 us es → D0.rt (.ref a) H1) : tRet te D0 σ H := h F H (Ex.refl F) e _ k
/-- a comprehension over pairs, as a new list -/
theorem el_lcP {α : Type} {emb e1 e2 : α → D} {xs : List α} {ti0 : TE} {ws : List Nat} (he12 : ∀ x, emb x = .tup [e1 x, e2 x]) (g : α → D) (h : ED ti0 σ F (.lst (xs.map emb))) (hz : xs.length < 50000) (hw : ∀ x y, wipe (((wipe σ ws).set i (some x)).set j (some y)) ws = wipe σ ws)
    (he : ∀ x v u F1, x ∈ xs → Ex F F1 → Rp F1 v (e1 x) → Rp F1 u (e2 x) → ED te (((wipe σ ws).set i (some v)).set j (some u)) F1 (g x)) :
    EL (tLc (iList K ti0) (gTup K 2 (gCons (gName i) (gCons (gName j) gNil))) tYes te ws) σ F (xs.map g) := fun F0 H0 ea eb Q q => h F0 H0 ea eb _ fun v F1 H1 n1 r1 => by
  obtain ⟨a, vs, rfl, ha, hr⟩ := r1.list
  refine ⟨a, rfl, ⟨vs, Evl.sq_of (n1.fh _ _ ha)⟩, fun Dl hD => ?_⟩
  have len : vs.length = xs.length := hr.n.trans (List.length_map ..)
  refine lc_list (xs := vs) (fun n H' => Cw F1 H1 Dl ((xs.take n).map g) H') (Cw.start n1.fh hD) (fun n H' _ p => ?_) (fun n x H' hi p => ?_) (fun H' p => ?_)
  · obtain ⟨Fi, us, nn, _⟩ := p.ex
    exact Evl.sq_of (nn.fh _ _ (nn.f _ _ ha))
  · obtain ⟨d, hd, rd⟩ := hr.getv hi
    rw [List.getElem?_map, Option.map_eq_some_iff] at hd
    obtain ⟨y, hy, rfl⟩ := hd
    rw [he12] at rd
    obtain ⟨b, us, rfl, hb, hu⟩ := rd.tuple
    obtain ⟨v0, _, rfl, h0, hu⟩ := hu.uncons
    obtain ⟨v1, _, rfl, h1, hu⟩ := hu.uncons
    obtain rfl := hu.unnil
    obtain ⟨Fi, us', nn, _⟩ := id p.ex
    refine ⟨b, _, rfl, Evl.st_of (nn.fh _ _ (nn.f _ _ hb)), rfl, v0, _, rfl, v1, _, rfl, rfl, hw v0 v1, ?_⟩
    refine Cw.turn (b := true) p ?_ et_yes (fun _ => he y v0 v1 F1 (List.mem_of_getElem? hy) (ea.trans n1.f) h0 h1) (fun H'' p' => ?_)
    · rw [List.length_map, List.length_take]; omega
    · rw [List.take_add_one, hy, List.map_append]; exact p'
  · rw [len, List.take_length] at p
    obtain ⟨F2, us, n2, f, h2, r2⟩ := p.ex
    exact q Dl us F2 H' (n1.trans n2) f (Evl.fresh_back n1.h hD) h2 r2
/-- a comprehension over a range in a slot -/
theorem ed_lcRv {n : Int} {p : Addr} {ws : List Nat} (g : Nat → D) (hi : σ[i]? = some (some (.ref p))) (hp : F p = some (.rng 0 n)) (hn : 0 ≤ n ∧ n < 50000) (hw : ∀ x, wipe ((wipe σ ws).set j (some x)) ws = wipe σ ws)
    (he : ∀ (x : Nat) F1, (x : Int) < n → Ex F F1 → ED te ((wipe σ ws).set j (some (.int (x : Int)))) F1 (g x)) :
    ED (tLc (iRgV (tVar i)) (gName j) tYes te ws) σ F (.lst ((List.range n.toNat).map g)) := fun F1 H1 e1 e2 Q q => by
  refine ⟨.ref p, hi, p, n, rfl, e2 _ _ (e1 _ _ hp), hn.1, by omega, fun Dl hD => ?_⟩
  refine lc_range (lo := 0) (n := n.toNat) (fun k H' => Cw F1 H1 Dl (((List.range n.toNat).take k).map g) H') (Cw.start e2 hD) (fun k H' hk c => ⟨hw _, ?_⟩) (fun H' c => ?_)
  · rw [Int.zero_add]
    refine Cw.turn (b := true) c ?_ et_yes (fun _ => he k F1 (by omega) e1) (fun H'' c' => ?_)
    · rw [List.length_map, List.length_take]; omega
    · rw [List.take_add_one, List.getElem?_range hk, List.map_append]; exact c'
  · rw [List.take_of_length_le (by simp)] at c
    obtain ⟨F2, n2, r2⟩ := c.done
    exact q _ F2 H' n2 r2
theorem q_rng {n : Int} (e : Ex F H) (h : EA tl σ F [.int n]) (k : ∀ p F1 H1, Nx F H F1 H1 → F1 p = some (.rng 0 n) → tz D0 (σ.set i (some (.ref p))) H1) : tSeq (tAsg (tCB rRgV tl) (gName i)) tz D0 σ H := h F H (Ex.refl F) e _ fun vs F1 H1 n1 r1 => by
  obtain ⟨v, us, rfl, h1, h2⟩ := r1.uncons
  rw [h2.unnil, h1.eint]
  exact ⟨n, rfl, fun p hp => k p _ _ (n1.trans (Nx.new n1.fh hp)) upd_same⟩
end
/-! ## what the defs of the search tell -/
def seesOf (l g : List Int) : List (List Int) := (partsOf l g).map Prod.snd
def onOf (l : List Int) (dd : List (List (List Int))) (q : List Int) : List (List (List Int)) := (List.range dd.length).map fun (k : Nat) => seesOf l (behindOf (deedOf dd (k : Int)) q)
abbrev lti (fs : List (List Int)) : D := .lst (fs.map ti)
def llti (os : List (List (List Int))) : D := .lst (os.map lti)
def R_seen (A : Ad) (ds es : List D) : Prop := ∃ l dd w g, ds = [hsD A.hs (li l) dd w, li g] ∧ isGuess (li g) l.length = true ∧ l.length ≤ 8 ∧ es = (seesOf l g).map ti
def R_sb (A : Ad) (ds : List D) (d : D) : Prop := ∃ l dd w q, ds = [hsD A.hs (li l) (llli dd) (li w), ti q] ∧ Hs l dd w ∧ isGuess (li q) l.length = true ∧ d = llti (onOf l dd q)
/-- whether all parts of a list stand in a table -/
def spAre : Sp := fun vs H Q _ => ∃ F f kf es fs v1, vs = [.ref f, v1] ∧ Ex F H ∧ Rd H f (.dT kf) ∧ Tab F kf es ∧ Rp F v1 (lti fs) ∧ ∀ H2, Ex H H2 → Q (.bl (fs.all fun q => decide (q ∈ es.map Prod.fst))) H2
/-- what is found: the part, its least steps, its deed, the parts behind -/
abbrev En := List Int × Int × Option Int × List (List Int)
def ent (x : En) : List Int × D := (x.1, .tup [.int x.2.1, dpD x.2.2.1, lti x.2.2.2])
def stepsOf (xs : List En) (q : List Int) : Int := ((xs.find? fun x => decide (x.1 = q)).map fun x => x.2.1).getD 0
def allIn (xs : List En) (fs : List (List Int)) : Bool := fs.all fun q => decide (q ∈ xs.map Prod.fst)
def leastOf (xs : List En) (fs : List (List Int)) : Option Int := if allIn xs fs = true then some ((fs.map (stepsOf xs)).foldl max ((fs.map (stepsOf xs)).headD 0)) else none
def spLO : Sp := fun vs H Q _ => ∃ F f kf xs fs v1, vs = [.ref f, v1] ∧ Ex F H ∧ H f = some (.dT kf) ∧ Tab F kf (xs.map ent) ∧ Rp F v1 (lti fs) ∧ fs ≠ [] ∧ fs.length < 50000 ∧ ∀ H2, Ex H H2 → Q (oV (leastOf xs fs)) H2
/-- what is found next: the part, its deed, the parts behind -/
abbrev Fr0 := List Int × Option Int × List (List Int)
def entF (x : Fr0) : List Int × D := (x.1, .tup [dpD x.2.1, lti x.2.2])
structure NextOk (ps : List (List Int)) (on : List Int → List (List (List Int))) (found : List Int → Bool) (xs : List Fr0) : Prop where
  a : ∀ x ∈ xs, x.1 ∈ ps ∧ found x.1 = false ∧ ∃ k : Nat, x.2.1 = some (k : Int) ∧ (on x.1)[k]? = some x.2.2 ∧ x.2.2.all found = true
  b : ∀ q ∈ ps, found q = false → (∃ fs ∈ on q, fs.all found = true) → q ∈ xs.map Prod.fst
def tabOf (ps : List (List Int)) (on : List Int → List (List (List Int))) : List (List Int × D) := ps.map fun q => (q, llti (on q))
def spFN : Sp := fun vs H Q _ => ∃ F t f kt kf ps on ef, vs = [.ref t, .ref f] ∧ Ex F H ∧ F t = none ∧ H t = some (.dT kt) ∧ Tab F kt (tabOf ps on) ∧ t ≠ f ∧ H f = some (.dT kf) ∧ F f = none ∧ Tab F kf ef ∧ ps.length < 50000 ∧
  ∀ p kvs xs F2 H2, Nx F H F2 H2 → F2 p = none → H p = none → H2 p = some (.dT kvs) → Tab F2 kvs (xs.map entF) → NextOk ps on (fun q => decide (q ∈ ef.map Prod.fst)) xs → Q (.ref p) H2
theorem parts_len (l g : List Int) : (partsOf l g).length ≤ g.length := by
  unfold partsOf
  rw [List.length_map]
  exact Nat.le_trans srt_len (by rw [List.length_map]; exact Nat.le_refl _)
theorem behind_guess {l : List Int} {dd : List (List (List Int))} {w q : List Int} {k : Int} (hs : Hs l dd w) (hq : isGuess (li q) l.length = true) (k0 : 0 ≤ k) (k1 : k < (dd.length : Int)) : isGuess (li (behindOf (deedOf dd k) q)) l.length = true := by
  have ⟨up, ne⟩ := (isGuess_li (Int.natCast_nonneg _)).mp hq
  have em := deedOf_mem k0 k1
  have el := hs.dn _ em
  have eu := hs.de _ em
  have inn : ∀ r ∈ q, entryOf (deedOf dd k) r ∈ deedOf dd k := fun r hr => entryOf_mem (up.2 r hr).1 (by have := (up.2 r hr).2; omega)
  refine (isGuess_li (Int.natCast_nonneg _)).mpr ⟨⟨srt_up _, fun x hx => ?_⟩, fun z => ?_⟩
  · obtain ⟨r, hr, hx⟩ := List.mem_flatMap.mp (mem_srt.mp hx)
    exact (eu _ (inn r hr)).1.2 x hx
  · obtain ⟨r, hr⟩ := List.exists_mem_of_ne_nil q ne
    obtain ⟨x, hx⟩ := List.exists_mem_of_ne_nil _ (eu _ (inn r hr)).2
    have : x ∈ behindOf (deedOf dd k) q := mem_srt.mpr (List.mem_flatMap.mpr ⟨r, hr, hx⟩)
    rw [z] at this; cases this
theorem sees_mem {l g q : List Int} : q ∈ seesOf l g ↔ ∃ r ∈ g, q = seen l g (lookOf l r) := by
  unfold seesOf partsOf
  rw [List.map_map, List.mem_map]
  constructor
  · rintro ⟨k, hk, rfl⟩
    obtain ⟨r, hr, rfl⟩ := List.mem_map.mp (mem_srt.mp hk)
    exact ⟨r, hr, rfl⟩
  · rintro ⟨r, hr, rfl⟩
    exact ⟨lookOf l r, mem_srt.mpr (List.mem_map.mpr ⟨r, hr, rfl⟩), rfl⟩
theorem sees_guess {l g q : List Int} {n : Int} (hn : 0 ≤ n) (hg : isGuess (li g) n = true) (hq : q ∈ seesOf l g) : isGuess (li q) n = true := by
  have ⟨up, ne⟩ := (isGuess_li hn).mp hg
  obtain ⟨r, hr, rfl⟩ := sees_mem.mp hq
  refine (isGuess_li hn).mpr ⟨⟨up.1.filter _, fun x hx => up.2 x (List.mem_filter.mp hx).1⟩, fun z => ?_⟩
  have : r ∈ seen l g (lookOf l r) := List.mem_filter.mpr ⟨hr, by simp⟩
  rw [z] at this; cases this
theorem sees_ne {l g : List Int} (ne : g ≠ []) : seesOf l g ≠ [] := fun z => by
  obtain ⟨r, hr⟩ := List.exists_mem_of_ne_nil g ne
  have : seen l g (lookOf l r) ∈ seesOf l g := sees_mem.mpr ⟨r, hr, rfl⟩
  rw [z] at this; cases this
theorem steps_some {xs : List En} {x : En} (nd : (xs.map Prod.fst).Nodup) (h : x ∈ xs) : stepsOf xs x.1 = x.2.1 := by
  unfold stepsOf
  have : xs.find? (fun y => decide (y.1 = x.1)) = some x := by
    induction xs with
    | nil => cases h
    | cons y ys ih =>
      rw [List.map_cons, List.nodup_cons] at nd
      by_cases c : y.1 = x.1
      · rw [List.find?_cons_of_pos (by simpa using c)]
        rcases List.mem_cons.mp h with rfl | h
        · rfl
        · exact absurd (List.mem_map.mpr ⟨x, h, c.symm⟩) nd.1
      · rw [List.find?_cons_of_neg (by simpa using c)]
        rcases List.mem_cons.mp h with rfl | h
        · exact absurd rfl c
        · exact ih nd.2 h
  rw [this]; rfl
theorem keys_ent (xs : List En) : (xs.map ent).map Prod.fst = xs.map Prod.fst := by rw [List.map_map]; rfl
theorem keys_entF (xs : List Fr0) : (xs.map entF).map Prod.fst = xs.map Prod.fst := by rw [List.map_map]; rfl
theorem keys_tab (ps : List (List Int)) (on : List Int → List (List (List Int))) : (tabOf ps on).map Prod.fst = ps := by
  unfold tabOf; rw [List.map_map]; exact List.map_id ps
section
variable {K : PySem.W.Frag} {σ : L2.St} {F H : Hp} {te tv ty : TE} {tl : TA} {d : D} {i j : Nat}
/-- tables that stand in a part of the heap, read -/
theorem ed_getT {p : Addr} {kvs : List (List L2.Key × V)} {es : List (List Int × D)} {q : List Int} (hi : σ[i]? = some (some (.ref p))) (hp : F p = some (.dT kvs)) (T : Tab F kvs es) (h : ED ty σ F (ti q)) (he : (q, d) ∈ es) : ED (tDGet (tVar i) ty) σ F d := fun F1 H1 e1 e2 Q k =>
  ⟨.ref p, hi, h F1 H1 e1 e2 _ fun u F2 H2 n2 r2 => by
    obtain ⟨c, us, rfl, hc, hr⟩ := r2.tuple
    rw [Rps.eints hr, ← kI_V] at hc
    obtain ⟨v, hv, r⟩ := T.some he
    exact ⟨p, v, rfl, .inr ⟨kvs, _, c, .inl (n2.fh _ _ (n2.f _ _ (e1 _ _ hp))), rfl, n2.fh _ _ hc, hv.symm⟩, k v F2 H2 n2 (r.mono (e1.trans n2.f))⟩⟩
theorem ex_upF {p : Addr} {o : HO} (e : Ex F H) (hp : H p = some o) : Ex F (upd F p o) := fun b u hb => by
  by_cases c : b = p
  · subst c; rw [upd_same, ← e _ _ hb, hp]
  · rw [upd_ne c]; exact hb
theorem ed_are {E : XK} {f : Addr} {kf : List (List L2.Key × V)} {es : List (List Int × D)} {fs : List (List Int)} (hi : σ[i]? = some (some (.ref f))) (hf : F f = some (.dT kf)) (T : Tab F kf es) {v : V} (hj : σ[j]? = some (some v)) (r : Rp F v (lti fs)) :
    ED (tCall spAre [] E (tCons (tVar i) (tCons (tVar j) tNil))) σ F (.bl (fs.all fun q => decide (q ∈ es.map Prod.fst))) := fun F1 H1 e1 e2 Q k =>
  ⟨_, hi, _, hj, F1, f, kf, es, fs, v, rfl, e2, .inl (e2 _ _ (e1 _ _ hf)), T.mono e1, r.mono e1, fun H2 x2 => k _ F1 H2 ⟨Ex.refl _, x2, e2.trans x2, fun _ _ h => h⟩ (.bl _)⟩
theorem foldl_max {ns : List Int} {m : Int} : (ns.foldl max m = m ∨ ns.foldl max m ∈ ns) ∧ m ≤ ns.foldl max m ∧ ∀ y ∈ ns, y ≤ ns.foldl max m := by
  induction ns generalizing m with
  | nil => exact ⟨.inl rfl, Int.le_refl _, fun y hy => nomatch hy⟩
  | cons a ns ih =>
    obtain ⟨h1, h2, h3⟩ := @ih (max m a)
    rw [List.foldl_cons]
    refine ⟨?_, by omega, fun y hy => ?_⟩
    · rcases h1 with h1 | h1
      · rw [h1]
        by_cases c : m ≤ a
        · exact .inr (by rw [Int.max_eq_right c]; exact List.mem_cons_self)
        · exact .inl (Int.max_eq_left (by omega))
      · exact .inr (List.mem_cons_of_mem _ h1)
    · rcases List.mem_cons.mp hy with rfl | hy
      · omega
      · exact h3 y hy
theorem max_of {ns : List Int} (ne : ns ≠ []) : ns.foldl max (ns.headD 0) ∈ ns ∧ ∀ y ∈ ns, y ≤ ns.foldl max (ns.headD 0) := by
  obtain ⟨h1, _, h3⟩ := @foldl_max ns (ns.headD 0)
  refine ⟨?_, h3⟩
  rcases h1 with h1 | h1
  · rw [h1]; cases ns with
    | nil => exact absurd rfl ne
    | cons a ns => exact List.mem_cons_self
  · exact h1
theorem nx_low {F' F2 H2 : Hp} (e : Ex F H) (n : Nx F' H F2 H2) : Nx F H F H2 := ⟨Ex.refl F, n.h, e.trans n.h, fun _ _ h => h⟩
end
end Bp
namespace Bp
open PySem PySem.Spec PyProof.Rows L2
open Evl (Ex)
section
variable {K : PySem.W.Frag} {σ : L2.St} {F H : Hp} {te tv ty : TE} {tt : TT} {D0 : Ends} {tz tu tw : TS} {d : D} {i j : Nat} {p : Addr} {q : List Int} {kvs : List (List L2.Key × V)} {es : List (List Int × D)}
theorem q_walkK (hi : σ[i]? = some (some (.ref p))) (hp : H p = some (.dT kvs)) (T : Tab F kvs es)
    (k : ∀ od, ∃ P : Nat → L2.St → Hp → Prop, P 0 σ (upd H p (frzd od kvs)) ∧ (∀ n σ' H', P n σ' H' → H' p = some (frzd od kvs)) ∧
      (∀ n b e σ' H', es[n]? = some e → H' b = some (.tup (e.1.map V.int)) → P n σ' H' →
        tu ⟨P (n + 1), fun v H' => H' p = some (frzd od kvs) ∧ D0.rt v (upd H' p (.dT kvs)), fun σ' H' => H' p = some (frzd od kvs) ∧ tz D0 σ' (upd H' p (.dT kvs)), P (n + 1)⟩ (σ'.set j (some (.ref b))) H') ∧
      (∀ σ' H', P es.length σ' H' → tz D0 σ' (upd H' p (.dT kvs)))) : tSeq (tLock (tFor (iKeys (tVar i)) (gName j) tu)) tz D0 σ H := s_walkK (D0 := { D0 with nx := tz D0 }) hi hp T k
theorem q_putAt (e : Ex F H) (fp : F p = none) (hi : σ[i]? = some (some (.ref p))) (hp : H p = some (.dT kvs)) (T : Tab F kvs es) (hz : kvs.length < 100000) (hj : At σ H j q) (hq : q ∉ es.map Prod.fst) (hv : ED tv σ F d)
    (k : ∀ v F1 H1, Nx F H F1 H1 → F1 p = none → Tab F1 (kvs ++ [(kI q, v)]) (es ++ [(q, d)]) → tz D0 σ (upd H1 p (.dT (kvs ++ [(kI q, v)])))) : tSeq (sDPut (tVar i) (tVar j) tv) tz D0 σ H := s_putAt (D0 := { D0 with nx := tz D0 }) e fp hi hp T hz hj hq hv k
end
theorem upd_comm {H : Hp} {a b : Addr} {o u : HO} (h : a ≠ b) : upd (upd H a o) b u = upd (upd H b u) a o := by
  funext x
  unfold upd
  by_cases c : x = a
  · subst c; rw [if_neg h, if_pos rfl, if_pos rfl]
  · rw [if_neg c]
    by_cases c2 : x = b
    · simp [c2, Ne.symm h]
    · simp [c2, c]
theorem upd_id {H : Hp} {a : Addr} {o : HO} (h : H a = some o) : upd H a o = H := by
  funext x
  unfold upd
  by_cases c : x = a
  · rw [if_pos c, c, h]
  · rw [if_neg c]
section
variable {ps : List (List Int)} {on : List Int → List (List (List Int))} {found : List Int → Bool} {xs : List Fr0} {q : List Int} {n : Nat}
theorem NextOk.nil : NextOk [] on found [] := ⟨fun x hx => (nomatch hx), fun q hq => (nomatch hq)⟩
theorem take_mem {α : Type} {ps : List α} {n : Nat} {q x : α} (hq : ps[n]? = some q) : x ∈ ps.take (n + 1) ↔ x ∈ ps.take n ∨ x = q := by
  rw [List.take_add_one, hq]; simp
theorem NextOk.skip (h : NextOk (ps.take n) on found xs) (hq : ps[n]? = some q) (c : found q = true ∨ ∀ fs ∈ on q, fs.all found = false) : NextOk (ps.take (n + 1)) on found xs := by
  refine ⟨fun x hx => ?_, fun r hr f he => ?_⟩
  · obtain ⟨h1, h2⟩ := h.a x hx
    exact ⟨(take_mem hq).mpr (.inl h1), h2⟩
  · rcases (take_mem hq).mp hr with hr | rfl
    · exact h.b r hr f he
    · rcases c with c | c
      · rw [f] at c; cases c
      · obtain ⟨fs, h1, h2⟩ := he
        rw [c fs h1] at h2; cases h2
theorem NextOk.add (h : NextOk (ps.take n) on found xs) (hq : ps[n]? = some q) (f : found q = false) {k : Nat} {fs : List (List Int)} (hk : (on q)[k]? = some fs) (all : fs.all found = true) : NextOk (ps.take (n + 1)) on found (xs ++ [(q, some (k : Int), fs)]) := by
  refine ⟨fun x hx => ?_, fun r hr f he => ?_⟩
  · rcases List.mem_append.mp hx with hx | hx
    · obtain ⟨h1, h2⟩ := h.a x hx
      exact ⟨(take_mem hq).mpr (.inl h1), h2⟩
    · obtain rfl := List.mem_singleton.mp hx
      exact ⟨(take_mem hq).mpr (.inr rfl), f, k, rfl, hk, all⟩
  · rw [List.map_append, List.mem_append]
    rcases (take_mem hq).mp hr with hr | rfl
    · exact .inl (h.b r hr f he)
    · exact .inr (List.mem_singleton.mpr rfl)
theorem NextOk.new (h : NextOk (ps.take n) on found xs) (nd : ps.Nodup) (hq : ps[n]? = some q) : q ∉ xs.map Prod.fst := fun z => by
  obtain ⟨x, hx, rfl⟩ := List.mem_map.mp z
  have := (h.a x hx).1
  obtain ⟨hn, e⟩ := List.getElem?_eq_some_iff.mp hq
  obtain ⟨m, hm, e2⟩ := List.getElem_of_mem this
  rw [List.getElem_take] at e2
  rw [List.length_take] at hm
  have hm2 : m < ps.length := by omega
  exact (List.pairwise_iff_getElem.mp nd) m n hm2 hn (by omega) (e2.trans e.symm)
end
end Bp
namespace Bp
open PySem PySem.Spec PyProof.Rows L2
open Evl (Ex)
/-! ## how many parts there are -/
def allSub : Nat → List (List Int)
  | 0 => [[]]
  | n + 1 => allSub n ++ (allSub n).map (· ++ [(n : Int)])
theorem allSub_len : ∀ n, (allSub n).length = 2 ^ n
  | 0 => rfl
  | n + 1 => by unfold allSub; rw [List.length_append, List.length_map, allSub_len n, Nat.pow_succ]; omega
theorem allSub_mem : ∀ (n : Nat) {xs : List Int}, Up n xs → xs ∈ allSub n
  | 0, xs, h => by
    cases xs with
    | nil => exact List.mem_singleton.mpr rfl
    | cons x xs => have := h.2 x List.mem_cons_self; omega
  | n + 1, xs, h => by
    unfold allSub
    rw [List.mem_append]
    by_cases c : (n : Int) ∈ xs
    · refine .inr (List.mem_map.mpr ⟨xs.dropLast, allSub_mem n ⟨h.1.sublist (List.dropLast_sublist xs), fun x hx => ?_⟩, ?_⟩)
      all_goals
        have ne : xs ≠ [] := fun z => by rw [z] at c; cases c
        have dl := List.dropLast_concat_getLast ne
        have lastn : xs.getLast ne = (n : Int) := by
          rw [← dl, List.mem_append] at c
          rcases c with c | c
          · have pw := h.1
            rw [← dl, List.pairwise_append] at pw
            have := pw.2.2 _ c _ (List.mem_singleton.mpr rfl)
            have := h.2 _ (List.getLast_mem ne)
            omega
          · exact (List.mem_singleton.mp c).symm
      · have pw := h.1
        rw [← dl, List.pairwise_append] at pw
        have := pw.2.2 _ hx _ (List.mem_singleton.mpr rfl)
        have := h.2 x (List.dropLast_sublist xs |>.subset hx)
        omega
      · rw [← lastn]; exact dl
    · refine .inl (allSub_mem n ⟨h.1, fun x hx => ?_⟩)
      have := h.2 x hx
      have : x ≠ (n : Int) := fun z => c (z ▸ hx)
      omega
theorem sub_lenA {α : Type} [DecidableEq α] : ∀ {ys zs : List α}, ys.Nodup → (∀ y ∈ ys, y ∈ zs) → ys.length ≤ zs.length
  | [], _, _, _ => Nat.zero_le _
  | y :: ys, zs, hn, h => by
    have hn' := List.nodup_cons.mp hn
    have hy := h y List.mem_cons_self
    have := sub_lenA (zs := zs.erase y) hn'.2 fun x hx => (List.mem_erase_of_ne (fun z => hn'.1 (by rw [← z]; exact hx))).mpr (h x (List.mem_cons_of_mem _ hx))
    rw [List.length_erase_of_mem hy] at this
    have : 0 < zs.length := List.length_pos_of_mem hy
    rw [List.length_cons]; omega
def PartOf (l q : List Int) : Prop := ∃ g, isGuess (li g) l.length = true ∧ q ∈ seesOf l g
theorem PartOf.guess {l q : List Int} (h : PartOf l q) : isGuess (li q) l.length = true := let ⟨_, h1, h2⟩ := h; sees_guess (Int.natCast_nonneg _) h1 h2
theorem parts_few {l : List Int} (h8 : l.length ≤ 8) {ps : List (List Int)} (nd : ps.Nodup) (h : ∀ q ∈ ps, PartOf l q) : ps.length ≤ 256 := by
  have h1 : ps.length ≤ (allSub l.length).length := sub_lenA nd fun q hq => allSub_mem _ ((isGuess_li (Int.natCast_nonneg _)).mp (h q hq).guess).1
  rw [allSub_len] at h1
  exact Nat.le_trans h1 (Nat.pow_le_pow_right (by decide) h8)
structure Closed (l : List Int) (dd : List (List (List Int))) (g : List Int) (ps : List (List Int)) : Prop where
  p : ∀ q ∈ ps, PartOf l q
  s : ∀ q ∈ seesOf l g, q ∈ ps
  c : ∀ q ∈ ps, ∀ fs ∈ onOf l dd q, ∀ r ∈ fs, r ∈ ps
  n : ps.length ≤ 256
def spReached (A : Ad) : Sp := fun vs H Q _ => ∃ F l dd w g v0 v1, vs = [v0, v1] ∧ Ex F H ∧ Rp F v0 (hsD A.hs (li l) (llli dd) (li w)) ∧ Rp F v1 (li g) ∧ Hs l dd w ∧ isGuess (li g) l.length = true ∧
  ∀ p kvs ps F2 H2, Nx F H F2 H2 → F2 p = none → H p = none → H2 p = some (.dT kvs) → Tab F2 kvs (tabOf ps (onOf l dd)) → Closed l dd g ps → Q (.ref p) H2
theorem on_len {l : List Int} {dd : List (List (List Int))} {w q : List Int} (hs : Hs l dd w) (hq : isGuess (li q) l.length = true) : (onOf l dd q).flatten.length ≤ 40 := by
  have d5 := hs.d5
  have n8 := hs.n8
  have each : ∀ fs ∈ onOf l dd q, fs.length ≤ 8 := fun fs hfs => by
    obtain ⟨k, hk, rfl⟩ := List.mem_map.mp hfs
    have hk := List.mem_range.mp hk
    have := behind_guess hs hq (Int.natCast_nonneg k) (by omega)
    have := up_len (Int.natCast_nonneg _) ((isGuess_li (Int.natCast_nonneg _)).mp this).1
    have := parts_len l (behindOf (deedOf dd (k : Int)) q)
    unfold seesOf
    rw [List.length_map]
    omega
  have : ∀ os : List (List (List Int)), (∀ fs ∈ os, fs.length ≤ 8) → os.flatten.length ≤ 8 * os.length := fun os h => by
    induction os with
    | nil => exact Nat.le_refl _
    | cons o os ih =>
      have h1 := h o List.mem_cons_self
      have h2 := ih fun fs hfs => h fs (List.mem_cons_of_mem _ hfs)
      rw [List.flatten_cons, List.length_append, List.length_cons]; omega
  have := this _ each
  have : (onOf l dd q).length = dd.length := by unfold onOf; rw [List.length_map, List.length_range]
  omega
theorem on_part {l : List Int} {dd : List (List (List Int))} {w q r : List Int} {os : List (List Int)} (hs : Hs l dd w) (hq : isGuess (li q) l.length = true) (h : os ∈ onOf l dd q) (hr : r ∈ os) : PartOf l r := by
  obtain ⟨k, hk, rfl⟩ := List.mem_map.mp h
  exact ⟨_, behind_guess hs hq (Int.natCast_nonneg k) (by have := List.mem_range.mp hk; omega), hr⟩
section
variable {K : PySem.W.Frag} {σ : L2.St} {F H : Hp} {te tv ty : TE} {tt : TT} {D0 : Ends} {tz tu tw : TS} {d : D} {i j : Nat} {a : Addr} {us : List V}
theorem et_tru (hi : σ[i]? = some (some (.ref a))) (ha : F a = some (.lst us)) : ET (fun σ H Q => tVar i σ H fun x H' => ∃ k, TruV K x H' k ∧ Q k H') σ F (!us.isEmpty) := fun F1 H1 e1 e2 Q q =>
  ⟨_, hi, _, Or.inl ⟨us, Evl.sq_of (e2 _ _ (e1 _ _ ha)), rfl⟩, q F1 H1 (Nx.refl e2)⟩
/-- x = xs.pop() -/
theorem q_pop {y : V} (hi : σ[i]? = some (some (.ref a))) (ha : H a = some (.lst (us ++ [y]))) (k : tz D0 (σ.set j (some y)) (upd H a (.lst us))) : tSeq (tAsg (tBM0 K "list" rPop (tVar i)) (gName j)) tz D0 σ H :=
  ⟨_, hi, Or.inl ⟨rfl, _, Evl.sq_of ha⟩, a, us ++ [y], y, rfl, rfl, ha, by rw [List.length_append]; simp, by rw [List.dropLast_concat]; exact k⟩
/-- xs.extend(ys) -/
theorem s_ext {b : Addr} {vs : List V} (hi : σ[i]? = some (some (.ref a))) (ha : H a = some (.lst us)) (hj : σ[j]? = some (some (.ref b))) (hb : H b = some (.lst vs)) (hz : us.length + vs.length ≤ 100000) (k : D0.nx σ (upd H a (.lst (us ++ vs)))) :
    tDrop (tBM K "list" rExtend (tVar i) (tCons (tVar j) tNil)) D0 σ H :=
  ⟨_, hi, Or.inl ⟨rfl, _, Evl.sq_of ha⟩, _, hj, a, b, us, vs, rfl, rfl, ha, hb, Evl.sz_of hz, k⟩
end
end Bp
namespace Bp
open PySem PySem.Spec PyProof.Rows L2
open Evl (Ex)
/-! ## from which parts one is led, and in how many steps -/
def leadIn (l : List Int) (dd : List (List (List Int))) (w : List Int) : Nat → List Int → Bool
  | 0, q => q.all fun r => decide (r ∈ w)
  | n + 1, q => leadIn l dd w n q || (onOf l dd q).any fun fs => fs.all (leadIn l dd w n)
def before (l : List Int) (dd : List (List (List Int))) (w : List Int) : Nat → List Int → Bool
  | 0, _ => false
  | n + 1, q => leadIn l dd w n q
structure EnOk (l : List Int) (dd : List (List (List Int))) (w : List Int) (q : List Int) (m : Nat) (ko : Option Int) (fs : List (List Int)) : Prop where
  y : leadIn l dd w m q = true
  n : before l dd w m q = false
  d : (m = 0 ∧ ko = none ∧ fs = []) ∨ ∃ (m' k : Nat), m = m' + 1 ∧ ko = some (k : Int) ∧ (onOf l dd q)[k]? = some fs ∧ fs.all (leadIn l dd w m') = true
structure Rnd (l : List Int) (dd : List (List (List Int))) (w : List Int) (ps : List (List Int)) (s : Nat) (xs : List En) (ys : List Fr0) : Prop where
  k : ∀ q, q ∈ xs.map Prod.fst ↔ q ∈ ps ∧ before l dd w s q = true
  e : ∀ x ∈ xs, ∃ m : Nat, x.2.1 = (m : Int) ∧ EnOk l dd w x.1 m x.2.2.1 x.2.2.2
  f : ∀ q, q ∈ ys.map Prod.fst ↔ q ∈ ps ∧ before l dd w s q = false ∧ leadIn l dd w s q = true
  g : ∀ y ∈ ys, EnOk l dd w y.1 s y.2.1 y.2.2
structure FoundAll (l : List Int) (dd : List (List (List Int))) (w : List Int) (ps : List (List Int)) (xs : List En) : Prop where
  k : ∀ q, q ∈ xs.map Prod.fst ↔ q ∈ ps ∧ ∃ n, leadIn l dd w n q = true
  e : ∀ x ∈ xs, ∃ m : Nat, x.2.1 = (m : Int) ∧ EnOk l dd w x.1 m x.2.2.1 x.2.2.2
section
variable {l : List Int} {dd : List (List (List Int))} {w g : List Int} {ps : List (List Int)} {s : Nat} {xs : List En} {ys : List Fr0} {q : List Int}
theorem lead_up {m n : Nat} (h : m ≤ n) (y : leadIn l dd w m q = true) : leadIn l dd w n q = true := by
  induction h with
  | refl => exact y
  | step _ ih => unfold leadIn; rw [ih]; rfl
theorem before_lead (h : before l dd w s q = true) : leadIn l dd w s q = true := by
  cases s with
  | zero => cases h
  | succ n => exact lead_up (Nat.le_succ n) h
theorem before_iff : before l dd w s q = true ↔ ∃ m < s, leadIn l dd w m q = true := by
  cases s with
  | zero => exact ⟨fun h => (nomatch h), fun ⟨m, h, _⟩ => absurd h (Nat.not_lt_zero m)⟩
  | succ n => exact ⟨fun h => ⟨n, Nat.lt_succ_self n, h⟩, fun ⟨m, h, y⟩ => lead_up (Nat.le_of_lt_succ h) y⟩
theorem Rnd.start (there : ∀ q, q ∈ ys.map Prod.fst ↔ q ∈ ps ∧ leadIn l dd w 0 q = true) (e : ∀ y ∈ ys, y.2.1 = none ∧ y.2.2 = []) : Rnd l dd w ps 0 [] ys :=
  ⟨fun q => ⟨fun h => (nomatch h), fun h => (nomatch h.2)⟩, fun x hx => (nomatch hx), fun q => by rw [there]; exact ⟨fun h => ⟨h.1, rfl, h.2⟩, fun h => ⟨h.1, h.2.2⟩⟩,
    fun y hy => ⟨((there y.1).mp (List.mem_map.mpr ⟨y, hy, rfl⟩)).2, rfl, .inl ⟨rfl, (e y hy).1, (e y hy).2⟩⟩⟩
def addR (s : Nat) (xs : List En) (ys : List Fr0) : List En := xs ++ ys.map fun y => (y.1, (s : Int), y.2.1, y.2.2)
theorem Rnd.all (r : Rnd l dd w ps s xs ys) : ∀ q, q ∈ (addR s xs ys).map Prod.fst ↔ q ∈ ps ∧ leadIn l dd w s q = true := fun q => by
  unfold addR
  rw [List.map_append, List.mem_append, List.map_map, show (Prod.fst ∘ fun y : Fr0 => ((y.1, (s : Int), y.2.1, y.2.2) : En)) = Prod.fst from rfl, r.k, r.f]
  constructor
  · rintro (⟨h1, h2⟩ | ⟨h1, _, h3⟩)
    · exact ⟨h1, before_lead h2⟩
    · exact ⟨h1, h3⟩
  · rintro ⟨h1, h2⟩
    cases c : before l dd w s q
    · exact .inr ⟨h1, rfl, h2⟩
    · exact .inl ⟨h1, rfl⟩
theorem Rnd.next (r : Rnd l dd w ps s xs ys) (c : Closed l dd g ps) {zs : List Fr0} (ok : NextOk ps (onOf l dd) (fun q => decide (q ∈ (addR s xs ys).map Prod.fst)) zs) : Rnd l dd w ps (s + 1) (addR s xs ys) zs := by
  have conv : ∀ q ∈ ps, ∀ fs ∈ onOf l dd q, (fs.all fun q => decide (q ∈ (addR s xs ys).map Prod.fst)) = fs.all (leadIn l dd w s) := fun q hq fs hfs => by
    have h1 : ∀ r ∈ fs, decide (r ∈ (addR s xs ys).map Prod.fst) = leadIn l dd w s r := fun x hx => by
      have hp := c.c q hq fs hfs x hx
      cases e : leadIn l dd w s x
      · exact decide_eq_false fun z => by have := ((r.all x).mp z).2; rw [e] at this; cases this
      · exact decide_eq_true ((r.all x).mpr ⟨hp, e⟩)
    rw [Bool.eq_iff_iff, List.all_eq_true, List.all_eq_true]
    exact ⟨fun h x hx => (h1 x hx) ▸ h x hx, fun h x hx => (h1 x hx).symm ▸ h x hx⟩
  have nf : ∀ q ∈ ps, decide (q ∈ (addR s xs ys).map Prod.fst) = leadIn l dd w s q := fun q hq => by
    cases e : leadIn l dd w s q
    · exact decide_eq_false fun z => by have := ((r.all q).mp z).2; rw [e] at this; cases this
    · exact decide_eq_true ((r.all q).mpr ⟨hq, e⟩)
  refine ⟨fun q => r.all q, fun x hx => ?_, fun q => ⟨fun h => ?_, fun h => ?_⟩, fun z hz => ?_⟩
  · unfold addR at hx
    rcases List.mem_append.mp hx with hx | hx
    · exact r.e x hx
    · obtain ⟨y, hy, rfl⟩ := List.mem_map.mp hx
      exact ⟨s, rfl, r.g y hy⟩
  · obtain ⟨x, hx, rfl⟩ := List.mem_map.mp h
    obtain ⟨h1, h2, k, h3, h4, h5⟩ := ok.a x hx
    have h2 : leadIn l dd w s x.1 = false := (nf _ h1).symm.trans h2
    have hm := List.mem_of_getElem? h4
    rw [conv x.1 h1 _ hm] at h5
    exact ⟨h1, h2, by unfold leadIn; rw [Bool.or_eq_true]; exact .inr (List.any_eq_true.mpr ⟨_, hm, h5⟩)⟩
  · obtain ⟨h1, h2, h3⟩ := h
    have h2 : leadIn l dd w s q = false := h2
    unfold leadIn at h3
    rw [h2, Bool.false_or, List.any_eq_true] at h3
    obtain ⟨fs, hm, h5⟩ := h3
    refine ok.b q h1 ((nf q h1).trans h2) ⟨fs, hm, ?_⟩
    rw [conv q h1 fs hm]; exact h5
  · obtain ⟨h1, h2, k, h3, h4, h5⟩ := ok.a z hz
    have h2 : leadIn l dd w s z.1 = false := (nf _ h1).symm.trans h2
    have hm := List.mem_of_getElem? h4
    rw [conv z.1 h1 _ hm] at h5
    exact ⟨by unfold leadIn; rw [Bool.or_eq_true]; exact .inr (List.any_eq_true.mpr ⟨_, hm, h5⟩), h2, .inr ⟨s, k, rfl, h3, h4, h5⟩⟩
theorem Rnd.end (r : Rnd l dd w ps s xs []) (hs : Hs l dd w) (c : Closed l dd g ps) : FoundAll l dd w ps xs := by
  have stop : ∀ q ∈ ps, leadIn l dd w s q = true → before l dd w s q = true := fun q hq h => by
    cases e : before l dd w s q
    · exact absurd ((r.f q).mpr ⟨hq, e, h⟩) (fun z => nomatch z)
    · rfl
  have all : ∀ m, ∀ q ∈ ps, leadIn l dd w m q = true → before l dd w s q = true := fun m => by
    induction m with
    | zero => exact fun q hq h => stop q hq (lead_up (Nat.zero_le s) h)
    | succ m ih =>
      intro q hq h
      unfold leadIn at h
      rw [Bool.or_eq_true] at h
      rcases h with h | h
      · exact ih q hq h
      · obtain ⟨fs, hm, h5⟩ := List.any_eq_true.mp h
        have h6 : ∀ x ∈ fs, before l dd w s x = true := fun x hx => ih x (c.c q hq fs hm x hx) (List.all_eq_true.mp h5 x hx)
        cases s with
        | zero =>
          exfalso
          obtain ⟨k, hk, rfl⟩ := List.mem_map.mp hm
          have gk := behind_guess hs (c.p q hq).guess (Int.natCast_nonneg k) (by have := List.mem_range.mp hk; omega)
          obtain ⟨x, hx⟩ := List.exists_mem_of_ne_nil _ (sees_ne (l := l) ((isGuess_li (Int.natCast_nonneg _)).mp gk).2)
          exact nomatch h6 x hx
        | succ n =>
          refine stop q hq ?_
          unfold leadIn
          rw [Bool.or_eq_true]
          exact .inr (List.any_eq_true.mpr ⟨fs, hm, List.all_eq_true.mpr h6⟩)
  refine ⟨fun q => ?_, r.e⟩
  rw [r.k]
  exact ⟨fun ⟨h1, h2⟩ => ⟨h1, s, before_lead h2⟩, fun ⟨h1, n, h2⟩ => ⟨h1, all n q h1 h2⟩⟩
end
def spFF (A : Ad) : Sp := fun vs H Q _ => ∃ F t kt l dd w g ps v0, vs = [v0, .ref t] ∧ Ex F H ∧ Rp F v0 (hsD A.hs (li l) (llli dd) (li w)) ∧ Hs l dd w ∧ F t = none ∧ H t = some (.dT kt) ∧ Tab F kt (tabOf ps (onOf l dd)) ∧ Closed l dd g ps ∧
  ∀ p kvs xs F2 H2, Nx F H F2 H2 → F2 p = none → H p = none → H2 p = some (.dT kvs) → Tab F2 kvs (xs.map ent) → FoundAll l dd w ps xs → Q (.ref p) H2
/-! ## a dict comprehension by an invariant; a dict's pairs walked -/
section
variable {J : It} {n : Nat} {G : Hp → Prop} {Y : Nat → Hp → V → Hp → Prop}
theorem dcT_it (w : Walk J n G Y) {g : TG} {tt : TT} {tk tv : TE} {vs : List Nat} {σ : L2.St} {H1 : Hp} {D : Addr} {Qd : Hp → Prop} (Pv : Nat → Hp → Prop) (h0 : Pv 0 (upd H1 D (.dT []))) (hG : ∀ i H, i ≤ n → Pv i H → G H)
    (hs : ∀ i x H H', i < n → Pv i H → Y i H x H' → g x (wipe σ vs) H' fun σ2 H2 => wipe σ2 vs = wipe σ vs ∧ tt σ2 H2 fun b H3 =>
      if b = true then tk σ2 H3 fun y H4 => tv σ2 H4 fun z H5 => ∃ H6, DPut H5 D y z H6 ∧ Pv (i + 1) H6 else Pv (i + 1) H3) (hd : ∀ H, Pv n H → Qd H) :
    ∃ W : Nat → Nat → Hp → Prop, (∃ m, W 0 m (upd H1 D (.dT []))) ∧ ∀ i m H, W i m H →
      (J.stop i H ∧ Qd H) ∨ (J.go i H ∧ ∃ Nx : Hp → Prop, (∀ H', Nx H' → ∃ m', m' < m ∧ W (i + 1) m' H') ∧ ∀ x H', J.yld i H x H' → g x (wipe σ vs) H' fun σ2 H2 => wipe σ2 vs = wipe σ vs ∧ tt σ2 H2 fun b H3 =>
        if b = true then tk σ2 H3 fun y H4 => tv σ2 H4 fun z H5 => ∃ H6, DPut H5 D y z H6 ∧ Nx H6 else Nx H3) :=
  ⟨fun i m H => m + i = n ∧ Pv i H, ⟨n, rfl, h0⟩, fun i m H ⟨hm, p⟩ => by
    by_cases lt : i < n
    · exact .inr ⟨w.goes i H lt (hG i H (by omega) p), Pv (i + 1), fun H' p' => ⟨m - 1, by omega, by omega, p'⟩, fun x H' y => hs i x H H' lt p (w.yields i H x H' lt (hG i H (by omega) p) y)⟩
    · obtain rfl : i = n := by omega
      exact .inl ⟨w.stops H (hG i H (Nat.le_refl _) p), hd H p⟩⟩
theorem walk_itT {d : Addr} {o : Obj} {kvs : List (List L2.Key × V)} : Walk (ItT d o kvs) kvs.length (fun H => H d = some (.frz o (.dT kvs)))
    (fun i H x H' => ∃ (T q : Addr) (k : List L2.Key) (v : V), kvs[i]? = some (k, v) ∧ x = .ref T ∧ H T = none ∧ H q = some (.tup (k.map kV)) ∧ H' = upd H T (.tup [.ref q, v])) :=
  ⟨fun _ _ hi q => ⟨q, hi⟩, fun _ q => ⟨q, Nat.le_refl _⟩, fun _ _ _ _ _ _ y => y⟩
end
section
variable {K : PySem.W.Frag} {σ : L2.St} {F H : Hp} {te tv ty : TE} {tt : TT} {D0 : Ends} {tz tu tw : TS} {d : D} {i j j1 j2 : Nat} {p : Addr} {kvs : List (List L2.Key × V)}
theorem q_walkI {xs : List Fr0} (hi : σ[i]? = some (some (.ref p))) (hp : H p = some (.dT kvs)) (T : Tab F kvs (xs.map entF))
    (k : ∀ od, ∃ P : Nat → L2.St → Hp → Prop, P 0 σ (upd H p (frzd od kvs)) ∧ (∀ n σ' H', P n σ' H' → H' p = some (frzd od kvs) ∧ Ex F H') ∧
      (∀ n b x v1 v2 σ' H' H'', xs[n]? = some x → P n σ' H' → Ex H' H'' → H'' b = some (.tup (x.1.map V.int)) → Rp F v1 (dpD x.2.1) → Rp F v2 (lti x.2.2) →
        tu ⟨P (n + 1), fun v H' => H' p = some (frzd od kvs) ∧ D0.rt v (upd H' p (.dT kvs)), fun σ' H' => H' p = some (frzd od kvs) ∧ tz D0 σ' (upd H' p (.dT kvs)), P (n + 1)⟩ (((σ'.set j (some (.ref b))).set j1 (some v1)).set j2 (some v2)) H'') ∧
      (∀ σ' H', P xs.length σ' H' → tz D0 σ' (upd H' p (.dT kvs)))) :
    tSeq (tLock (tFor (iItT (tVar i)) (gTup K 2 (gCons (gName j) (gCons (gTup K 2 (gCons (gName j1) (gCons (gName j2) gNil))) gNil))) tu)) tz D0 σ H :=
  ⟨p, .dT kvs, hp, trivial, fun od => by
    obtain ⟨P, p0, pg, ps, pd⟩ := k od
    refine ⟨.ref p, hi, p, od, kvs, rfl, upd_same, ?_⟩
    refine for_it walk_itT P p0 (fun n σ' H' _ h => (pg n σ' H' h).1) (fun n x σ' H' H'' hn h y => ?_) (fun σ' H' h => ?_)
    · obtain ⟨T0, b, kk, v, hk, rfl, hT, hb, rfl⟩ := y
      obtain ⟨q, d, he, rfl, rv⟩ := T.keys hk
      rw [List.getElem?_map, Option.map_eq_some_iff] at he
      obtain ⟨x, hx, e⟩ := he
      have e1 : x.1 = q := congrArg Prod.fst e
      have e2 : (entF x).2 = d := congrArg Prod.snd e
      subst e1; subst e2
      obtain ⟨c, us, rfl, hc, hr⟩ := rv.tuple
      obtain ⟨v1, _, rfl, h1, hr⟩ := hr.uncons
      obtain ⟨v2, _, rfl, h2, hr⟩ := hr.uncons
      obtain rfl := hr.unnil
      have up : Ex H' (upd H' T0 (.tup [.ref b, .ref c])) := Ex.new hT
      rw [kI_V] at hb
      exact ⟨T0, _, rfl, Evl.st_of upd_same, rfl, .ref b, _, rfl, .ref c, _, rfl, ⟨c, _, rfl, Evl.st_of (up _ _ ((pg n σ' H' h).2 _ _ hc)), rfl, v1, _, rfl, v2, _, rfl, rfl, rfl, ps n b x v1 v2 σ' H' _ hx h up (up _ _ hb) h1 h2⟩⟩
    · rw [T.len, List.length_map] at h
      exact ⟨(pg _ _ _ h).1, pd σ' H' h⟩⟩
theorem et_truT (hi : σ[i]? = some (some (.ref p))) (hp : F p = some (.dT kvs)) : ET (fun σ H Q => tVar i σ H fun x H' => truT x H' Q) σ F (!kvs.isEmpty) := fun F1 H1 e1 e2 Q q =>
  ⟨_, hi, p, kvs, rfl, e2 _ _ (e1 _ _ hp), q F1 H1 (Nx.refl e2)⟩
theorem q_dcK {ps : List (List Int)} {on : List Int → List (List (List Int))} {f : List Int → Bool} {m : Nat} {ws : List Nat} (e : Ex F H) (hi : σ[i]? = some (some (.ref p))) (fp : F p = none) (hp : H p = some (.dT kvs)) (T : Tab F kvs (tabOf ps on)) (hz : ps.length < 50000)
    (hj : ∀ x, ((wipe σ ws).set j (some x))[j]? = some (some x)) (hw : ∀ x, wipe ((wipe σ ws).set j (some x)) ws = wipe σ ws)
    (ht : ∀ q b H', q ∈ ps → Ex F H' → H' b = some (.tup (q.map V.int)) → ∀ Q : Bool → Hp → Prop, (∀ H2, Ex H' H2 → Q (f q) H2) → tt ((wipe σ ws).set j (some (.ref b))) H' Q)
    (k : ∀ Dn kx F2 H2, Nx F H F2 H2 → F2 Dn = none → H Dn = none → H2 Dn = some (.dT kx) → Tab F2 kx (((ps.filter f).map fun q => ((q, none, []) : Fr0)).map entF) → tz D0 (σ.set m (some (.ref Dn))) H2) :
    tSeq (tLock (tAsg (tDcT (iKeys (tVar i)) (gName j) tt (tVar j) (tTup (tCons (tC .non) (tCons (tLst tNil) tNil))) ws) (gName m))) tz D0 σ H :=
  ⟨p, .dT kvs, hp, trivial, fun od => ⟨.ref p, hi, p, od, rfl, .inr ⟨kvs, upd_same, fun Dn hD => by
    have Dp : Dn ≠ p := fun z => by rw [z, upd_same] at hD; cases hD
    have hD0 : H Dn = none := by rwa [upd_ne Dp] at hD
    have nd : ps.Nodup := by have := T.nd; rwa [keys_tab] at this
    have tl : kvs.length = ps.length := by rw [T.len]; unfold tabOf; rw [List.length_map]
    refine dcT_it walk_keysT (fun n H' => H' p = some (frzd od kvs) ∧ ∃ Fi kx, Nx F H Fi (upd H' p (.dT kvs)) ∧ Fi Dn = none ∧ H' Dn = some (.dT kx) ∧ Tab Fi kx ((((ps.take n).filter f).map fun q => ((q, none, []) : Fr0)).map entF)) ?_ (fun n H' _ h => h.1) (fun n x H' H'' hn h y => ?_) (fun H' h => ?_)
    · refine ⟨by rw [upd_ne (Ne.symm Dp)]; exact upd_same, F, [], ?_, Evl.fresh_back e hD0, upd_same, Tab.nil⟩
      rw [upd_comm Dp, upd_upd, upd_id hp]
      exact (Nx.refl e).mut hD0 (Evl.fresh_back e hD0)
    · obtain ⟨rfl, kk, v, b, hk, rfl, hb⟩ := y
      obtain ⟨lk, Fi, kx, nx, fiD, hxD, tx⟩ := h
      obtain ⟨q, d, he, rfl, _⟩ := T.keys hk
      unfold tabOf at he
      rw [List.getElem?_map, Option.map_eq_some_iff] at he
      obtain ⟨r, hr, er⟩ := he
      obtain rfl : r = q := congrArg Prod.fst er
      have fip : Fi p = none := nx.n p (by rw [hp]; exact fun z => nomatch z) fp
      have eFi : Ex Fi H'' := ex_unl (od := od) nx.fh fip
      rw [kI_V] at hb
      refine ⟨hw _, ht r b H'' (List.mem_of_getElem? hr) (nx.f.trans eFi) hb _ fun H2 x2 => ?_⟩
      have take1 : (ps.take (n + 1)).filter f = (ps.take n).filter f ++ if f r = true then [r] else [] := by
        rw [List.take_add_one, hr, List.filter_append]
        exact congrArg _ (by show List.filter f [r] = _; cases c : f r <;> simp [List.filter, c])
      cases c : f r with
      | false =>
        rw [c] at take1
        have ⟨fi2, nu⟩ := nx_unl (F2 := Fi) (H2 := H2) ⟨Ex.refl _, x2, eFi.trans x2, fun _ _ h => h⟩ fip lk
        refine ⟨x2 _ _ lk, Fi, kx, nx.trans nu, fiD, x2 _ _ hxD, ?_⟩
        rw [take1]; simpa using tx
      | true =>
        rw [c] at take1
        refine ⟨.ref b, hj _, ?_⟩
        refine ed_tup (σ := (wipe σ ws).set j (some (.ref b))) (ds := [.non, .lst []]) (ea_cons ed_non (ea_cons (ed_lst ea_nil (Nat.zero_le _)) ea_nil)) (by show 2 ≤ 100000; decide) Fi H2 (Ex.refl _) (eFi.trans x2) _ fun v F3 H3 n3 r3 => ?_
        have n13 : Nx Fi H'' F3 H3 := ⟨n3.f, x2.trans n3.h, n3.fh, fun b hb q => n3.n b (Ex.ne x2 hb) q⟩
        have f3D : F3 Dn = none := n13.n Dn (by rw [hxD]; exact fun z => nomatch z) fiD
        have ⟨f3p, nu⟩ := nx_unl n13 fip lk
        have new : r ∉ ((((ps.take n).filter f).map fun q => ((q, none, []) : Fr0)).map entF).map Prod.fst := fun z => by
          rw [keys_entF, List.map_map] at z
          have z2 : r ∈ (ps.take n).filter f := by simpa using z
          have z3 := (List.mem_filter.mp z2).1
          obtain ⟨hn2, e2⟩ := List.getElem?_eq_some_iff.mp hr
          obtain ⟨m2, hm, e3⟩ := List.getElem_of_mem z3
          rw [List.getElem_take] at e3
          rw [List.length_take] at hm
          exact (List.pairwise_iff_getElem.mp nd) m2 n (by omega) hn2 (by omega) (e3.trans e2.symm)
        have lx : kx.length < 100000 := by
          rw [tx.len, List.length_map, List.length_map]
          have h1 := List.length_filter_le f (ps.take n)
          rw [List.length_take] at h1
          omega
        refine ⟨_, DPut.t (k := kI r) (n13.h _ _ hxD) (by rw [kI_V]; exact n13.h _ _ hb) (Evl.sz_lt lx), ?_⟩
        rw [put_new (tx.none new)]
        refine ⟨by rw [upd_ne (Ne.symm Dp)]; exact n13.h _ _ lk, F3, _, ?_, f3D, upd_same, ?_⟩
        · rw [upd_comm Dp]
          exact (nx.trans nu).mut hD0 f3D
        · rw [take1]
          simp only [if_true, List.map_append, List.map_singleton]
          exact tx.snoc n13.f new r3
    · obtain ⟨lk, Fi, kx, nx, fiD, hxD, tx⟩ := h
      rw [tl, List.take_length] at tx
      exact ⟨lk, k Dn kx Fi _ nx fiD hD0 (by rw [upd_ne Dp]; exact hxD) tx⟩⟩⟩⟩
end
end Bp
namespace Bp
open PySem PySem.Spec PyProof.Rows L2
open Evl (Ex)
/-! ## the least steps of a guess -/
def leadG (l : List Int) (dd : List (List (List Int))) (w : List Int) (n : Nat) (g : List Int) : Bool := (seesOf l g).all (leadIn l dd w n)
def LeastIs (l : List Int) (dd : List (List (List Int))) (w g : List Int) : Option Int → Prop
  | none => ∀ n, leadG l dd w n g = false
  | some v => ∃ m : Nat, v = (m : Int) ∧ leadG l dd w m g = true ∧ ∀ k < m, leadG l dd w k g = false
theorem least_is {l : List Int} {dd : List (List (List Int))} {w g : List Int} {ps : List (List Int)} {xs : List En} (cl : Closed l dd g ps) (fa : FoundAll l dd w ps xs) (nd : (xs.map Prod.fst).Nodup) (ne : g ≠ []) : LeastIs l dd w g (leastOf xs (seesOf l g)) := by
  have fne := sees_ne (l := l) ne
  unfold leastOf
  by_cases all : allIn xs (seesOf l g) = true
  · rw [if_pos all]
    have each : ∀ q ∈ seesOf l g, ∃ m : Nat, stepsOf xs q = (m : Int) ∧ leadIn l dd w m q = true ∧ before l dd w m q = false := fun q hq => by
      obtain ⟨x, hx, rfl⟩ := List.mem_map.mp (of_decide_eq_true (List.all_eq_true.mp all q hq))
      obtain ⟨m, h1, h2⟩ := fa.e x hx
      exact ⟨m, (steps_some nd hx).trans h1, h2.y, h2.n⟩
    have ⟨m1, m2⟩ := max_of (ns := (seesOf l g).map (stepsOf xs)) (by simpa using fne)
    generalize ((seesOf l g).map (stepsOf xs)).foldl max (((seesOf l g).map (stepsOf xs)).headD 0) = top at m1 m2
    obtain ⟨q0, h0, e0⟩ := List.mem_map.mp m1
    obtain ⟨m, a1, a2, a3⟩ := each q0 h0
    refine ⟨m, e0.symm.trans a1, List.all_eq_true.mpr fun q hq => ?_, fun k hk => ?_⟩
    · obtain ⟨n, b1, b2, _⟩ := each q hq
      have := m2 _ (List.mem_map.mpr ⟨q, hq, rfl⟩)
      exact lead_up (by omega) b2
    · rw [Bool.eq_false_iff]
      intro z
      have := before_iff.mpr ⟨k, hk, List.all_eq_true.mp z q0 h0⟩
      rw [a3] at this; cases this
  · rw [if_neg all]
    intro n
    rw [Bool.eq_false_iff]
    intro z
    refine all (List.all_eq_true.mpr fun q hq => decide_eq_true ((fa.k q).mpr ⟨cl.s q hq, n, List.all_eq_true.mp z q hq⟩))
def spLeast (A : Ad) : Sp := fun vs H Q _ => ∃ F l dd w g v0 v1, vs = [v0, v1] ∧ Ex F H ∧ Rp F v0 (hsD A.hs (li l) (llli dd) (li w)) ∧ Rp F v1 (li g) ∧ Hs l dd w ∧ isGuess (li g) l.length = true ∧
  ∀ o H2, LeastIs l dd w g o → Ex H H2 → Q (oV o) H2
structure NeverOk (l : List Int) (dd : List (List (List Int))) (w g : List Int) (ps zs : List (List Int)) : Prop where
  c : Closed l dd g ps
  nd : zs.Nodup
  m : ∀ q, q ∈ zs ↔ q ∈ ps ∧ ∀ n, leadIn l dd w n q = false
def spNever (A : Ad) : Sp := fun vs H Q _ => ∃ F l dd w g v0 v1, vs = [v0, v1] ∧ Ex F H ∧ Rp F v0 (hsD A.hs (li l) (llli dd) (li w)) ∧ Rp F v1 (li g) ∧ Hs l dd w ∧ isGuess (li g) l.length = true ∧
  ∀ o v F2 H2 d, LeastIs l dd w g o → Nx F H F2 H2 → Rp F2 v d → ((o ≠ none ∧ d = .non) ∨ (o = none ∧ ∃ ps zs, d = lli zs ∧ NeverOk l dd w g ps zs)) → Q v H2
section
variable {K : PySem.W.Frag} {σ : L2.St} {F H : Hp} {te tv ty : TE} {tt : TT} {D0 : Ends} {tz tu tw : TS} {d : D} {i j : Nat} {p f : Addr} {kvs kf : List (List L2.Key × V)}
/-- [list(x) for x in d if x not in e] -/
theorem el_lcW {es : List (List Int × D)} {ef : List (List Int × D)} {ws : List Nat} (e : Ex F H) (hi : σ[i]? = some (some (.ref p))) (fp : F p = none) (hp : H p = some (.dT kvs)) (T : Tab F kvs es) (hw : ∀ x, wipe ((wipe σ ws).set j (some x)) ws = wipe σ ws)
    (hj : ∀ x, ((wipe σ ws).set j (some x))[j]? = some (some x)) (hk : ∀ x, ((wipe σ ws).set j (some x))[m]? = some (some (.ref f))) (hf : H f = some (.dT kf)) (pf : p ≠ f) (Tf : Tab F kf ef) (hz : es.length < 50000)
    (Q : VK) (q : ∀ a us F2 H2, Nx F H F2 H2 → F2 a = none → H a = none → H2 a = some (.lst us) → Rps F2 us (((es.map Prod.fst).filter fun x => !decide (x ∈ ef.map Prod.fst)).map li) → Q (.ref a) H2) :
    tLockE (tLc (iKeys (tVar i)) (gName j) (tB (tDNotIn (tVar j) (tVar m))) (tCB (rListS' K) (tCons (tVar j) tNil)) ws) σ H Q :=
  ⟨p, .dT kvs, hp, trivial, fun od => ⟨.ref p, hi, p, od, rfl, .inr ⟨kvs, upd_same, fun Dn hD => by
    have Dp : Dn ≠ p := fun z => by rw [z, upd_same] at hD; cases hD
    have hD0 : H Dn = none := by rwa [upd_ne Dp] at hD
    refine lc_it walk_keysT (fun n H' => H' p = some (frzd od kvs) ∧ ∃ Fi us, Nx F H Fi (upd H' p (.dT kvs)) ∧ Fi Dn = none ∧ H' Dn = some (.lst us) ∧ Rps Fi us ((((es.map Prod.fst).take n).filter fun x => !decide (x ∈ ef.map Prod.fst)).map li)) ?_ (fun n H' _ h => h.1) (fun n x H' H'' hn h y => ?_) (fun H' h => ?_)
    · refine ⟨by rw [upd_ne (Ne.symm Dp)]; exact upd_same, F, [], ?_, Evl.fresh_back e hD0, upd_same, by simpa using Rps.nil⟩
      rw [upd_comm Dp, upd_upd, upd_id hp]
      exact (Nx.refl e).mut hD0 (Evl.fresh_back e hD0)
    · obtain ⟨rfl, kk, v, b, hk2, rfl, hb⟩ := y
      obtain ⟨lk, Fi, us, nx, fiD, hxD, rx⟩ := h
      obtain ⟨r, d, he, rfl, _⟩ := T.keys hk2
      have fip : Fi p = none := nx.n p (by rw [hp]; exact fun z => nomatch z) fp
      have eFi : Ex Fi H'' := ex_unl (od := od) nx.fh fip
      have hf2 : H'' f = some (.dT kf) := by have := nx.h _ _ hf; rwa [upd_ne (Ne.symm pf)] at this
      rw [kI_V] at hb
      have take1 : ((es.map Prod.fst).take (n + 1)).filter (fun x => !decide (x ∈ ef.map Prod.fst)) = ((es.map Prod.fst).take n).filter (fun x => !decide (x ∈ ef.map Prod.fst)) ++ if (!decide (r ∈ ef.map Prod.fst)) = true then [r] else [] := by
        rw [List.take_add_one, List.getElem?_map, he, List.filter_append]
        exact congrArg _ (by show List.filter _ [r] = _; cases c : decide (r ∈ ef.map Prod.fst) <;> simp [List.filter, c])
      refine ⟨hw _, ?_⟩
      unfold tB
      refine nin_at (j := j) (i := m) (q := r) ⟨b, hj _, hb⟩ (hk _) (.inl hf2) Tf ⟨_, rfl, ?_⟩
      cases c : decide (r ∈ ef.map Prod.fst) with
      | true =>
        rw [c] at take1
        refine ⟨lk, Fi, us, nx, fiD, hxD, ?_⟩
        rw [take1]; simpa using rx
      | false =>
        rw [c] at take1
        rw [Bool.not_false, if_pos rfl]
        refine ⟨.ref b, hj _, b, r.map V.int, rfl, Or.inr (Evl.st_of hb), fun a ha => ?_⟩
        have aD : a ≠ Dn := fun z => by rw [z, hxD] at ha; cases ha
        have n1 : Nx Fi H'' (upd Fi a (.lst (r.map V.int))) (upd H'' a (.lst (r.map V.int))) := Nx.new eFi ha
        have f3D : upd Fi a (.lst (r.map V.int)) Dn = none := by rw [upd_ne (Ne.symm aD)]; exact fiD
        have ⟨_, nu⟩ := nx_unl n1 fip lk
        refine ⟨us, n1.h _ _ hxD, Evl.sz_lt ?_, ?_, upd Fi a (.lst (r.map V.int)), us ++ [.ref a], ?_, f3D, upd_same, ?_⟩
        · have h1 := rx.n
          rw [List.length_map] at h1
          have h2 := List.length_filter_le (fun x => !decide (x ∈ ef.map Prod.fst)) ((es.map Prod.fst).take n)
          rw [List.length_take, List.length_map] at h2
          omega
        · rw [upd_ne (Ne.symm Dp)]; exact n1.h _ _ lk
        · rw [upd_comm Dp]
          exact (nx.trans nu).mut hD0 f3D
        · rw [take1, Bool.not_false, if_pos rfl, List.map_append]
          exact (rx.mono n1.f).snoc (Rp.mkL upd_same (Rps.ints r))
    · obtain ⟨lk, Fi, us, nx, fiD, hxD, rx⟩ := h
      rw [T.len, show es.length = (es.map Prod.fst).length from (List.length_map ..).symm, List.take_length] at rx
      exact ⟨lk, q Dn us Fi _ nx fiD hD0 (by rw [upd_ne Dp]; exact hxD) rx⟩⟩⟩⟩
end
end Bp
namespace Bp
open PySem PySem.Spec PyProof.Rows L2
open Evl (Ex)
/-! ## what makes a house easier -/
structure EasierH (l : List Int) (dd : List (List (List Int))) (w : List Int) (l' : List Int) (dd' : List (List (List Int))) (w' : List Int) : Prop where
  n : l'.length = l.length
  f : ∀ r s : Int, 0 ≤ r → r < l.length → 0 ≤ s → s < l.length → lookOf l' r = lookOf l' s → lookOf l r = lookOf l s
  w : ∀ r ∈ w, r ∈ w'
  k : dd.length ≤ dd'.length
  d : ∀ k : Nat, k < dd.length → deedOf dd' (k : Int) = deedOf dd (k : Int)
section
variable {l : List Int} {dd : List (List (List Int))} {w : List Int} {l' : List Int} {dd' : List (List (List Int))} {w' : List Int}
theorem EasierH.refl : EasierH l dd w l dd w := ⟨rfl, fun _ _ _ _ _ _ h => h, fun _ h => h, Nat.le_refl _, fun _ _ => rfl⟩
theorem ease_parts (e : EasierH l dd w l' dd' w') {P P' : List Int → Bool} (hP : ∀ q q' : List Int, Up l.length q → (∀ x ∈ q', x ∈ q) → P q = true → P' q' = true) {b b' : List Int} (ub : Up l.length b) (hb : ∀ x ∈ b', x ∈ b) (h : (seesOf l b).all P = true) : (seesOf l' b').all P' = true := by
  refine List.all_eq_true.mpr fun q' hq' => ?_
  obtain ⟨r, hr, rfl⟩ := sees_mem.mp hq'
  have rb := hb r hr
  refine hP (seen l b (lookOf l r)) _ ⟨ub.1.filter _, fun x hx => ub.2 x (List.mem_filter.mp hx).1⟩ (fun x hx => ?_) (List.all_eq_true.mp h _ (sees_mem.mpr ⟨r, rb, rfl⟩))
  obtain ⟨h1, h2⟩ := List.mem_filter.mp hx
  have xb := hb x h1
  exact List.mem_filter.mpr ⟨xb, decide_eq_true (e.f x r (ub.2 x xb).1 (ub.2 x xb).2 (ub.2 r rb).1 (ub.2 r rb).2 (of_decide_eq_true h2))⟩
theorem ease_lead (hs : Hs l dd w) (e : EasierH l dd w l' dd' w') : ∀ (n : Nat) (q q' : List Int), Up l.length q → (∀ x ∈ q', x ∈ q) → leadIn l dd w n q = true → leadIn l' dd' w' n q' = true
  | 0, q, q', _, hq, h => List.all_eq_true.mpr fun r hr => decide_eq_true (e.w r (of_decide_eq_true (List.all_eq_true.mp h r (hq r hr))))
  | n + 1, q, q', uq, hq, h => by
    unfold leadIn at h ⊢
    rw [Bool.or_eq_true] at h ⊢
    rcases h with h | h
    · exact .inl (ease_lead hs e n q q' uq hq h)
    · obtain ⟨fs, hfs, hall⟩ := List.any_eq_true.mp h
      obtain ⟨k, hk, rfl⟩ := List.mem_map.mp hfs
      have hk := List.mem_range.mp hk
      refine .inr (List.any_eq_true.mpr ⟨_, List.mem_map.mpr ⟨k, List.mem_range.mpr (Nat.lt_of_lt_of_le hk e.k), rfl⟩, ?_⟩)
      rw [e.d k hk]
      have em := deedOf_mem (e := dd) (r := (k : Int)) (by omega) (by omega)
      refine ease_parts e (ease_lead hs e n) ⟨srt_up _, fun x hx => ?_⟩ (fun x hx => ?_) hall
      · obtain ⟨r, hr, hx⟩ := List.mem_flatMap.mp (mem_srt.mp hx)
        exact (hs.de _ em _ (entryOf_mem (uq.2 r hr).1 (by have := hs.dn _ em; have := (uq.2 r hr).2; omega))).1.2 x hx
      · obtain ⟨r, hr, hx⟩ := List.mem_flatMap.mp (mem_srt.mp hx)
        exact mem_srt.mpr (List.mem_flatMap.mpr ⟨r, hq r hr, hx⟩)
theorem ease_leadG (hs : Hs l dd w) (e : EasierH l dd w l' dd' w') {g g' : List Int} (ug : Up l.length g) (hg : ∀ x ∈ g', x ∈ g) {n : Nat} (h : leadG l dd w n g = true) : leadG l' dd' w' n g' = true := ease_parts e (ease_lead hs e n) ug hg h
/-- the least steps do not grow -/
theorem ease_least (hs : Hs l dd w) (e : EasierH l dd w l' dd' w') {g g' : List Int} (ug : Up l.length g) (hg : ∀ x ∈ g', x ∈ g) {v : Int} {o : Option Int} (h : LeastIs l dd w g (some v)) (h' : LeastIs l' dd' w' g' o) : ∃ u, o = some u ∧ 0 ≤ u ∧ u ≤ v := by
  obtain ⟨m, rfl, hm, _⟩ := h
  have := ease_leadG hs e ug hg hm
  cases o with
  | none => rw [h' m] at this; cases this
  | some u =>
    obtain ⟨k, rfl, hk, hb⟩ := h'
    refine ⟨k, rfl, by omega, ?_⟩
    rcases Nat.lt_or_ge m k with c | c
    · rw [hb m c] at this; cases this
    · omega
end
theorem lookOf_get {l : List Int} {r : Int} (h0 : 0 ≤ r) (h1 : r < l.length) : l[r.toNat]? = some (lookOf l r) := by
  unfold lookOf
  rw [List.getD_eq_getElem?_getD, List.getElem?_eq_getElem (by omega)]; rfl
theorem lookOf_map {f : Int → Int} {m r : Int} (h0 : 0 ≤ r) (h1 : r < m) : lookOf ((rng m).map f) r = f r := by
  have e : (((rng m).map f).length : Int) = m := by rw [List.length_map]; exact rng_len (by omega)
  have := lookOf_get (l := (rng m).map f) (r := r) h0 (by omega)
  rw [List.getElem?_map, Option.map_eq_some_iff] at this
  obtain ⟨a, ha, hf⟩ := this
  rw [← hf]
  congr 1
  have e2 : (rng m)[r.toNat]? = some r := by rw [rng_get (by omega), Int.toNat_of_nonneg h0]
  rw [ha] at e2
  exact Option.some.inj e2
def EasedD (l : List Int) (dd : List (List (List Int))) (w g : List Int) (d : D) : Prop := ∃ l' dd' w' g', d = .tup [.tup [li l', llli dd', li w'], li g'] ∧ Hs l' dd' w' ∧ EasierH l dd w l' dd' w' ∧ (∀ x ∈ g', x ∈ g) ∧ Up l'.length g' ∧ g' ≠ []
def spEased : Sp := fun vs H Q _ => ∃ F l dd w g y c, Ex F H ∧ Rps F vs [.tup [li l, llli dd, li w], li g, .int y, .int c] ∧ Hs l dd w ∧ Up l.length g ∧ g ≠ [] ∧ ∀ d v F2 H2, EasedD l dd w g d → Nx F H F2 H2 → Rp F2 v d → Q v H2
theorem ex_eased {σ : L2.St} {F : Hp} {tl : TA} {E : XK} {l : List Int} {dd : List (List (List Int))} {w g : List Int} {y c : Int} (h : EA tl σ F [.tup [li l, llli dd, li w], li g, .int y, .int c]) (hs : Hs l dd w) (ug : Up l.length g) (ne : g ≠ []) : EX (tCall spEased [] E tl) σ F (EasedD l dd w g) := fun F1 H1 e1 e2 Q q =>
  h F1 H1 e1 e2 _ fun vs F2 H2 n2 r2 => ⟨F2, l, dd, w, g, y, c, n2.fh, by rw [List.append_nil]; exact r2, hs, ug, ne, fun d v F3 H3 hd n3 r3 => q d v F3 H3 hd (n2.trans n3) r3⟩
def R_made (A : Ad) (ds : List D) (d : D) : Prop := ∃ l dd w, ds = [.tup [li l, llli dd, li w]] ∧ Hs l dd w ∧ d = hsD A.hs (li l) (llli dd) (li w)
section
variable {l : List Int} {dd : List (List (List Int))} {w : List Int}
theorem ease_wish (hs : Hs l dd w) (f : Int → Bool) (hf : ∀ r ∈ w, f r = true) : Hs l dd (upto l.length f) ∧ EasierH l dd w l dd (upto l.length f) :=
  ⟨hs.wish (upto_up _ _), rfl, fun _ _ _ _ _ _ h => h, fun r hr => mem_upto.mpr ⟨(hs.wu.2 r hr).1, (hs.wu.2 r hr).2, hf r hr⟩, Nat.le_refl _, fun _ _ => rfl⟩
theorem ease_deed (hs : Hs l dd w) (h5 : dd.length < 5) {e : List (List Int)} (hl : e.length = l.length) (he : ∀ x ∈ e, Up l.length x ∧ x ≠ []) : Hs l (dd ++ [e]) w ∧ EasierH l dd w l (dd ++ [e]) w := by
  have d1 := hs.d1
  refine ⟨⟨hs.n0, hs.n8, hs.lk, by rw [List.length_append]; omega, by rw [List.length_append, List.length_singleton]; omega, fun x hx => ?_, fun x hx => ?_, hs.wu⟩, rfl, fun _ _ _ _ _ _ h => h, fun _ h => h, by rw [List.length_append]; omega, fun k hk => ?_⟩
  · rcases List.mem_append.mp hx with hx | hx
    · exact hs.dn x hx
    · rw [List.mem_singleton.mp hx]; exact hl
  · rcases List.mem_append.mp hx with hx | hx
    · exact hs.de x hx
    · rw [List.mem_singleton.mp hx]; exact he
  · unfold deedOf
    rw [List.getD_eq_getElem?_getD, List.getD_eq_getElem?_getD, List.getElem?_append_left (by omega)]
theorem ease_look (hs : Hs l dd w) {c x : Int} (h0 : 0 ≤ x) (h1 : x < 10) (hx : x ∉ l) : Hs ((rng l.length).map fun r => if r = c then x else lookOf l r) dd w ∧ EasierH l dd w ((rng l.length).map fun r => if r = c then x else lookOf l r) dd w := by
  have len : ((rng (l.length : Int)).map fun r => if r = c then x else lookOf l r).length = l.length := by
    have := rng_len (n := (l.length : Int)) (by omega)
    rw [List.length_map]; omega
  refine ⟨⟨by rw [len]; exact hs.n0, by rw [len]; exact hs.n8, fun y hy => ?_, hs.d1, hs.d5, by rw [len]; exact hs.dn, by rw [len]; exact hs.de, by rw [len]; exact hs.wu⟩, len, fun r s r0 r1 s0 s1 h => ?_, fun _ h => h, Nat.le_refl _, fun _ _ => rfl⟩
  · obtain ⟨r, hr, rfl⟩ := List.mem_map.mp hy
    obtain ⟨r0, r1⟩ := mem_rng.mp hr
    by_cases e : r = c
    · rw [if_pos e]; exact ⟨h0, h1⟩
    · rw [if_neg e]; exact hs.lk _ (List.mem_of_getElem? (lookOf_get r0 r1))
  · rw [lookOf_map r0 r1, lookOf_map s0 s1] at h
    have inl : ∀ r : Int, 0 ≤ r → r < l.length → lookOf l r ≠ x := fun r a b z => hx (z ▸ List.mem_of_getElem? (lookOf_get a b))
    by_cases e : r = c
    · by_cases e2 : s = c
      · rw [e, e2]
      · rw [if_pos e, if_neg e2] at h; exact absurd h.symm (inl s s0 s1)
    · by_cases e2 : s = c
      · rw [if_neg e, if_pos e2] at h; exact absurd h (inl r r0 r1)
      · rw [if_neg e, if_neg e2] at h; exact h
theorem drop_ne {n : Int} {g : List Int} (ug : Up n g) (h : 1 < g.length) (x : Int) : g.filter (fun r => !decide (r = x)) ≠ [] := fun z => by
  match g, ug, h, z with
  | a :: b :: g, ug, _, z =>
    have all := List.filter_eq_nil_iff.mp z
    have h1 : a = x := by simpa using all a List.mem_cons_self
    have h2 : b = x := by simpa using all b (List.mem_cons_of_mem _ List.mem_cons_self)
    have := List.rel_of_pairwise_cons ug.1 (List.mem_cons_self (a := b) (l := g))
    omega
/-- a look that no room has -/
theorem free_ne (hs : Hs l dd w) : upto 10 (fun k => !decide (k ∈ l)) ≠ [] := fun z => by
  have sub : ∀ k ∈ rng 10, k ∈ l := fun k hk => by
    obtain ⟨a, b⟩ := mem_rng.mp hk
    by_cases c : k ∈ l
    · exact c
    · have : k ∈ upto 10 (fun k => !decide (k ∈ l)) := mem_upto.mpr ⟨a, b, by simp [c]⟩
      rw [z] at this; cases this
  have := sub_lenA (ys := rng 10) (by decide) sub
  have n8 := hs.n8
  have e : (rng 10).length = 10 := by decide
  omega
end
end Bp
namespace Bp
open PySem PySem.Spec PyProof.Rows L2
open Evl (Ex)
section
variable {K : PySem.W.Frag} {σ : L2.St} {F H : Hp} {t0 t1 te : TE} {D0 : Ends} {tz : TS} {i : Nat} {A : Ad} {E : XK} {l : List Int} {dd : List (List (List Int))} {w g : List Int}
def NevD (l : List Int) (dd : List (List (List Int))) (w g : List Int) (d : D) : Prop := ∃ o, LeastIs l dd w g o ∧ ((o ≠ none ∧ d = .non) ∨ (o = none ∧ ∃ ps zs, d = lli zs ∧ NeverOk l dd w g ps zs))
theorem ex_least (hs : Hs l dd w) (hg : isGuess (li g) l.length = true) (h0 : ED t0 σ F (hsD A.hs (li l) (llli dd) (li w))) (h1 : ED t1 σ F (li g)) : EX (tCall (spLeast A) [] E (tCons t0 (tCons t1 tNil))) σ F (fun d => ∃ o, d = dpD o ∧ LeastIs l dd w g o) := fun F1 H1 e1 e2 Q q =>
  h0 F1 H1 e1 e2 _ fun u F2 H2 n2 r2 => h1 F2 H2 (e1.trans n2.f) n2.fh _ fun v F3 H3 n3 r3 => ⟨F3, l, dd, w, g, u, v, rfl, n3.fh, r2.mono n3.f, r3, hs, hg, fun o H4 lo x4 => q (dpD o) _ F3 H4 ⟨o, rfl, lo⟩ ((n2.trans n3).up x4) (rp_oV o)⟩
theorem ex_never (hs : Hs l dd w) (hg : isGuess (li g) l.length = true) (h0 : ED t0 σ F (hsD A.hs (li l) (llli dd) (li w))) (h1 : ED t1 σ F (li g)) : EX (tCall (spNever A) [] E (tCons t0 (tCons t1 tNil))) σ F (NevD l dd w g) := fun F1 H1 e1 e2 Q q =>
  h0 F1 H1 e1 e2 _ fun u F2 H2 n2 r2 => h1 F2 H2 (e1.trans n2.f) n2.fh _ fun v F3 H3 n3 r3 => ⟨F3, l, dd, w, g, u, v, rfl, n3.fh, r2.mono n3.f, r3, hs, hg, fun o v4 F4 H4 d lo n4 r4 h => q d v4 F4 H4 ⟨o, lo, h⟩ ((n2.trans n3).trans n4) r4⟩
theorem q_lst2X {P0 P1 : D → Prop} (e : Ex F H) (h0 : EX t0 σ F P0) (h1 : EX t1 σ F P1) (k : ∀ d0 d1 v F1 H1, P0 d0 → P1 d1 → Nx F H F1 H1 → Rp F1 v (.lst [d0, d1]) → tz D0 (σ.set i (some v)) H1) : tSeq (tAsg (tLst (tCons t0 (tCons t1 tNil))) (gName i)) tz D0 σ H :=
  h0 F H (Ex.refl F) e _ fun d0 v0 F1 H1 p0 n1 r0 => h1 F1 H1 n1.f n1.fh _ fun d1 v1 F2 H2 p1 n2 r1 =>
    ⟨Evl.sz_of (show 2 ≤ 100000 by decide), fun p hp => k d0 d1 (.ref p) _ _ p0 p1 ((n1.trans n2).trans (Nx.new n2.fh hp)) (Rp.mkL upd_same (Rps.cons ((r0.mono n2.f).mono (Ex.new (Evl.fresh_back n2.fh hp))) (Rps.cons (r1.mono (Ex.new (Evl.fresh_back n2.fh hp))) Rps.nil)))⟩
end
theorem okE_house (l : List Int) (dd : List (List (List Int))) (w : List Int) : okE (.tup [li l, llli dd, li w]) = true :=
  (lay_tupD (n := 3) (by simp; exact ⟨(lay_li l).up (by decide), lay_llli dd, (lay_li w).up (by decide)⟩)).ok
theorem RD.is {r : R2} {F : Hp} {x y z z' : D} (h : RD r F x y z) (e : z = z') : RD r F x y z' := e ▸ h
theorem least_none {l : List Int} {dd : List (List (List Int))} {w g : List Int} {o o' : Option Int} (h : LeastIs l dd w g o) (h' : LeastIs l dd w g o') : o = none → o' = none := fun e => by
  subst e
  cases o' with
  | none => rfl
  | some v =>
    obtain ⟨m, _, hm, _⟩ := h'
    rw [h m] at hm; cases hm
theorem nev_non {l : List Int} {dd : List (List (List Int))} {w g : List Int} {d : D} {o : Option Int} (h : NevD l dd w g d) (h' : LeastIs l dd w g o) : isNonD d = !isNonD (dpD o) := by
  obtain ⟨o', h1, h2⟩ := h
  rcases h2 with ⟨h2, rfl⟩ | ⟨h2, ps, zs, rfl, _⟩
  · cases o with
    | none => exact absurd (least_none h' h1 rfl) h2
    | some v => rfl
  · rw [least_none h1 h' h2]; rfl
theorem eqD_house {l dd w l' dd' w'} (h : eqD (.tup [li l, llli dd, li w]) (.tup [li l', llli dd', li w']) = true) : l = l' ∧ dd = dd' ∧ w = w' := by
  have e : eqD (.tup [li l, llli dd, li w]) (.tup [li l', llli dd', li w']) = (eqD (li l) (li l') && (eqD (llli dd) (llli dd') && (eqD (li w) (li w') && true))) := by
    unfold eqD
    simp only [D.toPy, toPys, PyData.eqv, PyData.eqvAll]
  rw [e, eqD_li, eqD_li, show eqD (llli dd) (llli dd') = decide (dd = dd') from eqD_lst eqD_lli dd dd'] at h
  simpa using h
end Bp
namespace L2
open PySem PySem.Spec PyProof.Rows PySem.Calls
section
variable {X : Cx}
theorem picked {xs : List V} {its : List Value} (r : Vals xs its) : ∀ us : List Value, (∀ u ∈ us, u ∈ its) → ∃ ys : List V, Vals ys us ∧ ∀ y ∈ ys, y ∈ xs
  | [], _ => ⟨[], .nil, fun _ h => nomatch h⟩
  | u :: us, h => by
    obtain ⟨ys, h1, h2⟩ := picked r us fun z hz => h z (List.mem_cons_of_mem _ hz)
    obtain ⟨i, hi, e⟩ := List.getElem_of_mem (h u List.mem_cons_self)
    have hx : i < xs.length := by rw [r.length]; exact hi
    obtain ⟨v, hv, rv⟩ := r.get (List.getElem?_eq_getElem hx)
    rw [List.getElem?_eq_getElem hi, e] at hv
    cases hv
    exact ⟨xs[i] :: ys, .cons rv h1, fun y hy => by
      rcases List.mem_cons.mp hy with rfl | hy
      · exact List.getElem_mem hx
      · exact h2 y hy⟩
/-- xs[a::c], told as: some of xs -/
def tStepL (K : PySem.W.Frag) (te : TE) (tl ts : TO) : TE := fun σ H Q => te σ H fun x H1 => ∃ a, x = .ref a ∧ tl σ H1 fun _ H2 => ts σ H2 fun st H3 => st ≠ some 0 ∧ ∃ xs, SqL K H3 a xs ∧ ∀ ys : List V, (∀ y ∈ ys, y ∈ xs) → ys.length ≤ xs.length → ∀ p, H3 p = none → Q (.ref p) (upd H3 p (.lst ys))
theorem pe_stepL {e : Expr} {te : TE} {lo st : Option Expr} {tl ts : TO} {p3 pos : Pos} (he : PE X e te) (hl : PO X lo tl) (hst : PO X st ts) (hop : ∀ v u, subscripted (.Slice lo none st p3) false v u = operate [v, u] (getItem v u) := by intro _ _; rfl) : PE X (.Subscript e (.Slice lo none st p3) pos) (tStepL X.K te tl ts) := ⟨fun pins s σ H Q I h => by
  refine Subscript_ (thn (he.run pins s σ H _ I h) fun v s1 ⟨x, H1, I1, r1, a, ex, q1⟩ => ?_)
  subst ex
  obtain rfl : v = Value.ref a := r1
  refine wpAny_Slice (thn (hl.run pins s1 σ H1 _ I1 q1) fun vl s2 ⟨l, H2, I2, pl, q2⟩ => ?_)
  refine thn (po_none.run pins s2 σ H2 (fun o H3 => o = none ∧ H3 = H2) I2 ⟨rfl, rfl⟩) fun vu s3 ⟨u, H3, I3, pu, eu, e3⟩ => ?_
  subst eu e3
  refine thn (hst.run pins s3 σ H3 _ I3 q2) fun vs s4 ⟨o, H4, I4, ps, h0, xs, hx, q⟩ => ?_
  have I5 : Inv X pins σ H4 { s4 with heap := s4.heap.push { cls := .type "slice", data := .fields #[vl, vu, vs] } } := I4.kept (t' := s4.toks) fun b ob => Heap.get?_push_of_some _
  obtain ⟨its, r, ht, hz⟩ := I5.list hx
  show wpAny (model X.prog X.w) X.A (subscriptTail e (.Slice lo none st p3) (.ref a) (.ref s4.heap.objs.size)) (EP X pins σ Q) X.xe { s4 with heap := s4.heap.push { cls := .type "slice", data := .fields #[vl, vu, vs] } }
  refine tail_any (ops := [.ref a, .ref s4.heap.objs.size]) ht.isList.typeIs (PySem.slot_list_getitem.lookup) ?_ (hop _ _)
  refine wpAny_getItem_list_slice ht.isList (Heap.IsSliceOf.new _ vl vu vs) pl pu ps h0 ?_ (by rw [List.size_toArray, ← r.length]; exact hz)
  have size := slicePick_size_le its.toArray l none o
  rw [List.size_toArray] at size
  obtain ⟨ys, ry, sub⟩ := picked r (slicePick its.toArray l none o).toList fun u hu => by
    unfold slicePick at hu
    obtain ⟨k, _, hk⟩ := List.mem_filterMap.mp (by simpa using hu)
    exact List.mem_of_getElem? (by simpa using hk)
  have ylen : ys.length ≤ xs.length := by rw [ry.length, r.length, Array.length_toList]; exact size
  refine ⟨.ref _, _, I5.laid (t' := s4.toks) (o := .lst ys) (fun b ob => Heap.get?_push_of_some _) (Nat.le_refl _) ⟨Nat.le_trans ylen hz, _, 0, ry, Heap.get?_push_size _ rfl⟩, rfl, q ys sub ylen _ (I5.hok.fresh (Nat.le_refl _))⟩⟩
end
end L2
namespace Bp
open PySem PySem.Spec PyProof.Rows L2
open Evl (Ex)
/-! ## the small houses of the law about all guesses -/
def many4 (ns : List Int) : Int := 1 + cell ns 0 % 4
def count3 (ns : List Int) : Int := 1 + cell ns 3 % 3
def deedA4 (ns : List Int) (k : Int) : List (List Int) := (rng (many4 ns)).map fun r => lawTo (cell ns (4 + k)) r (many4 ns)
def deeds4 (ns : List Int) : List (List (List Int)) := (rng (count3 ns)).map (deedA4 ns)
def wished4 (ns : List Int) : List Int := if cell ns 9 / 256 % 2 = 1 then [cell ns 9 / 512 % many4 ns] else bitsOf (cell ns 9) (many4 ns)
def R_house4 (K : PySem.W.Frag) (ds : List D) (d : D) : Prop := ∃ ns, ds = [.scr K ns] ∧ d = .tup [li (looksOf ns (many4 ns)), llli (deeds4 ns), li (wished4 ns)]
theorem many4_ok (ns : List Int) : 0 < many4 ns ∧ many4 ns ≤ 4 := by unfold many4; omega
theorem count3_ok (ns : List Int) : 0 < count3 ns ∧ count3 ns ≤ 3 := by unfold count3; omega
theorem law_hs4 (ns : List Int) : Hs (looksOf ns (many4 ns)) (deeds4 ns) (wished4 ns) := by
  have ⟨m0, m4⟩ := many4_ok ns
  have ⟨c0, c3⟩ := count3_ok ns
  have ll := looks_len (ns := ns) (m := many4 ns) (by omega)
  have lc := rng_len (n := count3 ns) (by omega)
  have lm := rng_len (n := many4 ns) (by omega)
  have ld : (deeds4 ns).length = (rng (count3 ns)).length := List.length_map ..
  refine ⟨by omega, by omega, fun x hx => looks_in hx, by omega, by omega, fun e he => ?_, fun e he x hx => ?_, ?_⟩
  · obtain ⟨k, _, rfl⟩ := List.mem_map.mp he
    have : (deedA4 ns k).length = (rng (many4 ns)).length := List.length_map ..
    omega
  · obtain ⟨k, _, rfl⟩ := List.mem_map.mp he
    obtain ⟨r, hr, rfl⟩ := List.mem_map.mp hx
    have ⟨r0, r1⟩ := mem_rng.mp hr
    rw [ll]
    exact lawTo_ok r0 r1
  · rw [ll]
    unfold wished4
    split
    · have a := Int.emod_nonneg (cell ns 9 / 512) (b := many4 ns) (by omega)
      have b := Int.emod_lt_of_pos (cell ns 9 / 512) m0
      exact ⟨by simp, by simp; omega⟩
    · exact upto_up _ _
/-! ## all guesses -/
def growRows (rows : List (List Int)) (r : Int) : List (List Int) := rows ++ rows.map (· ++ [r])
def rowsUpTo : Nat → List (List Int)
  | 0 => [[]]
  | n + 1 => growRows (rowsUpTo n) (n : Int)
theorem rowsUpTo_len : ∀ n, (rowsUpTo n).length = 2 ^ n
  | 0 => rfl
  | n + 1 => by unfold rowsUpTo growRows; rw [List.length_append, List.length_map, rowsUpTo_len n, Nat.pow_succ]; omega
theorem rowsUpTo_all : ∀ n, rowsUpTo n = allSub n
  | 0 => rfl
  | n + 1 => by unfold rowsUpTo allSub growRows; rw [rowsUpTo_all n]
theorem rowsUpTo_head : ∀ n, ∃ t, rowsUpTo n = [] :: t ∧ ∀ x ∈ t, x ≠ []
  | 0 => ⟨[], rfl, fun x h => nomatch h⟩
  | n + 1 => by
    obtain ⟨t, e, h⟩ := rowsUpTo_head n
    refine ⟨t ++ (rowsUpTo n).map (· ++ [(n : Int)]), by show rowsUpTo n ++ (rowsUpTo n).map (· ++ [(n : Int)]) = _; generalize (rowsUpTo n).map (· ++ [(n : Int)]) = m; rw [e]; rfl, fun x hx => ?_⟩
    rcases List.mem_append.mp hx with hx | hx
    · exact h x hx
    · obtain ⟨y, _, rfl⟩ := List.mem_map.mp hx
      exact fun z => by simp at z
theorem rowsUpTo_up : ∀ (n : Nat) (x : List Int), x ∈ rowsUpTo n → Up n x
  | 0, x, h => by rw [List.mem_singleton.mp h]; exact ⟨List.Pairwise.nil, fun _ z => nomatch z⟩
  | n + 1, x, h => by
    unfold rowsUpTo growRows at h
    rcases List.mem_append.mp h with h | h
    · have := rowsUpTo_up n x h
      exact ⟨this.1, fun y hy => by have := this.2 y hy; omega⟩
    · obtain ⟨y, hy, rfl⟩ := List.mem_map.mp h
      have := rowsUpTo_up n y hy
      refine ⟨List.pairwise_append.mpr ⟨this.1, by simp, fun a ha b hb => ?_⟩, fun z hz => ?_⟩
      · rw [List.mem_singleton.mp hb]; exact (this.2 a ha).2
      · rcases List.mem_append.mp hz with hz | hz
        · have := this.2 z hz; omega
        · rw [List.mem_singleton.mp hz]; omega
def allRows (n : Nat) : List (List Int) := (rowsUpTo n).drop 1
theorem allRows_mem {n : Nat} {x : List Int} : x ∈ allRows n ↔ Up n x ∧ x ≠ [] := by
  obtain ⟨t, e, h⟩ := rowsUpTo_head n
  unfold allRows
  rw [e, List.drop_one, List.tail_cons]
  constructor
  · exact fun hx => ⟨rowsUpTo_up n x (by rw [e]; exact List.mem_cons_of_mem _ hx), h x hx⟩
  · rintro ⟨h1, h2⟩
    have := allSub_mem n h1
    rw [← rowsUpTo_all, e] at this
    exact (List.mem_cons.mp this).resolve_left h2
def R_rows4 (ds : List D) (d : D) : Prop := ∃ n : Nat, ds = [.int (n : Int)] ∧ n ≤ 4 ∧ d = lli (allRows n)
/-! ## the table of the law -/
def distL (l : List Int) (dd : List (List (List Int))) (w : List Int) (n : Nat) (q : List Int) : Option Int := if leadIn l dd w n q = true then some (((List.range (n + 1)).find? fun m => leadIn l dd w m q).getD 0 : Nat) else none
def tabAt (l : List Int) (dd : List (List (List Int))) (w : List Int) : Nat → List Int → Option Int
  | 0, _ => none
  | n + 1, q => distL l dd w n q
section
variable {l : List Int} {dd : List (List (List Int))} {w : List Int} {q : List Int}
theorem dist_some {n : Nat} {v : Int} (h : distL l dd w n q = some v) : ∃ m : Nat, v = (m : Int) ∧ m ≤ n ∧ leadIn l dd w m q = true ∧ before l dd w m q = false := by
  unfold distL at h
  split at h
  · rename_i c
    cases hf : (List.range (n + 1)).find? fun m => leadIn l dd w m q with
    | none => exact absurd c (by simpa using List.find?_eq_none.mp hf n (List.mem_range.mpr (Nat.lt_succ_self n)))
    | some m =>
      rw [hf] at h
      obtain ⟨h1, a, b, h2, h3⟩ := List.find?_eq_some_iff_append.mp hf
      have hm : m ≤ n := Nat.le_of_lt_succ (List.mem_range.mp (by rw [h2]; simp))
      refine ⟨m, (Option.some.inj h).symm, hm, h1, ?_⟩
      cases e : before l dd w m q
      · rfl
      · obtain ⟨k, hk, y⟩ := before_iff.mp e
        have len : (List.range (n + 1))[a.length]? = some m := by rw [h2]; simp
        have am : a.length = m := by
          rw [List.getElem?_range (by have := congrArg List.length h2; simp at this; omega)] at len
          exact Option.some.inj len
        have ka : k ∈ a := by
          have : (List.range (n + 1))[k]? = some k := List.getElem?_range (by omega)
          rw [h2, List.getElem?_append_left (by omega)] at this
          exact List.mem_of_getElem? this
        have := h3 k ka
        rw [y] at this; cases this
  · cases h
theorem dist_iff {n : Nat} : (distL l dd w n q = none) ↔ leadIn l dd w n q = false := by
  unfold distL
  cases leadIn l dd w n q <;> simp
theorem dist_is {n m : Nat} (h1 : leadIn l dd w m q = true) (h2 : before l dd w m q = false) (h : m ≤ n) : distL l dd w n q = some (m : Int) := by
  cases e : distL l dd w n q with
  | none => rw [dist_iff] at e; rw [lead_up h h1] at e; cases e
  | some v =>
    obtain ⟨k, rfl, hk, y, b⟩ := dist_some e
    have : k = m := by
      rcases Nat.lt_trichotomy k m with c | c | c
      · rw [before_iff.mpr ⟨k, c, y⟩] at h2; cases h2
      · exact c
      · rw [before_iff.mpr ⟨m, c, h1⟩] at b; cases b
    rw [this]
/-- the levels stop growing -/
theorem lead_stop (hs : Hs l dd w) {n : Nat} (hn : l.length = n) {m : Nat} {q : List Int} (hq : q ∈ allRows n) (h : leadIn l dd w m q = true) : leadIn l dd w (allRows n).length q = true := by
  have parts : ∀ x ∈ allRows n, ∀ fs ∈ onOf l dd x, ∀ r ∈ fs, r ∈ allRows n := fun x hx fs hfs r hr => by
    have gx : isGuess (li x) l.length = true := (isGuess_li (Int.natCast_nonneg _)).mpr (by rw [hn]; exact allRows_mem.mp hx)
    have := (on_part hs gx hfs hr).guess
    have := (isGuess_li (Int.natCast_nonneg _)).mp this
    rw [hn] at this
    exact allRows_mem.mpr this
  have stable : ∀ k, (∀ x ∈ allRows n, leadIn l dd w (k + 1) x = true → leadIn l dd w k x = true) → ∀ j, ∀ x ∈ allRows n, leadIn l dd w j x = true → leadIn l dd w k x = true := fun k hk j => by
    induction j with
    | zero => exact fun x hx hj => lead_up (Nat.zero_le k) hj
    | succ j ih =>
      intro x hx hj
      unfold leadIn at hj
      rw [Bool.or_eq_true] at hj
      rcases hj with hj | hj
      · exact ih x hx hj
      · obtain ⟨fs, hfs, hall⟩ := List.any_eq_true.mp hj
        refine hk x hx ?_
        unfold leadIn
        rw [Bool.or_eq_true]
        exact .inr (List.any_eq_true.mpr ⟨fs, hfs, List.all_eq_true.mpr fun r hr => ih r (parts x hx fs hfs r hr) (List.all_eq_true.mp hall r hr)⟩)
  have grow : ∀ k, (∃ j ≤ k, ∀ x ∈ allRows n, leadIn l dd w (j + 1) x = true → leadIn l dd w j x = true) ∨ k ≤ ((allRows n).filter fun x => leadIn l dd w k x).length := fun k => by
    induction k with
    | zero => exact .inr (Nat.zero_le _)
    | succ k ih =>
      rcases ih with ⟨j, hj, hs⟩ | ih
      · exact .inl ⟨j, by omega, hs⟩
      · by_cases c : ∀ x ∈ allRows n, leadIn l dd w (k + 1) x = true → leadIn l dd w k x = true
        · exact .inl ⟨k, by omega, c⟩
        · refine .inr ?_
          have ⟨x, hx⟩ := Classical.not_forall.mp c
          have ⟨hx, hc⟩ := Classical.not_imp.mp hx
          have ⟨h1, h2⟩ := Classical.not_imp.mp hc
          have h2 : leadIn l dd w k x = false := by simpa using h2
          have key : ∀ rows : List (List Int), x ∈ rows → (rows.filter fun x => leadIn l dd w k x).length < (rows.filter fun x => leadIn l dd w (k + 1) x).length := fun rows hr => by
            have mono : ∀ rows : List (List Int), (rows.filter fun x => leadIn l dd w k x).length ≤ (rows.filter fun x => leadIn l dd w (k + 1) x).length := fun rows => by
              induction rows with
              | nil => exact Nat.le_refl _
              | cons y ys ihy =>
                cases e : leadIn l dd w k y
                · rw [List.filter_cons_of_neg (by simp [e])]
                  refine Nat.le_trans ihy ?_
                  exact (List.sublist_cons_self y ys).filter _ |>.length_le
                · rw [List.filter_cons_of_pos (by simp [e]), List.filter_cons_of_pos (by simpa using lead_up (Nat.le_succ k) e)]
                  simp only [List.length_cons]; omega
            induction rows with
            | nil => cases hr
            | cons y ys ihy =>
              rcases List.mem_cons.mp hr with rfl | hr
              · rw [List.filter_cons_of_neg (by simp [h2]), List.filter_cons_of_pos (by simpa using h1)]
                have := mono ys
                simp only [List.length_cons]; omega
              · have := ihy hr
                cases e : leadIn l dd w k y
                · rw [List.filter_cons_of_neg (by simp [e])]
                  exact Nat.lt_of_lt_of_le this ((List.sublist_cons_self y ys).filter _ |>.length_le)
                · rw [List.filter_cons_of_pos (by simp [e]), List.filter_cons_of_pos (by simpa using lead_up (Nat.le_succ k) e)]
                  simp only [List.length_cons]; omega
          have := key _ hx
          omega
  rcases grow (allRows n).length with ⟨j, hj, hs⟩ | full
  · exact lead_up hj (stable j hs m q hq h)
  · have le := List.length_filter_le (fun x => leadIn l dd w (allRows n).length x) (allRows n)
    have : (allRows n).filter (fun x => leadIn l dd w (allRows n).length x) = allRows n := (List.filter_sublist).eq_of_length (by omega)
    rw [← this] at hq
    exact (List.mem_filter.mp hq).2
end
end Bp
namespace Bp
open PySem PySem.Spec PyProof.Rows L2
open Evl (Ex)
/-! ## a turn over the table -/
def maxO (os : List (Option Int)) : Option Int := if none ∈ os then none else some ((os.map fun o => o.getD 0).foldl max ((os.map fun o => o.getD 0).headD 0))
def minL (xs : List Int) : Int := xs.foldl min (xs.headD 0)
def stepT (l : List Int) (dd : List (List (List Int))) (w : List Int) (T : List Int → Option Int) (q : List Int) : Option Int :=
  if (q.all fun r => decide (r ∈ w)) = true then some 0 else match T q with
    | some v => some v
    | none => if ((onOf l dd q).filterMap fun fs => maxO (fs.map T)) = [] then none else some (1 + minL ((onOf l dd q).filterMap fun fs => maxO (fs.map T)))
theorem foldl_min {ns : List Int} {m : Int} : (ns.foldl min m = m ∨ ns.foldl min m ∈ ns) ∧ ns.foldl min m ≤ m ∧ ∀ y ∈ ns, ns.foldl min m ≤ y := by
  induction ns generalizing m with
  | nil => exact ⟨.inl rfl, Int.le_refl _, fun y hy => nomatch hy⟩
  | cons a ns ih =>
    obtain ⟨h1, h2, h3⟩ := @ih (min m a)
    rw [List.foldl_cons]
    refine ⟨?_, by omega, fun y hy => ?_⟩
    · rcases h1 with h1 | h1
      · rw [h1]
        by_cases c : a ≤ m
        · exact .inr (by rw [Int.min_eq_right c]; exact List.mem_cons_self)
        · exact .inl (Int.min_eq_left (by omega))
      · exact .inr (List.mem_cons_of_mem _ h1)
    · rcases List.mem_cons.mp hy with rfl | hy
      · omega
      · exact h3 y hy
theorem min_of {ns : List Int} (ne : ns ≠ []) : minL ns ∈ ns ∧ ∀ y ∈ ns, minL ns ≤ y := by
  obtain ⟨h1, _, h3⟩ := @foldl_min ns (ns.headD 0)
  refine ⟨?_, h3⟩
  unfold minL
  rcases h1 with h1 | h1
  · rw [h1]; cases ns with
    | nil => exact absurd rfl ne
    | cons a ns => exact List.mem_cons_self
  · exact h1
section
variable {l : List Int} {dd : List (List (List Int))} {w : List Int} {q : List Int}
theorem maxO_some {os : List (Option Int)} {v : Int} (ne : os ≠ []) (h : maxO os = some v) : (∀ o ∈ os, ∃ u, o = some u ∧ u ≤ v) ∧ some v ∈ os := by
  unfold maxO at h
  split at h
  · cases h
  · rename_i c
    have ⟨m1, m2⟩ := max_of (ns := os.map fun o => o.getD 0) (by simpa using ne)
    have h := Option.some.inj h
    rw [h] at m1 m2
    have each : ∀ o ∈ os, ∃ u, o = some u := fun o ho => by
      cases o with
      | none => exact absurd ho c
      | some u => exact ⟨u, rfl⟩
    refine ⟨fun o ho => ?_, ?_⟩
    · obtain ⟨u, rfl⟩ := each o ho
      exact ⟨u, rfl, m2 _ (List.mem_map.mpr ⟨_, ho, rfl⟩)⟩
    · obtain ⟨o, ho, e⟩ := List.mem_map.mp m1
      obtain ⟨u, rfl⟩ := each o ho
      rw [← show u = v from e]; exact ho
theorem maxO_none {os : List (Option Int)} : maxO os = none ↔ none ∈ os := by
  unfold maxO
  split
  · rename_i c; simp [c]
  · rename_i c; simp [c]
/-- what the worst of a list of parts is, when the table stands at level n -/
theorem worst_level {n : Nat} {fs : List (List Int)} (ne : fs ≠ []) : (maxO (fs.map (distL l dd w n)) = none ↔ fs.all (leadIn l dd w n) = false) ∧ ∀ v, maxO (fs.map (distL l dd w n)) = some v → ∃ m : Nat, v = (m : Int) ∧ m ≤ n ∧ fs.all (leadIn l dd w m) = true ∧ ∀ k < m, fs.all (leadIn l dd w k) = false := by
  refine ⟨?_, fun v hv => ?_⟩
  · rw [maxO_none, List.mem_map]
    constructor
    · rintro ⟨q, hq, e⟩
      rw [Bool.eq_false_iff]
      intro z
      have := List.all_eq_true.mp z q hq
      rw [dist_iff.mp e] at this; cases this
    · intro h
      obtain ⟨q, hq, e⟩ := List.all_eq_false.mp h
      exact ⟨q, hq, dist_iff.mpr (by simpa using e)⟩
  · obtain ⟨h1, h2⟩ := maxO_some (by simpa using ne) hv
    obtain ⟨q0, hq0, e0⟩ := List.mem_map.mp h2
    obtain ⟨m, rfl, hm, y, b⟩ := dist_some e0
    refine ⟨m, rfl, hm, List.all_eq_true.mpr fun q hq => ?_, fun k hk => ?_⟩
    · obtain ⟨u, e, le⟩ := h1 _ (List.mem_map.mpr ⟨q, hq, rfl⟩)
      obtain ⟨j, rfl, _, y2, _⟩ := dist_some e
      exact lead_up (by omega) y2
    · rw [Bool.eq_false_iff]
      intro z
      have := before_iff.mpr ⟨k, hk, List.all_eq_true.mp z q0 hq0⟩
      rw [b] at this; cases this
theorem step_tab (hs : Hs l dd w) (hq : isGuess (li q) l.length = true) (t : Nat) : stepT l dd w (tabAt l dd w t) q = tabAt l dd w (t + 1) q := by
  have fne : ∀ fs ∈ onOf l dd q, fs ≠ [] := fun fs hfs => by
    obtain ⟨k, hk, rfl⟩ := List.mem_map.mp hfs
    exact sees_ne ((isGuess_li (Int.natCast_nonneg _)).mp (behind_guess hs hq (Int.natCast_nonneg k) (by have := List.mem_range.mp hk; omega))).2
  unfold stepT
  by_cases there : (q.all fun r => decide (r ∈ w)) = true
  · rw [if_pos there]
    exact (dist_is (m := 0) there rfl (Nat.zero_le t)).symm
  · rw [if_neg there]
    have there0 : leadIn l dd w 0 q = false := Bool.eq_false_iff.mpr there
    cases t with
    | zero =>
      show (match (none : Option Int) with | some v => some v | none => _) = distL l dd w 0 q
      have e : ((onOf l dd q).filterMap fun fs => maxO (fs.map (tabAt l dd w 0))) = [] := by
        rw [List.filterMap_eq_nil_iff]
        intro fs hfs
        rw [maxO_none]
        obtain ⟨x, hx⟩ := List.exists_mem_of_ne_nil _ (fne fs hfs)
        exact List.mem_map.mpr ⟨x, hx, rfl⟩
      rw [dist_iff.mpr there0]
      show (if _ = [] then none else _) = _
      rw [if_pos e]
    | succ n =>
      show (match distL l dd w n q with | some v => some v | none => _) = distL l dd w (n + 1) q
      cases e : distL l dd w n q with
      | some v =>
        obtain ⟨m, rfl, hm, y, b⟩ := dist_some e
        exact (dist_is y b (by omega)).symm
      | none =>
        have nq := dist_iff.mp e
        have lev : ∀ fs ∈ onOf l dd q, ∀ v, maxO (fs.map (distL l dd w n)) = some v → v = (n : Int) := fun fs hfs v hv => by
          obtain ⟨m, rfl, hm, y, b⟩ := (worst_level (fne fs hfs)).2 v hv
          rcases Nat.lt_or_ge m n with c | c
          · exfalso
            have : leadIn l dd w (m + 1) q = true := by
              unfold leadIn
              rw [Bool.or_eq_true]
              exact .inr (List.any_eq_true.mpr ⟨fs, hfs, y⟩)
            have := lead_up (show m + 1 ≤ n from c) this
            rw [nq] at this; cases this
          · omega
        show (if ((onOf l dd q).filterMap fun fs => maxO (fs.map (distL l dd w n))) = [] then none else some (1 + minL ((onOf l dd q).filterMap fun fs => maxO (fs.map (distL l dd w n))))) = _
        by_cases c : ((onOf l dd q).filterMap fun fs => maxO (fs.map (distL l dd w n))) = []
        · rw [if_pos c]
          symm
          rw [dist_iff]
          rw [List.filterMap_eq_nil_iff] at c
          unfold leadIn
          rw [nq, Bool.false_or, Bool.eq_false_iff]
          intro z
          obtain ⟨fs, hfs, hall⟩ := List.any_eq_true.mp z
          have := ((worst_level (n := n) (fne fs hfs)).1).mp (c fs hfs)
          rw [hall] at this; cases this
        · rw [if_neg c]
          have ⟨m1, _⟩ := min_of c
          obtain ⟨fs, hfs, hv⟩ := List.mem_filterMap.mp m1
          rw [lev fs hfs _ hv]
          have hall : fs.all (leadIn l dd w n) = true := by
            cases h : fs.all (leadIn l dd w n)
            · rw [((worst_level (fne fs hfs)).1).mpr h] at hv; cases hv
            · rfl
          have yes : leadIn l dd w (n + 1) q = true := by
            unfold leadIn
            rw [Bool.or_eq_true]
            exact .inr (List.any_eq_true.mpr ⟨fs, hfs, hall⟩)
          rw [dist_is (m := n + 1) yes nq (Nat.le_refl _)]
          congr 1; omega
end
end Bp
namespace Bp
open PySem PySem.Spec PyProof.Rows L2
open Evl (Ex)
theorem hu65 {k : Nat} {A : Around} (r : Room k A) : A.units + 65 < cLine := by have := r.un; omega
theorem index_K {X : Cx} (K : PySem.W.Frag) (hu : X.A.units + 65 < cLine) (h : X.K = K := by rfl) : MtR X "list.index" (rIndexD K) := by subst h; exact mt_indexD hu
theorem min_K {X : Cx} (K : PySem.W.Frag) (hc : X.calm = true) (h : X.K = K := by rfl) : CallR X (.builtin "min") (rMin K) := by subst h; exact cr_min hc
theorem stepL_K {X : Cx} (K : PySem.W.Frag) {e : Expr} {te : TE} {lo st : Option Expr} {tl ts : TO} {p3 pos : Pos} (he : PE X e te) (hl : PO X lo tl) (hst : PO X st ts) (hop : ∀ v u, subscripted (.Slice lo none st p3) false v u = operate [v, u] (getItem v u) := by intro _ _; rfl) (h : X.K = K := by rfl) :
    PE X (.Subscript e (.Slice lo none st p3) pos) (tStepL K te tl ts) := by subst h; exact pe_stepL he hl hst hop
section
variable {K : PySem.W.Frag} {σ : L2.St} {F H : Hp} {te ty : TE} {tl : TA} {D0 : Ends} {tz : TS} {i : Nat}
theorem rl_minL {ns : List Int} {m : Int} (h0 : m ∈ ns) (h1 : ∀ y ∈ ns, m ≤ y) : RL (rMin K) F [li ns] (.int m) := fun F1 H1 vs _ e2 rv Q q => by
  obtain ⟨v, us, rfl, h2, h3⟩ := rv.uncons
  obtain rfl := h3.unnil
  obtain ⟨a, ws, rfl, ha, hr⟩ := h2.list
  rw [hr.eints] at ha
  refine ⟨a, ns, rfl, Evl.sq_of (e2 _ _ ha), List.length_pos_of_mem h0, fun m' hm hle => ?_⟩
  rw [show m' = m from Int.le_antisymm (hle m h0) (h1 m' hm)]
  exact q _ F1 H1 (Nx.refl e2) (.int _)
/-- None in a list of whole numbers and None -/
theorem rd_inO {os : List (Option Int)} : RD (rIn K false) F .non (.lst (os.map dpD)) (.bl (decide (none ∈ os))) := fun F1 H1 v u _ e2 rv ru Q q => by
  obtain ⟨a, vs, rfl, ha, hr⟩ := ru.list
  rw [rv.enon]
  have evs : vs = os.map oV := by
    clear ha q ru rv
    induction os generalizing vs with
    | nil => exact hr.unnil
    | cons o os ih =>
      obtain ⟨v0, vs', rfl, h0, hr'⟩ := hr.uncons
      rw [ih vs' hr']
      cases o with
      | none => rw [h0.enon]; rfl
      | some n => rw [show v0 = V.int n from h0.eint]; rfl
  subst evs
  refine ⟨a, _, rfl, .inl (Evl.sq_of (e2 _ _ ha)), rfl, List.all_eq_true.mpr fun x hx => ?_, ?_⟩
  · obtain ⟨o, _, rfl⟩ := List.mem_map.mp hx
    cases o <;> rfl
  · have : inV .non (os.map oV) = decide (none ∈ os) := by
      unfold inV
      rw [List.any_map, Bool.eq_iff_iff, List.any_eq_true, decide_eq_true_eq]
      constructor
      · rintro ⟨o, ho, e⟩
        cases o with
        | none => exact ho
        | some n => cases e
      · exact fun h => ⟨none, h, rfl⟩
    rw [if_neg Bool.false_ne_true, this]
    exact q _ F1 H1 (Nx.refl e2) (.bl _)
/-- rows.index(row) -/
theorem ed_index {rows : List (List Int)} {q : List Int} {j : Nat} (h : ED te σ F (lli rows)) (hy : ED ty σ F (li q)) (hq : rows[j]? = some q) (hn : ∀ m < j, rows[m]? ≠ some q) : ED (tBM K "list" (rIndexD K) te (tCons ty tNil)) σ F (.int (j : Nat)) := fun F1 H1 e1 e2 Q k =>
  h F1 H1 e1 e2 _ fun v F2 H2 n2 r2 => by
    obtain ⟨a, vs, rfl, ha, hr⟩ := r2.list
    refine ⟨Or.inl ⟨rfl, vs, Evl.sq_of (n2.fh _ _ ha)⟩, hy F2 H2 (e1.trans n2.f) n2.fh _ fun u F3 H3 n3 r3 => ?_⟩
    have r2 := r2.mono n3.f
    have d1 := dp_of (K := K) n3.fh (lli rows) _ (lay_lli rows).l r2
    have d2 := dp_of (K := K) n3.fh (li q) _ (lay_li q).l r3
    have e : (lli rows).toPy = .list (rows.map fun r => (li r).toPy) := by
      show PyData.list _ = _
      rw [toPys_map, List.map_map]; rfl
    rw [e] at d1
    have ok1 : SeqAt.shaped (.list (rows.map fun r => (li r).toPy)) = true := by rw [← e]; exact okE_lli rows
    refine ⟨a, u, (li q).toPy, _, j, (li q).toPy, rfl, rfl, d1, d2, ok1, okE_li q, by rw [List.getElem?_map, hq]; rfl, ?_, fun m z hm hz => ?_, k _ F3 H3 (n2.trans n3) (.int _)⟩
    · have := eqD_li q q; unfold eqD at this; rw [this]; exact decide_eq_true rfl
    · rw [List.getElem?_map, Option.map_eq_some_iff] at hz
      obtain ⟨r, hr2, rfl⟩ := hz
      have := eqD_li r q; unfold eqD at this; rw [this]
      exact decide_eq_false fun z => hn m hm (z ▸ hr2)
/-- xs[a::c], told as: some of xs -/
theorem ex_step {ds : List D} {tlo ts : TO} {a : Option Int} {c : Int} (hc : c ≠ 0) (h : ED te σ F (.lst ds)) (h1 : EO tlo σ F a) (h2 : EO ts σ F (some c)) : EX (tStepL K te tlo ts) σ F (fun d => ∃ xs, d = .lst xs ∧ (∀ x ∈ xs, x ∈ ds) ∧ xs.length ≤ ds.length) := fun F1 H1 e1 e2 Q q =>
  h F1 H1 e1 e2 _ fun v F2 H2 n2 r2 => by
    obtain ⟨p, vs, rfl, hp, hr⟩ := r2.list
    refine ⟨p, rfl, h1 F2 H2 (e1.trans n2.f) n2.fh _ fun F3 H3 n3 => h2 F3 H3 ((e1.trans n2.f).trans n3.f) n3.fh _ fun F4 H4 n4 => ?_⟩
    have n34 := n3.trans n4
    have hp4 : F4 p = some (.lst vs) := n34.f _ _ hp
    have hr4 := hr.mono n34.f
    refine ⟨fun z => hc (Option.some.inj z), vs, Evl.sq_of (n4.fh _ _ hp4), fun ys sub le b hb => ?_⟩
    have pick : ∀ ys : List V, (∀ y ∈ ys, y ∈ vs) → ∃ xs : List D, Rps F4 ys xs ∧ ∀ x ∈ xs, x ∈ ds := fun ys sub => by
      induction ys with
      | nil => exact ⟨[], Rps.nil, fun _ h => nomatch h⟩
      | cons y ys ih =>
        obtain ⟨xs, h1, h2⟩ := ih fun z hz => sub z (List.mem_cons_of_mem _ hz)
        obtain ⟨j, hj⟩ := List.getElem?_of_mem (sub y List.mem_cons_self)
        obtain ⟨d, hd, rd⟩ := hr4.getv hj
        exact ⟨d :: xs, Rps.cons rd h1, fun x hx => by
          rcases List.mem_cons.mp hx with rfl | hx
          · exact List.mem_of_getElem? hd
          · exact h2 x hx⟩
    obtain ⟨xs, rx, sx⟩ := pick ys sub
    have up : Ex F4 (upd F4 b (.lst ys)) := Ex.new (Evl.fresh_back n4.fh hb)
    exact q (.lst xs) _ (upd F4 b (.lst ys)) _ ⟨xs, rfl, sx, by rw [← rx.n, ← hr.n]; exact le⟩ ((n2.trans n34).trans (Nx.new n4.fh hb)) (Rp.mkL upd_same (rx.mono up))
theorem ex_catR {t1 : TE} {ds : List D} {n : Nat} {P : List D → Prop} (h : EX te σ F (fun d => ∃ xs, d = .lst xs ∧ P xs ∧ xs.length ≤ n)) (h1 : ED t1 σ F (.lst ds)) (hz : n + ds.length ≤ 100000) : EX (tOp rAddA te t1) σ F (fun d => ∃ xs, d = .lst (xs ++ ds) ∧ P xs ∧ xs.length ≤ n) := fun F1 H1 e1 e2 Q q =>
  h F1 H1 e1 e2 _ fun d v F2 H2 hd n2 r2 => h1 F2 H2 (e1.trans n2.f) n2.fh _ fun u F3 H3 n3 r3 => by
    obtain ⟨xs, rfl, px, le⟩ := hd
    exact rd_addL (xs := xs) (ys := ds) (by omega) F3 H3 v u ((Ex.refl F3)) n3.fh (r2.mono n3.f) r3 _ fun w F4 H4 n4 r4 => q _ w F4 H4 ⟨xs, rfl, px, le⟩ ((n2.trans n3).trans n4) r4
theorem q_forX {P : D → Prop} {tu : TS} (e : Ex F H) (h : EX te σ F P)
    (k : ∀ d F0 H0, P d → Nx F H F0 H0 → ∃ xs, d = .lst xs ∧ ∀ F1 H1, Nx F0 H0 F1 H1 → ∃ Pv : Nat → L2.St → Hp → Prop, Pv 0 σ H1 ∧ (∀ n σ' H', Pv n σ' H' → Ex F1 H') ∧
      (∀ n v d σ' H', xs[n]? = some d → Rp F1 v d → Pv n σ' H' → tu { D0 with nx := Pv (n + 1), ct := Pv (n + 1), bk := tz D0 } (σ'.set i (some v)) H') ∧ (∀ σ' H', Pv xs.length σ' H' → tz D0 σ' H')) :
    tSeq (tFor (iList K te) (gName i) tu) tz D0 σ H := h F H (Ex.refl F) e _ fun d v F0 H0 pd n0 r0 => by
  obtain ⟨xs, rfl, k2⟩ := k d F0 H0 pd n0
  exact q_forL (tl := tC v) n0.fh (ed_c r0) k2
end
end Bp
namespace Bp
open PySem PySem.Spec PyProof.Rows L2
open Evl (Ex)
theorem pe_index {X : Cx} (K : PySem.W.Frag) {o e : Expr} {to : TE} {t : TA} {apos cpos : Pos} (hu : X.A.units + 65 < cLine) (ho : PE X o to) (ha : PA X [e] t)
    (hbase : attributeBase o "index" X.env (eval o X.env) = eval o X.env := by rfl) (hfew : ((backTo cpos (starEach [e] X.env)).all (fun x => !x.1) && (backToKw cpos (keywordEach [] X.env)).all (fun x => x.1.isSome) && decide ([e].length + ([] : List Keyword).length + (if ([] : List Keyword).isEmpty then 0 else 1) < 30)) = true := by rfl) (hline : (apos.endLine == cpos.line) = true := by rfl) (hs : starEach [e] X.env = (false, eval e X.env) :: starEach [] X.env := by rfl) (hp : (backTo cpos (starEach ([] : List Expr) X.env)).any (·.1) = false := by rfl) (h : X.K = K := by rfl) :
    PE X (.Call (.Attribute o "index" apos) [e] [] cpos) (tBM K "list" (rIndexD K) to t) := by
  subst h
  exact pe_bm PySem.F.plainAttrs_list PySem.F.slot_list_index PySem.F.type_list_index (mt_indexD hu) ho ha hbase hfew hline hs hp
theorem opt_ints {os : List (Option Int)} (h : none ∉ os) : D.lst (os.map dpD) = li (os.map fun o => o.getD 0) := by
  unfold li
  rw [List.map_map]
  refine congrArg D.lst (List.map_congr_left fun o ho => ?_)
  cases o with
  | none => exact absurd ho h
  | some v => rfl
theorem first_at {α : Type} [DecidableEq α] {x : α} : ∀ {xs : List α}, x ∈ xs → ∃ j : Nat, xs[j]? = some x ∧ ∀ m < j, xs[m]? ≠ some x
  | [], h => nomatch h
  | y :: ys, h => by
    by_cases c : y = x
    · exact ⟨0, by rw [c]; rfl, fun m hm => absurd hm (Nat.not_lt_zero m)⟩
    · obtain ⟨j, h1, h2⟩ := first_at ((List.mem_cons.mp h).resolve_left (Ne.symm c))
      refine ⟨j + 1, by simpa using h1, fun m hm => ?_⟩
      cases m with
      | zero => exact fun z => c (Option.some.inj z)
      | succ m => exact fun z => h2 m (by omega) (by simpa using z)
/-- the worst of the parts of a guess, by the table T over all rows -/
def spWorst : Sp := fun vs H Q _ => ∃ F l g n T v0 v1 v2 v3, vs = [v0, v1, v2, v3] ∧ Ex F H ∧ Rp F v0 (li l) ∧ Rp F v1 (li g) ∧ Rp F v2 (lli (allRows n)) ∧ Rp F v3 (.lst ((allRows n).map fun x => dpD (T x))) ∧
  l.length = n ∧ n ≤ 4 ∧ (∀ x ∈ l, 0 ≤ x ∧ x < 10) ∧ Up (l.length : Int) g ∧ g ≠ [] ∧ ∀ H2, Ex H H2 → Q (oV (maxO ((seesOf l g).map T))) H2
end Bp
namespace Bp
open PySem PySem.Spec PyProof.Rows L2
open Evl (Ex)
theorem rps_opts {F : Hp} : ∀ {os : List (Option Int)} {vs : List V}, Rps F vs (os.map dpD) → vs = os.map oV
  | [], _, h => h.unnil
  | o :: os, vs, h => by
    obtain ⟨v0, vs', rfl, h0, h'⟩ := h.uncons
    rw [rps_opts h']
    cases o with
    | none => rw [h0.enon]; rfl
    | some n => rw [show v0 = V.int n from h0.eint]; rfl
theorem rps_oV {F : Hp} : ∀ os : List (Option Int), Rps F (os.map oV) (os.map dpD)
  | [] => .nil
  | o :: os => .cons (rp_oV o) (rps_oV os)
theorem opt_some : ∀ os : List (Option Int), D.lst ((os.filter fun o => !isNonD (dpD o)).map dpD) = li (os.filterMap id)
  | [] => rfl
  | none :: os => by rw [List.filter_cons_of_neg (by simp [dpD, isNonD])]; exact opt_some os
  | some v :: os => by
    have := opt_some os
    rw [List.filter_cons_of_pos (by simp [dpD, isNonD])]
    unfold li at this ⊢
    injection this with this
    simp only [List.map_cons, List.filterMap_cons, id]
    rw [this]; rfl
/-- a table whose first i places are of the next turn -/
def half {α β : Type} (rows : List α) (T T' : α → β) (i : Nat) : List β := (rows.take i).map T' ++ (rows.drop i).map T
theorem half_zero {α β : Type} {rows : List α} {T T' : α → β} : half rows T T' 0 = rows.map T := by unfold half; simp
theorem half_all {α β : Type} {rows : List α} {T T' : α → β} : half rows T T' rows.length = rows.map T' := by unfold half; simp
theorem half_len {α β : Type} {rows : List α} {T T' : α → β} {i : Nat} (h : i ≤ rows.length) : (half rows T T' i).length = rows.length := by unfold half; simp; omega
theorem half_set {α β : Type} {rows : List α} {T T' : α → β} {i : Nat} {q : α} (hq : rows[i]? = some q) : (half rows T T' i).set i (T' q) = half rows T T' (i + 1) := by
  obtain ⟨hi, e⟩ := List.getElem?_eq_some_iff.mp hq
  unfold half
  have d : rows.drop i = q :: rows.drop (i + 1) := by rw [List.drop_eq_getElem_cons hi, e]
  have len : ((rows.take i).map T').length = i := by simp; omega
  rw [d, List.map_cons, List.take_add_one, hq, List.map_append, List.set_append_right _ _ (by omega), len, Nat.sub_self]
  simp
theorem half_same {α β : Type} {rows : List α} {T T' : α → β} {i : Nat} {q : α} (hq : rows[i]? = some q) (h : T q = T' q) : half rows T T' i = half rows T T' (i + 1) := by
  obtain ⟨hi, e⟩ := List.getElem?_eq_some_iff.mp hq
  unfold half
  rw [List.drop_eq_getElem_cons hi, e, List.map_cons, List.take_add_one, hq, List.map_append, h]
  simp
theorem on_map (l : List Int) (dd : List (List (List Int))) (q : List Int) : onOf l dd q = dd.map fun e => seesOf l (behindOf e q) := by
  unfold onOf
  apply List.ext_getElem?
  intro k
  rw [List.getElem?_map, List.getElem?_map]
  by_cases h : k < dd.length
  · rw [List.getElem?_range h, List.getElem?_eq_getElem h]
    show some (seesOf l (behindOf (deedOf dd (k : Int)) q)) = some _
    unfold deedOf
    rw [Int.toNat_natCast, List.getD_eq_getElem?_getD, List.getElem?_eq_getElem h]; rfl
  · rw [List.getElem?_eq_none (by rw [List.length_range]; omega), List.getElem?_eq_none (by omega)]; rfl
theorem due_is {l : List Int} {dd : List (List (List Int))} {w q : List Int} {n : Nat} (hs : Hs l dd w) (hn : l.length = n) (hq : isGuess (li q) l.length = true) {o : Option Int} (h : LeastIs l dd w q o) : maxO ((seesOf l q).map (distL l dd w (allRows n).length)) = o := by
  have ⟨uq, ne⟩ := (isGuess_li (Int.natCast_nonneg _)).mp hq
  have fne := sees_ne (l := l) ne
  have ⟨w1, w2⟩ := worst_level (l := l) (dd := dd) (w := w) (n := (allRows n).length) fne
  cases o with
  | none => exact w1.mpr (h _)
  | some v =>
    obtain ⟨m, rfl, hm, hb⟩ := h
    have hN : (seesOf l q).all (leadIn l dd w (allRows n).length) = true := List.all_eq_true.mpr fun r hr => by
      have gr := (isGuess_li (Int.natCast_nonneg _)).mp (sees_guess (n := (l.length : Int)) (by omega) hq hr)
      rw [hn] at gr
      exact lead_stop hs hn (allRows_mem.mpr gr) (List.all_eq_true.mp hm r hr)
    cases e : maxO ((seesOf l q).map (distL l dd w (allRows n).length)) with
    | none => rw [w1.mp e] at hN; cases hN
    | some u =>
      obtain ⟨k, rfl, _, hk, hkb⟩ := w2 u e
      have : k = m := by
        rcases Nat.lt_trichotomy k m with c | c | c
        · have := hb k c; unfold leadG at this; rw [hk] at this; cases this
        · exact c
        · have := hkb m c; unfold leadG at hm; rw [hm] at this; cases this
      rw [this]
section
variable {K : PySem.W.Frag} {σ : L2.St} {F H : Hp} {t0 t1 t2 t3 te : TE} {D0 : Ends} {tz : TS} {i j : Nat} {E : XK} {l g : List Int} {n : Nat} {tb : List Int → Option Int}
theorem ed_worst (ln : l.length = n) (n4 : n ≤ 4) (lk : ∀ x ∈ l, 0 ≤ x ∧ x < 10) (ug : Up (l.length : Int) g) (gne : g ≠ []) (h0 : ED t0 σ F (li l)) (h1 : ED t1 σ F (li g)) (h2 : ED t2 σ F (lli (allRows n))) (h3 : ED t3 σ F (.lst ((allRows n).map fun x => dpD (tb x)))) :
    ED (tCall spWorst [] E (tCons t0 (tCons t1 (tCons t2 (tCons t3 tNil))))) σ F (dpD (maxO ((seesOf l g).map tb))) := fun F1 H1 e1 e2 Q q =>
  h0 F1 H1 e1 e2 _ fun u0 F2 H2 n2 r0 => h1 F2 H2 (e1.trans n2.f) n2.fh _ fun u1 F3 H3 n3 r1 => h2 F3 H3 ((e1.trans n2.f).trans n3.f) n3.fh _ fun u2 F4 H4 n4' r2 => h3 F4 H4 (((e1.trans n2.f).trans n3.f).trans n4'.f) n4'.fh _ fun u3 F5 H5 n5 r3 =>
    ⟨F5, l, g, n, tb, u0, u1, u2, u3, rfl, n5.fh, r0.mono ((n3.f.trans n4'.f).trans n5.f), r1.mono (n4'.f.trans n5.f), r2.mono n5.f, r3, ln, n4, lk, ug, gne, fun H6 x6 => q _ F5 H6 ((((n2.trans n3).trans n4').trans n5).up x6) (rp_oV _)⟩
/-- x = list(y), to be changed -/
theorem q_listM {a : Addr} {us : List V} (hv : σ[i]? = some (some (.ref a))) (ha : H a = some (.lst us)) (k : ∀ p, H p = none → tz D0 (σ.set j (some (.ref p))) (upd H p (.lst us))) : tSeq (tAsg (tCB (rListS' K) (tCons (tVar i) tNil)) (gName j)) tz D0 σ H :=
  ⟨_, hv, a, us, rfl, Or.inl (Evl.sq_of ha), fun p hp => k p hp⟩
/-- xs[i] = e, a whole number -/
theorem s_setI {p : Addr} {us : List V} {k : Nat} {v : Int} (e : Ex F H) (fp : F p = none) (hv : ED te σ F (.int v)) (hi : σ[i]? = some (some (.ref p))) (hj : σ[j]? = some (some (.int (k : Int)))) (hp : H p = some (.lst us)) (hk : k < us.length) (q : ∀ H1, Ex H H1 → D0.nx σ (upd H1 p (.lst (us.set k (.int v))))) :
    tAsg te (gSub (tVar i) (tVar j) rSetL) D0 σ H := hv F H (Ex.refl F) e _ fun u F1 H1 n1 r1 => by
  rw [r1.eint]
  refine ⟨_, hi, _, hj, p, us, (k : Int), k, rfl, rfl, n1.h _ _ hp, ?_, q H1 n1.h⟩
  unfold ixN
  simp; omega
theorem q_clr {a : Addr} {us : List V} (hi : σ[i]? = some (some (.ref a))) (ha : H a = some (.lst us)) (k : tz D0 σ (upd H a (.lst []))) : tSeq (tDrop (tBM0 K "list" rClear (tVar i))) tz D0 σ H := ⟨_, hi, Or.inl ⟨rfl, us, Evl.sq_of ha⟩, a, us, rfl, rfl, ha, k⟩
theorem q_ext {a b : Addr} {us vs : List V} (hi : σ[i]? = some (some (.ref a))) (ha : H a = some (.lst us)) (hj : σ[j]? = some (some (.ref b))) (hb : H b = some (.lst vs)) (hz : us.length + vs.length ≤ 100000) (k : tz D0 σ (upd H a (.lst (us ++ vs)))) :
    tSeq (tDrop (tBM K "list" rExtend (tVar i) (tCons (tVar j) tNil))) tz D0 σ H := s_ext (D0 := { D0 with nx := tz D0 }) hi ha hj hb hz k
theorem rp_of_dp {F : Hp} {v : V} {o : Option Int} (h : Rp F v (dpD o)) : v = oV o := by
  cases o with
  | none => exact h.enon
  | some n => exact h.eint
end
end Bp
namespace Bp
open PySem PySem.Spec PyProof.Rows L2
open Evl (Ex)
/-- as spNever, and the list is made anew with all that is in it -/
def spNeverN (A : Ad) : Sp := fun vs H Q _ => ∃ F l dd w g v0 v1, vs = [v0, v1] ∧ Ex F H ∧ Rp F v0 (hsD A.hs (li l) (llli dd) (li w)) ∧ Rp F v1 (li g) ∧ Hs l dd w ∧ isGuess (li g) l.length = true ∧
  ∀ o H2, LeastIs l dd w g o → ((o ≠ none → Ex H H2 → Q .non H2) ∧ (o = none → ∀ v G ps zs, Nw H G H2 → Rp G v (lli zs) → NeverOk l dd w g ps zs → Q v H2))
section
variable {K : PySem.W.Frag} {σ : L2.St} {F H : Hp} {i j : Nat} {p f : Addr} {kvs kf : List (List L2.Key × V)}
/-- [list(x) for x in d if x not in e], anew -/
theorem en_lcW {es : List (List Int × D)} {ef : List (List Int × D)} {ws : List Nat} (hi : σ[i]? = some (some (.ref p))) (hp : H p = some (.dT kvs)) (T : Tab F kvs es) (hw : ∀ x, wipe ((wipe σ ws).set j (some x)) ws = wipe σ ws)
    (hj : ∀ x, ((wipe σ ws).set j (some x))[j]? = some (some x)) (hk : ∀ x, ((wipe σ ws).set j (some x))[m]? = some (some (.ref f))) (hf : H f = some (.dT kf)) (pf : p ≠ f) (Tf : Tab F kf ef) (hz : es.length < 50000)
    (Q : VK) (q : ∀ v G H2, Nw H G H2 → Rp G v (lli ((es.map Prod.fst).filter fun x => !decide (x ∈ ef.map Prod.fst))) → Q v H2) :
    tLockE (tLc (iKeys (tVar i)) (gName j) (tB (tDNotIn (tVar j) (tVar m))) (tCB (rListS' K) (tCons (tVar j) tNil)) ws) σ H Q :=
  ⟨p, .dT kvs, hp, trivial, fun od => ⟨.ref p, hi, p, od, rfl, .inr ⟨kvs, upd_same, fun Dn hD => by
    have Dp : Dn ≠ p := fun z => by rw [z, upd_same] at hD; cases hD
    have hD0 : H Dn = none := by rwa [upd_ne Dp] at hD
    have unl : ∀ {H1 : Hp}, H1 p = some (frzd od kvs) → ∀ b, b ≠ p → upd H1 p (.dT kvs) b = H1 b := fun _ b hb => upd_ne hb
    refine lc_it walk_keysT (fun n H' => H' p = some (frzd od kvs) ∧ Ex H (upd H' p (.dT kvs)) ∧ ∃ G us, Ex G H' ∧ (∀ b, G b ≠ none → H b = none) ∧ G Dn = none ∧ H' Dn = some (.lst us) ∧ Rps G us ((((es.map Prod.fst).take n).filter fun x => !decide (x ∈ ef.map Prod.fst)).map li)) ?_ (fun n H' _ h => h.1) (fun n x H' H'' hn h y => ?_) (fun H' h => ?_)
    · refine ⟨by rw [upd_ne (Ne.symm Dp)]; exact upd_same, ?_, noH, [], fun _ _ z => (nomatch z), fun _ z => absurd rfl z, rfl, upd_same, by simpa using Rps.nil⟩
      rw [upd_comm Dp, upd_upd, upd_id hp]
      exact Ex.new hD0
    · obtain ⟨rfl, kk, v, b, hk2, rfl, hb⟩ := y
      obtain ⟨lk, eH, G, us, eG, nG, gD, hxD, rx⟩ := h
      obtain ⟨r, d, he, rfl, _⟩ := T.keys hk2
      have gp : G p = none := by
        cases c : G p with
        | none => rfl
        | some o => have := nG p (by rw [c]; exact fun z => nomatch z); rw [hp] at this; cases this
      have hf2 : H'' f = some (.dT kf) := by have := eH _ _ hf; rwa [upd_ne (Ne.symm pf)] at this
      rw [kI_V] at hb
      have take1 : ((es.map Prod.fst).take (n + 1)).filter (fun x => !decide (x ∈ ef.map Prod.fst)) = ((es.map Prod.fst).take n).filter (fun x => !decide (x ∈ ef.map Prod.fst)) ++ if (!decide (r ∈ ef.map Prod.fst)) = true then [r] else [] := by
        rw [List.take_add_one, List.getElem?_map, he, List.filter_append]
        exact congrArg _ (by show List.filter _ [r] = _; cases c : decide (r ∈ ef.map Prod.fst) <;> simp [List.filter, c])
      refine ⟨hw _, ?_⟩
      unfold tB
      refine nin_at (j := j) (i := m) (q := r) ⟨b, hj _, hb⟩ (hk _) (.inl hf2) Tf ⟨_, rfl, ?_⟩
      cases c : decide (r ∈ ef.map Prod.fst) with
      | true =>
        rw [c] at take1
        refine ⟨lk, eH, G, us, eG, nG, gD, hxD, ?_⟩
        rw [take1]; simpa using rx
      | false =>
        rw [c] at take1
        rw [Bool.not_false, if_pos rfl]
        refine ⟨.ref b, hj _, b, r.map V.int, rfl, Or.inr (Evl.st_of hb), fun a ha => ?_⟩
        have aD : a ≠ Dn := fun z => by rw [z, hxD] at ha; cases ha
        have ap : a ≠ p := fun z => by rw [z, lk] at ha; cases ha
        have ga : G a = none := Evl.fresh_back eG ha
        have Ha : H a = none := Evl.fresh_back eH (by rw [upd_ne ap]; exact ha)
        refine ⟨us, (Ex.new ha) _ _ hxD, Evl.sz_lt ?_, ?_, ?_, upd G a (.lst (r.map V.int)), us ++ [.ref a], ?_, fun z hz => ?_, by rw [upd_ne (Ne.symm aD)]; exact gD, upd_same, ?_⟩
        · have h1 := rx.n
          rw [List.length_map] at h1
          have h2 := List.length_filter_le (fun x => !decide (x ∈ ef.map Prod.fst)) ((es.map Prod.fst).take n)
          rw [List.length_take, List.length_map] at h2
          omega
        · rw [upd_ne (Ne.symm Dp), upd_ne (Ne.symm ap)]; exact lk
        · rw [upd_comm Dp, upd_comm ap]
          exact Ex.mut (eH.trans (Ex.new (by rw [upd_ne ap]; exact ha))) hD0
        · intro z o hz
          by_cases e1 : z = a
          · subst e1
            rw [upd_same] at hz
            rw [upd_ne aD, upd_same]; exact hz
          · rw [upd_ne e1] at hz
            have e2 : z ≠ Dn := fun e => by rw [e, gD] at hz; cases hz
            rw [upd_ne e2, upd_ne e1]; exact eG _ _ hz
        · by_cases e1 : z = a
          · rw [e1]; exact Ha
          · rw [upd_ne e1] at hz; exact nG z hz
        · rw [take1, Bool.not_false, if_pos rfl, List.map_append]
          exact (rx.mono (Ex.new ga)).snoc (Rp.mkL upd_same (Rps.ints r))
    · obtain ⟨lk, eH, G, us, eG, nG, gD, hxD, rx⟩ := h
      rw [T.len, show es.length = (es.map Prod.fst).length from (List.length_map ..).symm, List.take_length] at rx
      have gp : G p = none := by
        cases c : G p with
        | none => rfl
        | some o => have := nG p (by rw [c]; exact fun z => nomatch z); rw [hp] at this; cases this
      refine ⟨lk, q (.ref Dn) (upd G Dn (.lst us)) _ ⟨eH, fun z o hz => ?_, fun z hz => ?_⟩ (Rp.mkL upd_same (rx.mono (Ex.new gD)))⟩
      · by_cases e1 : z = Dn
        · subst e1
          rw [upd_same] at hz
          rw [upd_ne Dp, hxD]; exact hz
        · rw [upd_ne e1] at hz
          have e2 : z ≠ p := fun e => by rw [e, gp] at hz; cases hz
          rw [upd_ne e2]; exact eG _ _ hz
      · by_cases e1 : z = Dn
        · rw [e1]; exact hD0
        · rw [upd_ne e1] at hz; exact nG z hz⟩⟩⟩
end
end Bp
namespace Bp
open PySem PySem.Spec PyProof.Rows L2
open Evl (Ex)
section
variable {K : PySem.W.Frag} {σ : L2.St} {F H : Hp} {i j : Nat} {p f : Addr} {kvs kf : List (List L2.Key × V)}
/-- [list(x) for x in d if ..], anew, the test told by fb -/
theorem en_lcF {es : List (List Int × D)} {fb : List Int → Bool} {tt : TT} {ws : List Nat} (hi : σ[i]? = some (some (.ref p))) (hp : H p = some (.dT kvs)) (T : Tab F kvs es) (hw : ∀ x, wipe ((wipe σ ws).set j (some x)) ws = wipe σ ws)
    (hj : ∀ x, ((wipe σ ws).set j (some x))[j]? = some (some x)) (ht : ∀ r d b H', (r, d) ∈ es → (∀ z o, z ≠ p → H z = some o → H' z = some o) → H' b = some (.tup (r.map V.int)) → ∀ Q : Bool → Hp → Prop, Q (fb r) H' → tt ((wipe σ ws).set j (some (.ref b))) H' Q) (hz : es.length < 50000)
    (Q : VK) (q : ∀ v G H2, Nw H G H2 → Rp G v (lli ((es.map Prod.fst).filter fb)) → Q v H2) :
    tLockE (tLc (iKeys (tVar i)) (gName j) tt (tCB (rListS' K) (tCons (tVar j) tNil)) ws) σ H Q :=
  ⟨p, .dT kvs, hp, trivial, fun od => ⟨.ref p, hi, p, od, rfl, .inr ⟨kvs, upd_same, fun Dn hD => by
    have Dp : Dn ≠ p := fun z => by rw [z, upd_same] at hD; cases hD
    have hD0 : H Dn = none := by rwa [upd_ne Dp] at hD
    have unl : ∀ {H1 : Hp}, H1 p = some (frzd od kvs) → ∀ b, b ≠ p → upd H1 p (.dT kvs) b = H1 b := fun _ b hb => upd_ne hb
    refine lc_it walk_keysT (fun n H' => H' p = some (frzd od kvs) ∧ Ex H (upd H' p (.dT kvs)) ∧ ∃ G us, Ex G H' ∧ (∀ b, G b ≠ none → H b = none) ∧ G Dn = none ∧ H' Dn = some (.lst us) ∧ Rps G us ((((es.map Prod.fst).take n).filter fb).map li)) ?_ (fun n H' _ h => h.1) (fun n x H' H'' hn h y => ?_) (fun H' h => ?_)
    · refine ⟨by rw [upd_ne (Ne.symm Dp)]; exact upd_same, ?_, noH, [], fun _ _ z => (nomatch z), fun _ z => absurd rfl z, rfl, upd_same, by simpa using Rps.nil⟩
      rw [upd_comm Dp, upd_upd, upd_id hp]
      exact Ex.new hD0
    · obtain ⟨rfl, kk, v, b, hk2, rfl, hb⟩ := y
      obtain ⟨lk, eH, G, us, eG, nG, gD, hxD, rx⟩ := h
      obtain ⟨r, d, he, rfl, _⟩ := T.keys hk2
      have gp : G p = none := by
        cases c : G p with
        | none => rfl
        | some o => have := nG p (by rw [c]; exact fun z => nomatch z); rw [hp] at this; cases this
      rw [kI_V] at hb
      have take1 : ((es.map Prod.fst).take (n + 1)).filter fb = ((es.map Prod.fst).take n).filter fb ++ if fb r = true then [r] else [] := by
        rw [List.take_add_one, List.getElem?_map, he, List.filter_append]
        exact congrArg _ (by show List.filter _ [r] = _; cases c : fb r <;> simp [List.filter, c])
      refine ⟨hw _, ht r d b H'' (List.mem_of_getElem? he) (fun z o hz h => by have := eH _ _ h; rwa [upd_ne hz] at this) hb _ ?_⟩
      cases c : fb r with
      | false =>
        rw [c] at take1
        refine ⟨lk, eH, G, us, eG, nG, gD, hxD, ?_⟩
        rw [take1]; simpa using rx
      | true =>
        rw [c] at take1
        rw [if_pos rfl]
        refine ⟨.ref b, hj _, b, r.map V.int, rfl, Or.inr (Evl.st_of hb), fun a ha => ?_⟩
        have aD : a ≠ Dn := fun z => by rw [z, hxD] at ha; cases ha
        have ap : a ≠ p := fun z => by rw [z, lk] at ha; cases ha
        have ga : G a = none := Evl.fresh_back eG ha
        have Ha : H a = none := Evl.fresh_back eH (by rw [upd_ne ap]; exact ha)
        refine ⟨us, (Ex.new ha) _ _ hxD, Evl.sz_lt ?_, ?_, ?_, upd G a (.lst (r.map V.int)), us ++ [.ref a], ?_, fun z hz => ?_, by rw [upd_ne (Ne.symm aD)]; exact gD, upd_same, ?_⟩
        · have h1 := rx.n
          rw [List.length_map] at h1
          have h2 := List.length_filter_le fb ((es.map Prod.fst).take n)
          rw [List.length_take, List.length_map] at h2
          omega
        · rw [upd_ne (Ne.symm Dp), upd_ne (Ne.symm ap)]; exact lk
        · rw [upd_comm Dp, upd_comm ap]
          exact Ex.mut (eH.trans (Ex.new (by rw [upd_ne ap]; exact ha))) hD0
        · intro z o hz
          by_cases e1 : z = a
          · subst e1
            rw [upd_same] at hz
            rw [upd_ne aD, upd_same]; exact hz
          · rw [upd_ne e1] at hz
            have e2 : z ≠ Dn := fun e => by rw [e, gD] at hz; cases hz
            rw [upd_ne e2, upd_ne e1]; exact eG _ _ hz
        · by_cases e1 : z = a
          · rw [e1]; exact Ha
          · rw [upd_ne e1] at hz; exact nG z hz
        · rw [take1, if_pos rfl, List.map_append]
          exact (rx.mono (Ex.new ga)).snoc (Rp.mkL upd_same (Rps.ints r))
    · obtain ⟨lk, eH, G, us, eG, nG, gD, hxD, rx⟩ := h
      rw [T.len, show es.length = (es.map Prod.fst).length from (List.length_map ..).symm, List.take_length] at rx
      have gp : G p = none := by
        cases c : G p with
        | none => rfl
        | some o => have := nG p (by rw [c]; exact fun z => nomatch z); rw [hp] at this; cases this
      refine ⟨lk, q (.ref Dn) (upd G Dn (.lst us)) _ ⟨eH, fun z o hz => ?_, fun z hz => ?_⟩ (Rp.mkL upd_same (rx.mono (Ex.new gD)))⟩
      · by_cases e1 : z = Dn
        · subst e1
          rw [upd_same] at hz
          rw [upd_ne Dp, hxD]; exact hz
        · rw [upd_ne e1] at hz
          have e2 : z ≠ p := fun e => by rw [e, gp] at hz; cases hz
          rw [upd_ne e2]; exact eG _ _ hz
      · by_cases e1 : z = Dn
        · rw [e1]; exact hD0
        · rw [upd_ne e1] at hz; exact nG z hz⟩⟩⟩
end
/-- the parts from which no plan with at most s steps leads -/
def fewer (xs : List En) (s : Int) (q : List Int) : Bool := !decide (q ∈ xs.map Prod.fst) || decide (s < stepsOf xs q)
def spFW : Sp := fun vs H Q _ => ∃ F t f kt kf ps on xs s, vs = [.ref t, .ref f, .int s] ∧ Ex F H ∧ F t = none ∧ H t = some (.dT kt) ∧ Tab F kt (tabOf ps on) ∧ t ≠ f ∧ H f = some (.dT kf) ∧ Tab F kf (xs.map ent) ∧ ps.length < 50000 ∧
  ∀ v G H2, Nw H G H2 → Rp G v (lli (ps.filter (fewer xs s))) → Q v H2
end Bp
namespace Bp
open PySem PySem.Spec PyProof.Rows L2
open Evl (Ex)
def R_need_steps (ds : List D) (d : D) : Prop := ∃ x, ds = [x] ∧ noObj x = true ∧ isWhole x 151 = true ∧ d = .non
def W_need_steps (A : Ad) (ds : List D) (C : Addr) : Prop := ∃ x, ds = [x] ∧ noObj x = true ∧ isWhole x 151 = false ∧ C = A.bs
/-- failing: what it refuses, and what it shows -/
def spFail (A : Ad) : Sp := fun vs H Q E => ∃ F l dd w v0 v1 v2 y x, vs = [v0, v1, v2] ∧ Ex F H ∧ Rp F v0 (hsD A.hs (li l) (llli dd) (li w)) ∧ Hs l dd w ∧ Rp F v1 y ∧ Rp F v2 x ∧ noObjs y = true ∧ noObj x = true ∧
  ((isGuess y l.length = false ∧ ∀ H2, Ex H H2 → E (.ref A.bg) none H2) ∨ ∃ g, y = li g ∧ isGuess (li g) l.length = true ∧
    ((isWhole x 151 = false ∧ ∀ H2, Ex H H2 → E (.ref A.bs) none H2) ∨ ∃ s : Nat, x = .int (s : Int) ∧ s ≤ 150 ∧ ∀ o H2, LeastIs l dd w g o →
      (∀ m, o = some m → m ≤ (s : Int) → Ex H H2 → Q .non H2) ∧
      ((∀ m, o = some m → (s : Int) < m) → ∀ v G ps, Closed l dd g ps → Nw H G H2 → Rp G v (.lst ((List.range (s + 1)).map fun k => lli (ps.filter fun q => !leadIn l dd w k q))) → Q v H2)))
theorem fewer_is {l : List Int} {dd : List (List (List Int))} {w : List Int} {ps : List (List Int)} {xs : List En} (fa : FoundAll l dd w ps xs) (nd : (xs.map Prod.fst).Nodup) (k : Nat) : ps.filter (fewer xs (k : Int)) = ps.filter fun q => !leadIn l dd w k q := by
  refine List.filter_congr fun q hq => ?_
  unfold fewer
  by_cases c : q ∈ xs.map Prod.fst
  · rw [decide_eq_true c, Bool.not_true, Bool.false_or]
    obtain ⟨x, hx, rfl⟩ := List.mem_map.mp c
    obtain ⟨m, h1, h2⟩ := fa.e x hx
    rw [steps_some nd hx, h1]
    by_cases lt : k < m
    · rw [decide_eq_true (by omega)]
      have : leadIn l dd w k x.1 = false := by
        rw [Bool.eq_false_iff]
        intro z
        have := before_iff.mpr ⟨k, lt, z⟩
        rw [h2.n] at this; cases this
      rw [this]; rfl
    · rw [decide_eq_false (by omega), lead_up (by omega) h2.y]; rfl
  · rw [decide_eq_false c]
    have : leadIn l dd w k q = false := by
      rw [Bool.eq_false_iff]
      intro z
      exact c ((fa.k q).mpr ⟨hq, k, z⟩)
    rw [this]; rfl
end Bp
namespace L2
open PySem PySem.Spec PyProof.Rows PySem.W LamX PySem.Calls
section
variable {P : Program} {w : World} {A : Around} {s : Shared}
/-! a lambda of one parameter, called -/
theorem lam1_call {E : Value → Shared → Prop} {Q : Value → Shared → Prop} {f c' : Addr} {qual : Str} {params : Arguments} {body : Expr} {scope : Scope} {cl : List (Str × Addr)} {pm ctv : Value} {x : Str} {u : Value}
    (hroom : A.depth < recursionLimit) (ho : s.heap.get? f = some (kla_obj "<lambda>" qual params body scope cl pm c' ctv))
    (hco : scope.isCoroutine = false) (hgen : scope.isGenerator = false) (hk : scope.kind = .function) (hcell : ∀ y ∈ scope.names, y.2 ≠ .cell) (hx : scope.names.lookup x = some .local)
    (hcd : s.heap.CodeRec (.ref c') qual) (lim : s.heap.NoLimit) (hbind : bindArgs (kla_fn "<lambda>" qual params body scope cl pm (.ref c') ctv) ⟨[u], []⟩ = pure [(x, u)])
    (h : ∀ h₁ : Heap, h₁.Ns s.heap.objs.size (fun y => ([(x, u)] : List (Str × Value)).reverse.lookup y) → (∀ b o, s.heap.get? b = some o → h₁.get? b = some o) →
      wpAny (model P w) (A.deeper (envX qual scope s.heap.objs.size f (.ref c') cl)) (eval body (envX qual scope s.heap.objs.size f (.ref c') cl)) Q (fun _ _ => False) { s with heap := h₁, toks := s.toks + 1 }) :
    wpAny (model P w) A (call (.ref f) [u]) Q E s := by
  refine wpAny_call (kla_callFunE hroom ho rfl hco hgen rfl hcd ?_)
  rw [hbind]
  refine wpAny_pure (wpAny_newFunctionEnv hcell (fun y hy => ?_) (fun h₁ hns hsb => ⟨lim.fresh _ hsb, ?_⟩) hk)
  · obtain rfl := List.mem_singleton.mp hy
    exact hx
  · have kp : ∀ b o, s.heap.get? b = some o → h₁.get? b = some o := fun b o e => hsb.extBut b o (Nat.ne_of_lt (Heap.lt_size e)) (Heap.get?_push_of_some _ e)
    exact kla_codeExpr (wpAny_mono (h h₁ hns kp) (fun v s' q => q) fun e s' q => q.elim)
/-- its body: -d[x][0] -/
theorem lam1_body {E : Value → Shared → Prop} {Q : Value → Shared → Prop} {env : Env} {H : Hp} {fn x : Str} {m : Str → Option Value} {c d q t2 : Addr} {kvs : List (List L2.Key × V)} {ks : List L2.Key} {n : Int} {vs : List V} {k0 : Nat} {p1 p2 p3 p4 p5 p6 : Pos}
    (hk : env.scope.kind = .function) (hf : env.kindOf fn = some .free) (hc : env.cells.lookup fn = some c) (hcell : s.heap.IsCell c (some (.ref d))) (hl : env.kindOf x = some .local) (hns : s.heap.Ns env.locals m) (hm : m x = some (.ref q))
    (hu : A.units + 1 < cLine) (ok : HOk P w H s.heap) (hd : Rd H d (.dT kvs)) (hq : H q = some (.tup (ks.map kV))) (hv : valV kvs ks = some (.ref t2)) (ht : H t2 = some (.tup (.int n :: vs)))
    (df : (fn == ("__debug__" : Str)) = false) (dc : (fn == ("__classdict__" : Str)) = false) (dx : (x == ("__debug__" : Str)) = false)
    (h : ∀ t tk, Q (.int (-n) t) { s with toks := tk }) :
    wpAny (model P w) A (eval (.UnaryOp .USub (.Subscript (.Subscript (.Name fn p1) (.Name x p2) p3) (.Constant (.int 0) k0 p4) p5) p6) env) Q E s := by
  refine UnaryOp_ (Subscript_ (subD_of PySem.F.slot_dict_getitem.lookup (fun _ _ => rfl) (wpAny_Name (wpAny_loadName_free hk hf hc hcell ?_ dc) df)))
  refine wpAny_Name (wpAny_loadName_local hk hl hns hm ?_) dx
  obtain ⟨z, hsys, xs, rel, dd⟩ := dt_rd ok hd
  refine ⟨dd.typeIs, ?_⟩
  obtain ⟨w', hw, rw'⟩ := RelO.some_of (v := .ref t2) (o := (atKey xs ks).map (·.2)) (by rw [← hv]; exact rel.val ks)
  cases rw'
  obtain ⟨p, hp, hp2⟩ := Option.map_eq_some_iff.mp hw
  refine wpAny_getItem_heap (tupleKind_room_in1 hu) (key_of ok hq) dd hp ?_
  rw [hp2]
  refine wpAny_Constant_int ?_
  obtain ⟨_, its, r, o, h1, h2, e, h3⟩ := (show ObjOk P w H s.heap t2 (.tup (.int n :: vs)) from ok t2 _ ht)
  cases r with
  | cons r0 r =>
    rename_i u us
    obtain ⟨t, rfl⟩ := r0
    refine subscriptTail_builtinR (x := .int n t) (T := "tuple") ⟨o, h1, h2⟩ slot_tuple_getitem.lookup (getItem_tuple (items := (Value.int n t :: us).toArray) (j := 0) (x := .int n t) ⟨o, h1, h2, e, h3⟩ (by decide) (by decide) ?_ (by simp) ⟨rfl, ?_⟩) (by with_unfolding_all rfl)
    · simp [seqIndex?]
    · exact PyProof.Rows.neg_int (h _ _)
end
end L2
namespace L2
open PySem PySem.Spec PyProof.Rows PySem.W LamX PySem.Calls
section
variable {X : Cx} {pins : List (Addr × Obj)} {σ : L2.St} {H : Hp} {s : Shared}
theorem vals_refs0 : ∀ bs : List Addr, Vals (bs.map V.ref) (bs.map Value.ref)
  | [] => .nil
  | b :: bs => .cons rfl (vals_refs0 bs)
theorem each_refs {H : Hp} : ∀ {out : List Value} {ms : List (List L2.Key)}, EachIs (fun v m => ∃ q, v = Value.ref q ∧ H q = some (.tup (List.map kV m))) out ms →
    ∃ qs : List Addr, out = qs.map Value.ref ∧ Paired (fun q m => H q = some (.tup (List.map kV m))) qs ms
  | _, _, .nil => ⟨[], rfl, .nil⟩
  | _, _, .cons h t => by
    obtain ⟨q, rfl, hq⟩ := h
    obtain ⟨qs, rfl, hp⟩ := each_refs t
    exact ⟨q :: qs, rfl, .cons hq hp⟩
/-- sorted(a, key=f): a a dict with tuple keys, f the lambda x: -d[x][0] -/
theorem sorted_dictLam {Q : VK} {a d f c c' : Addr} {kvs kf : List (List L2.Key × V)} {N : List L2.Key → Int} {qual fn x : Str} {params : Arguments} {scope : Scope} {cl : List (Str × Addr)} {pm ctv : Value} {k0 : Nat} {p1 p2 p3 p4 p5 p6 : Pos}
    (I : Inv X pins σ H s) (hr : Room 2 X.A) (ha : Rd H a (.dT kvs)) (hd : Rd H d (.dT kf)) (hN : ∀ ks ∈ kvs.map Prod.fst, ∃ t2 vs, valV kf ks = some (.ref t2) ∧ H t2 = some (.tup (.int (N ks) :: vs)))
    (hf : s.heap.get? f = some (kla_obj "<lambda>" qual params (.UnaryOp .USub (.Subscript (.Subscript (.Name fn p1) (.Name x p2) p3) (.Constant (.int 0) k0 p4) p5) p6) scope cl pm c' ctv))
    (hco : H c' = some (CodeO c' qual)) (s1 : scope.isCoroutine = false) (s2 : scope.isGenerator = false) (s3 : scope.kind = .function) (s4 : ∀ y ∈ scope.names, y.2 ≠ .cell) (s5 : scope.names.lookup x = some .local) (s6 : scope.names.lookup fn = some .free)
    (hc : cl.lookup fn = some c) (hcell : s.heap.IsCell c (some (.ref d)))
    (hbind : ∀ u : Value, bindArgs (kla_fn "<lambda>" qual params (.UnaryOp .USub (.Subscript (.Subscript (.Name fn p1) (.Name x p2) p3) (.Constant (.int 0) k0 p4) p5) p6) scope cl pm (.ref c') ctv) ⟨[u], []⟩ = pure [(x, u)])
    (df : (fn == ("__debug__" : Str)) = false) (dc : (fn == ("__classdict__" : Str)) = false) (dx : (x == ("__debug__" : Str)) = false)
    (q : ∀ (qs : List Addr) (ms : List (List L2.Key)) (p : Addr), ms.Perm (kvs.map Prod.fst) → ms.Pairwise (fun m n => N n ≤ N m) → Paired (fun q m => H q = some (.tup (m.map kV))) qs ms → H p = none → Q (.ref p) (upd H p (.lst (qs.map V.ref)))) :
    wpAny (model X.prog X.w) X.A (call (.builtin "sorted") [.ref a] [(Str.ofString "key", .ref f)]) (EP X pins σ Q) X.xe s := by
  obtain ⟨z, hsys, xs, rel, dd⟩ := dt_rd I.hok ha
  have lx : kvs.length = xs.length := Paired.length rel
  obtain ⟨es, ep, raw, hsz, hent⟩ := dd.raw
  refine call_function_entry_kw kind_sorted plain_sorted entry_sorted (ksk_s1 _ _) ?_
  unfold Builtin.«sorted»
  refine wpAny_bind (m := checkCount "sorted" 1 1 _) (wpAny_pure ?_)
  refine wpAny_bind (kdu_collect (A := X.A.in1) (KdlSrc.rawDict hsys) hr.hd raw (by rw [hsz, ← lx]; exact z) fun h1 tk acc hk hacc => ?_)
  have hal : acc.toList.length = kvs.length := by rw [Array.length_toList, hacc.1, hsz, lx]
  have hE : EachIs (fun v m => ∃ q, v = Value.ref q ∧ H q = some (.tup (List.map kV m))) acc.toList (kvs.map Prod.fst) := by
    refine EachIs.of_zip (by rw [List.length_map]; exact hal) fun p hp => ?_
    obtain ⟨j, hj⟩ := List.mem_iff_getElem?.mp hp
    obtain ⟨g1, g2⟩ := List.getElem?_zip_eq_some.mp hj
    rw [Array.getElem?_toList] at g1
    obtain ⟨hi, ev⟩ := hacc.2 j _ g1
    obtain ⟨y, y1, y2, _, _⟩ := hent j hi
    rw [List.getElem?_map, Option.map_eq_some_iff] at g2
    obtain ⟨kv, k1, k2⟩ := g2
    obtain ⟨y', y3, y4, y5, _⟩ := paired_get rel k1
    rw [y1] at y3
    cases y3
    exact ⟨y.2.1, ev.trans y2, by rw [← k2]; exact y5⟩
  refine wpAny_bind (wpAny_newList ?_ (by rw [hal]; exact z))
  have hoL : (h1.push (seqObj "list" acc.toList.toArray 0)).get? h1.objs.size = some (seqObj "list" acc.toList.toArray 0) := Heap.get?_push_size _ rfl
  have I1 : Inv X pins σ H { s with heap := h1, toks := tk } := I.kept hk
  have kp : ∀ (h : Heap), KeepsBut h1.objs.size (h1.push (seqObj "list" acc.toList.toArray 0)) h → ∀ b o, h1.get? b = some o → h.get? b = some o := fun h k b o e => k b o (Nat.ne_of_lt (Heap.lt_size e)) (Heap.get?_push_of_some _ e)
  have lim : s.heap.NoLimit := I.nolimit
  have un := hr.un
  have dp := hr.dp
  show wpAny _ _ _ _ _ { s with heap := h1.push (seqObj "list" acc.toList.toArray 0), toks := tk }
  refine wpAny_bind (wpAny_holding (list_sort_key_data (s := { s with heap := h1.push (seqObj "list" acc.toList.toArray 0), toks := tk }) (A := X.A.in1) (b := false) (fun m => PyData.int (-(N m))) hoL hE (AllAlike.of fun _ _ => by simp [alike]) (Sortable.others fun _ => ⟨(by simp), (by simp)⟩) (by rw [List.length_map]; exact z) (fun m _ => ?_) (ksk_l1 _ _) (ksk_t1 _ _) (fun v m hv hm h tk2 kb => ?_) fun out cc h2 tk2 kb ho _ hE2 => ?_))
  · show X.A.units + 1 + 1 + (PyData.int (-(N m))).depth < cLine
    have : (PyData.int (-(N m))).depth = 0 := by simp [PyData.depth]
    omega
  · obtain ⟨q0, rfl, hq⟩ := hv
    obtain ⟨t2, vs, hv2, ht2⟩ := hN m hm
    have kp2 : ∀ b o, s.heap.get? b = some o → h.get? b = some o := fun b o e => kp h kb b o (hk b o e)
    obtain ⟨⟨oc, vc, tc, hoc, hdc, hvc⟩, _, _⟩ := I.hok c' _ hco
    refine lam1_call (s := { s with heap := h, toks := tk2 }) (by show X.A.depth < recursionLimit; omega) (kp2 _ _ hf) s1 s2 s3 s4 s5 ⟨c', oc, vc, tc, rfl, kp2 _ _ hoc, hdc, hvc⟩ (lim.keeps kp2) (hbind _) fun h3 hns kp3 => ?_
    have cell3 : h3.IsCell c (some (.ref d)) := by
      obtain ⟨o, ho, hdat⟩ := hcell
      exact ⟨o, kp3 _ _ (kp2 _ _ ho), hdat⟩
    refine lam1_body (s := { s with heap := h3, toks := tk2 + 1 }) (H := H) (m := fun y => ([(x, Value.ref q0)] : List (Str × Value)).reverse.lookup y) (fn := fn) (x := x) (q := q0) (ks := m) (n := N m) s3 s6 hc cell3 s5 hns (by simp) ?_ ((I.hok.kept kp2).kept kp3) hd hq hv2 ht2 df dc dx fun t tk4 => ?_
    · show X.A.units + 1 + 1 + 3 + 1 < cLine
      omega
    · exact ⟨h3, tk4, rfl, kp3, .int _ _⟩
  · obtain ⟨qs, rfl, hp⟩ := each_refs hE2
    have perm := List.mergeSort_perm (kvs.map Prod.fst) (dataLe false fun m => PyData.int (-(N m)))
    have hl := hp.length
    have I2 := I1.laid (a := h1.objs.size) (o := .lst (qs.map V.ref)) (h' := h2) (t' := tk2) (fun b o e => kp h2 kb b o e) (Nat.le_refl _) ⟨by rw [List.length_map, hl, perm.length_eq, List.length_map]; exact z, qs.map Value.ref, cc, vals_refs0 qs, by simpa using ho⟩
    refine wpAny_pure ⟨_, rfl, .ref h1.objs.size, _, I2, rfl, q qs _ h1.objs.size perm ?_ hp (I1.hok.fresh (Nat.le_refl _))⟩
    have pw := sort_pairwise (le := dataLe false fun m : List L2.Key => PyData.int (-(N m))) (by rw [dataLe_int]; exact ⟨fun a b c => by simp only [decide_eq_true_eq]; omega, fun a b => by simp only [decide_eq_true_eq]; omega⟩) (kvs.map Prod.fst)
    refine pw.imp fun {a b} h => ?_
    rw [dataLe_int] at h
    have := of_decide_eq_true h
    omega
end
end L2
namespace L2
open PySem PySem.Spec PyProof.Rows PySem.W LamX PySem.Calls
def srtQ (TT : List (Addr × Str)) (i : Nat) (σ : St) (Q : VK) (v : V) (H1 : Hp) : Prop := Tabs TT H1 ∧ ∀ H2, ExtN H1 H2 → Tabs TT H2 →
  ∃ (a d : Addr) (kvs kf : List (List L2.Key × V)) (N : List L2.Key → Int), v = .ref a ∧ σ[i]? = some (some (.ref d)) ∧ Rd H2 a (.dT kvs) ∧ Rd H2 d (.dT kf) ∧ (∀ ks ∈ kvs.map Prod.fst, ∃ t2 vs, valV kf ks = some (.ref t2) ∧ H2 t2 = some (.tup (.int (N ks) :: vs))) ∧
  ∀ (qs : List Addr) (ms : List (List L2.Key)) (p : Addr), ms.Perm (kvs.map Prod.fst) → ms.Pairwise (fun m n => N n ≤ N m) → Paired (fun q m => H2 q = some (.tup (m.map kV))) qs ms → H2 p = none → Q (.ref p) (upd H2 p (.lst (qs.map V.ref)))
def tSortL (TT : List (Addr × Str)) (i : Nat) (te : TE) : TE := fun σ H Q => te σ H (srtQ TT i σ Q)
def srtQ1 (TT : List (Addr × Str)) (i : Nat) (σ : St) (Q : VK) : List V → Hp → Prop
  | [v], H1 => srtQ TT i σ Q v H1
  | _, _ => False
theorem bt_sortedK : bootBuiltins ("sorted" : Str) = some (.builtin "sorted") := by decide +kernel
theorem pe_sortedLam {X : Cx} {TT : List (Addr × Str)} {e : Expr} {te : TE} {c P : Addr} {fn x : Str} {params : Arguments} {scope : Scope} {k0 i : Nat} {p1 p2 p3 p4 p5 p6 lpos kp p pos : Pos}
    (hg : Gl X ("sorted" : Str)) (hm : X.mg ("sorted" : Str) = none) (he : PE X e te) (hr : Room 2 X.A)
    (TB : TabB X.base X.mg c P) (hcode : X.env.code = .ref c) (hmT : (P, X.env.qual ++ "<lambda>") ∈ TT) (hu : ∀ p ∈ TT, p.1 = P → p.2 = X.env.qual ++ "<lambda>") (hdef : defaultsOf params X.env = ([], []))
    (s1 : scope.isCoroutine = false) (s2 : scope.isGenerator = false) (s3 : scope.kind = .function) (s4 : ∀ y ∈ scope.names, y.2 ≠ .cell) (s5 : scope.names.lookup x = some .local) (s6 : scope.names.lookup fn = some .free)
    (sf : ∀ y ∈ scope.names, y.2 = .free → X.env.scope.names.lookup y.1 = some .cell) (hN : X.N[i]? = some fn)
    (hbind : ∀ (q : Str) (cl : List (Str × Addr)) (pm cv ctv u : Value), bindArgs (kla_fn "<lambda>" q params (.UnaryOp .USub (.Subscript (.Subscript (.Name fn p1) (.Name x p2) p3) (.Constant (.int 0) k0 p4) p5) p6) scope cl pm cv ctv) ⟨[u], []⟩ = pure [(x, u)])
    (hse0 : starEach [e] X.env = (false, eval e X.env) :: starEach [] X.env := by rfl) (hse : backTo pos (starEach [e] X.env) = (false, eval e X.env) :: backTo pos (starEach [] X.env) := by rfl) (hpl : (backTo pos (starEach [e] X.env)).any (·.1) = false := by rfl)
    (df : (fn == ("__debug__" : Str)) = false := by decide) (dc : (fn == ("__classdict__" : Str)) = false := by decide) (dx : (x == ("__debug__" : Str)) = false := by decide) :
    PE X (.Call (.Name "sorted" p) [e] [⟨some "key", .Lambda params (.UnaryOp .USub (.Subscript (.Subscript (.Name fn p1) (.Name x p2) p3) (.Constant (.int 0) k0 p4) p5) p6) scope lpos, kp⟩] pos) (tSortL TT i te) := by
  refine ⟨fun pins s σ H Q I h => ?_⟩
  refine wpAny_Call_Name_kw (ld_blt I hg hm bt_sortedK ?_ (by decide) (by decide))
  have hfree : ∀ y ∈ scope.names, y.2 = .free → ∃ c, X.env.cells.lookup y.1 = some c := fun y hy e => I.ok.has _ (.inl (sf y hy e))
  refine callWith_kw (thn ((pa_cons (X := X) he pa_nil hse0).run pos pins s σ H (srtQ1 TT i σ Q) I h) fun us s1' ⟨vs, H1, I1, r1, q1⟩ => ?_) hse hpl
  match vs, q1 with
  | [v], ⟨hT, q1⟩ =>
    obtain ⟨u, rfl, ru⟩ := vals1 r1
    show wpAny _ _ (evalAll [do let v ← eval (.Lambda params _ scope lpos) X.env; standAt pos; pure v]) _ _ s1'
    refine wpAny_evalAll_cons (wpAny_bind (lam_make2 I1 TB hcode hmT hu hT hdef hfree fun f c' pm ctv H2 s' I2 eN T2 hf hfn hfr hco => wpAny_bind (wpAny_standAt (wpAny_pure ?_))))
    refine wpAny_evalAll_nil ?_
    obtain ⟨a, d, kvs, kf, N, rfl, hi, ra, rd, hNs, q⟩ := q1 H2 eN T2
    obtain rfl : u = Value.ref a := ru
    obtain ⟨m, hn, hl⟩ := I2.loc
    have hcf : X.env.scope.names.lookup fn = some .cell := sf _ (PySem.mem_of_lookup s6) rfl
    obtain ⟨u', r', lk⟩ := hl i fn _ hN hi (.inr (.inl hcf))
    obtain rfl : u' = Value.ref d := r'
    rcases lk with ⟨hk, _⟩ | ⟨_, c2, hc2, hcell⟩
    · exact absurd (hcf.symm.trans hk) (fun z => nomatch z)
    · have hcl : (cloFrom X.env.cells scope.names []).lookup fn = some c2 := by
        obtain ⟨c3, h3⟩ := mem_lookup (cloFrom_has (cells := X.env.cells) (acc := []) (PySem.mem_of_lookup s6))
        rcases cloFrom_mem (PySem.mem_of_lookup h3) with hm' | ⟨h1, h2⟩
        · cases hm'
        · rw [h3, h2, hc2]; rfl
      exact sorted_dictLam I2 hr ra rd hNs hf hco s1 s2 s3 s4 s5 s6 hcl hcell (hbind _ _ _ _ _) df dc dx q
end L2
namespace L2
open PySem PySem.Spec PyProof.Rows
/-! a def that makes a lambda: its code object stands at c -/
structure FunT (K : PySem.W.Frag) (x qual : Str) (st : Stmt) (f : Addr) (fd : FuncData) (c : Addr) : Prop where
  ex : ∃ (oc : Value) (od : Option Addr) (kV doc pm : Value) (an : Option Addr) (ct : Value) (osl : Array (Option Value)),
    fd = PySem.W.fnOf x qual (defArgs st) (defBody st) (defScope st) .none kV doc pm an (.ref c) ct ∧ K.lookup f = some ⟨oc, od, .func fd, osl⟩ ∧ PySem.W.codeIn K (.ref c) qual = true
section
variable {P : Program} {w : World} {K : PySem.W.Frag} {mg : Str → Option Value} {base : Heap}
theorem FunT.ok {x qual : Str} {st : Stmt} {f c : Addr} {fd : FuncData} {N ps : List Str} {k : Nat} {sp : Sp} (T : FunT K x qual st f fd c) (S : FnScope N ps (defScope st)) (len : ∀ vs H Q E, sp vs H Q E → vs.length = ps.length)
    (body : ∀ (A : Around) (outer : List Env) (s : Shared) (H : Hp) (vs : List V) (Q : VK) (E : XK), Room k (A.deeper (envOfC qual (defScope st) s.heap.objs.size f (.ref c))) → sp vs H Q E →
      ∃ t, PSs (cxOf CX0 P w K mg base N qual (defScope st) f (.ref c) A outer s H E).nox (defBody st) t ∧ t { nx := fun _ H' => Q .non H', rt := Q } (start N vs) H) : FnOk P w K mg base CX0 (k + 1) f fd ps sp := by
  obtain ⟨oc, od, kV, doc, pm, an, ct, osl, rfl, lk, hc⟩ := T.ex
  refine fn_of lk hc S len fun A outer s H vs Q E r hs => ?_
  obtain ⟨t, h1, h2⟩ := body A outer s H vs Q E r hs
  exact ⟨t, h1.nox, h2⟩
end
end L2
namespace Bp
open PySem PySem.Spec PyProof.Rows L2
open Evl (Ex)
/-! ## tables of code objects grow: frozen parts without any -/
def NoT (F : Hp) : Prop := ∀ b ps, F b ≠ some (.tbl ps)
def rt (F : Hp) : Hp := fun b => match F b with
  | some (.tbl _) => none
  | o => o
section
variable {F H H2 H3 F2 F3 : Hp} {b : Addr} {o : HO} {v : V} {d : D}
theorem rt_some (h : F b = some o) (n : ∀ ps, o ≠ .tbl ps) : rt F b = some o := by
  unfold rt
  rw [h]
  cases o <;> first | rfl | exact absurd rfl (n _)
theorem rt_get (h : rt F b = some o) : F b = some o ∧ ∀ ps, o ≠ .tbl ps := by
  unfold rt at h
  split at h
  · cases h
  · rename_i z
    exact ⟨h, fun ps e => z ps (by rw [h, e])⟩
theorem rt_none (h : F b = none) : rt F b = none := by unfold rt; rw [h]
theorem rt_ex : Ex (rt F) F := fun _ _ h => (rt_get h).1
theorem rt_not : NoT (rt F) := fun b ps h => (rt_get h).2 ps rfl
theorem ex_rt (n : NoT F) (e : Ex F H) : Ex F (rt H) := fun b o h => rt_some (e b o h) fun ps z => n b ps (by rw [h, z])
theorem ex_extN (n : NoT F) (e : Ex F H) (x : LamX.ExtN H H2) : Ex F H2 := fun b o h => x b o (e b o h) fun ps z => n b ps (by rw [h, z])
theorem ex_extN' (e : Ex H H2) : LamX.ExtN H H2 := fun b o h _ => e b o h
theorem sql_rt {K : PySem.W.Frag} {a : Addr} {xs : List V} (h : SqL K F a xs) : SqL K (rt F) a xs := by
  rcases h with (h | ⟨o, h⟩) | h
  · exact .inl (.inl (rt_some h fun ps z => by cases z))
  · exact .inl (.inr ⟨o, rt_some h fun ps z => by cases z⟩)
  · exact .inr h
theorem Rp.rt : ∀ {v : V} {d : D}, Rp F v d → Rp (rt F) v d
  | _, _, .non => .non
  | _, _, .bl b => .bl b
  | _, _, .int i => .int i
  | _, _, .str x => .str x
  | _, _, .lst h n r => .lst (rt_some h fun ps z => by cases z) n fun i v d a b => (r i v d a b).rt
  | _, _, .tup h n r => .tup (rt_some h fun ps z => by cases z) n fun i v d a b => (r i v d a b).rt
  | _, _, .dct0 h => .dct0 (rt_some h fun ps z => by cases z)
  | _, _, .obj h m n r => .obj (rt_some h fun ps z => by cases z) m n fun i v d a b => (r i v d a b).rt
  | _, _, .scr h => .scr (sql_rt h)
theorem Rps.rt {vs : List V} {ds : List D} (h : Rps F vs ds) : Rps (Bp.rt F) vs ds := ⟨h.n, fun i v d a b => (h.r i v d a b).rt⟩
/-- what does not change -/
def fixd (o : HO) : Prop := (∃ ps, o = .tbl ps) ∨ ∃ xs, o = .tup xs
/-- as Nx, but tables may have grown -/
structure Nt (F H F2 H2 : Hp) : Prop where
  f : Ex F F2
  h : LamX.ExtN H H2
  fh : Ex F2 H2
  t : NoT F2
  n : ∀ p o, H p = some o → ¬ fixd o → F p = none → F2 p = none
theorem Nt.refl (e : Ex F H) (n : NoT F) : Nt F H F H := ⟨Ex.refl F, LamX.ExtN.refl H, e, n, fun _ _ _ _ h => h⟩
theorem Nt.trans (a : Nt F H F2 H2) (b : Nt F2 H2 F3 H3) : Nt F H F3 H3 :=
  ⟨a.f.trans b.f, a.h.trans b.h, b.fh, b.t, fun p o h1 h2 h3 => b.n p o (a.h p o h1 fun ps e => h2 (.inl ⟨ps, e⟩)) h2 (a.n p o h1 h2 h3)⟩
theorem Nx.nt (a : Nx F H F2 H2) (n : NoT F) : Nt F H (Bp.rt F2) H2 :=
  ⟨ex_rt n a.f, ex_extN' a.h, rt_ex.trans a.fh, rt_not, fun p o h1 _ h3 => rt_none (a.n p (by rw [h1]; exact fun z => nomatch z) h3)⟩
/-- made anew in G, but tables may have grown -/
structure NwT (H G H2 : Hp) : Prop where
  h : LamX.ExtN H H2
  g : Ex G H2
  t : NoT G
  n : ∀ p o, H p = some o → (∀ ps, o ≠ .tbl ps) → G p = none
theorem Nw.nwT {G : Hp} (a : Nw H G H2) : NwT H (Bp.rt G) H2 := ⟨ex_extN' a.h, rt_ex.trans a.g, rt_not, fun p o h _ => by
  cases q : Bp.rt G p with
  | none => rfl
  | some u =>
    have := a.n p (by rw [(rt_get q).1]; exact fun z => nomatch z)
    rw [h] at this; cases this⟩
theorem NwT.pre {G : Hp} (x : LamX.ExtN H H2) (a : NwT H2 G H3) : NwT H G H3 := ⟨x.trans a.h, a.g, a.t, fun p o h n => a.n p o (x p o h n) n⟩
/-- frozen besides what was -/
theorem NwT.nt {G : Hp} (e : Ex F H) (n : NoT F) (a : NwT H G H2) : Nt F H (un F G) H2 ∧ Ex G (un F G) := by
  have d : ∀ p, G p ≠ none → F p = none := fun p h => by
    cases q : F p with
    | none => rfl
    | some o => exact absurd (a.n p o (e _ _ q) fun ps z => n p ps (by rw [q, z])) h
  refine ⟨⟨un_l, a.h, un_ex (ex_extN n e a.h) a.g, fun b ps z => ?_, fun p o h1 h2 h3 => ?_⟩, un_r d⟩
  · have e1 : un F G b = F b ∨ un F G b = G b := by
      unfold un
      cases q : F b with
      | none => exact .inr rfl
      | some o => exact .inl rfl
    rcases e1 with e1 | e1
    · exact n b ps (e1.symm.trans z)
    · exact a.t b ps (e1.symm.trans z)
  · cases q : un F G p with
    | none => rfl
    | some u =>
      rcases un_some (G1 := F) (G2 := G) (p := p) (by rw [q]; exact fun z => nomatch z) with k | k
      · exact absurd h3 k
      · exact absurd (a.n p o h1 fun ps e => h2 (.inl ⟨ps, e⟩)) k
end
abbrev lamQ : Str := (("followed" : Str) ++ ".<locals>.") ++ "<lambda>"
def TabOk (LP : Addr) (H : Hp) : Prop := LamX.TabS H LP lamQ
section
variable {LP : Addr} {F H H2 : Hp}
theorem TabOk.s (h : TabOk LP H) : LamX.Tabs [(LP, lamQ)] H := fun p hp => by rw [List.mem_singleton.mp hp]; exact h
theorem TabOk.of (h : LamX.Tabs [(LP, lamQ)] H) : TabOk LP H := h _ (List.mem_singleton.mpr rfl)
theorem TabOk.up (h : TabOk LP H) (e : Ex H H2) : TabOk LP H2 := LamX.TabS.ext h e
theorem TabOk.mut {a : Addr} {o u : HO} (h : TabOk LP H) (ha : H a = some u) (n1 : ∀ ps, u ≠ .tbl ps) (n2 : u ≠ LamX.CodeO a lamQ) : TabOk LP (upd H a o) := by
  obtain ⟨ps, h1, h2, h3⟩ := h
  refine ⟨ps, by rw [upd_ne (fun z => n1 ps (by rw [z, ha] at h1; exact Option.some.inj h1))]; exact h1, h2, fun pos cv hc => ?_⟩
  obtain ⟨c, e1, e2⟩ := h3 pos cv hc
  refine ⟨c, e1, ?_⟩
  rw [upd_ne (fun z => n2 (by rw [z, ha] at e2; exact Option.some.inj e2))]
  exact e2
theorem code_ne {a : Addr} {q : Str} {vs : List V} : HO.lst vs ≠ LamX.CodeO a q := fun z => by unfold LamX.CodeO at z; cases z
theorem TabOk.mutL {a : Addr} {vs : List V} {o : HO} (h : TabOk LP H) (ha : H a = some (.lst vs)) : TabOk LP (upd H a o) := h.mut ha (fun ps z => by cases z) code_ne
theorem TabOk.new {a : Addr} {o : HO} (h : TabOk LP H) (ha : H a = none) : TabOk LP (upd H a o) := h.up (Ex.new ha)
theorem TabOk.ne {b : Addr} (h : TabOk LP H) (n : NoT F) (e : Ex F H) : F LP = none := by
  obtain ⟨ps, h1, _⟩ := h
  cases q : F LP with
  | none => rfl
  | some o => have := e _ _ q; rw [h1] at this; exact absurd (this ▸ q) (n LP ps)
end
def freeB (sc scope : Scope) : Bool := scope.names.all fun y => !decide (y.2 = .free) || decide (sc.names.lookup y.1 = some .cell)
theorem free_by {sc scope : Scope} (h : freeB sc scope = true) : ∀ y ∈ scope.names, y.2 = .free → sc.names.lookup y.1 = some .cell := fun y hy e => by
  have := List.all_eq_true.mp h y hy
  rw [e] at this
  simpa using this
def unK (ks : List L2.Key) : List Int := ks.map fun k => match k with
  | .inl i => i
  | .inr _ => 0
theorem unK_kI (q : List Int) : unK (kI q) = q := by
  unfold unK kI
  rw [List.map_map]
  exact List.map_id q
theorem tab_keys {F : Hp} {kvs : List (List L2.Key × V)} {es : List (List Int × D)} (t : Paired (fun x e => x.1 = kI e.1 ∧ Rp F x.2 e.2) kvs es) : kvs.map Prod.fst = (es.map Prod.fst).map kI := by
  induction t with
  | nil => rfl
  | cons h _ ih => rw [List.map_cons, List.map_cons, List.map_cons, ih, h.1]
theorem Tab.rt {F : Hp} {kvs : List (List L2.Key × V)} {es : List (List Int × D)} (t : Tab F kvs es) : Tab (Bp.rt F) kvs es := ⟨Paired.mapP t.p fun _ _ z => ⟨z.1, z.2.rt⟩, t.nd⟩
theorem paired_rp {H H4 F : Hp} {qs : List Addr} {ms : List (List L2.Key)} (h : Paired (fun q m => H q = some (.tup (m.map kV))) qs ms) (k : ∀ q ∈ qs, ∀ o, H q = some o → F q = some o) (hk : ∀ m ∈ ms, m = kI (unK m)) : Rps F (qs.map V.ref) ((ms.map unK).map ti) := by
  induction h with
  | nil => exact .nil
  | @cons q m qs ms h0 _ ih =>
    refine .cons (Rp.mkT (k q List.mem_cons_self _ h0) ?_) (ih (fun q' hq => k q' (List.mem_cons_of_mem _ hq)) fun m' hm => hk m' (List.mem_cons_of_mem _ hm))
    have e := hk m List.mem_cons_self
    rw [e, kI_V, ← e]
    exact Rps.ints _
/-! ## the parts that one comes to -/
structure Foll (xs : List En) (fs ms : List (List Int)) : Prop where
  nd : ms.Nodup
  sub : ∀ q ∈ ms, q ∈ xs.map Prod.fst
  s : ∀ q ∈ fs, q ∈ ms
  c : ∀ x ∈ xs, x.1 ∈ ms → ∀ r ∈ x.2.2.2, r ∈ ms
  o : ms.Pairwise fun p q => stepsOf xs q ≤ stepsOf xs p
def spFoll (LP : Addr) : Sp := fun vs H Q _ => ∃ F f kf xs fs v1, vs = [.ref f, v1] ∧ Ex F H ∧ NoT F ∧ TabOk LP H ∧ H f = some (.dT kf) ∧ Tab F kf (xs.map ent) ∧ Rp F v1 (lti fs) ∧ xs.length ≤ 256 ∧ fs.length ≤ 8 ∧ (∀ x ∈ xs, x.2.2.2.length ≤ 8) ∧
  (∀ q ∈ fs, q ∈ xs.map Prod.fst) ∧ (∀ x ∈ xs, ∀ r ∈ x.2.2.2, r ∈ xs.map Prod.fst) ∧
  ∀ v ms F2 H2, Nt F H F2 H2 → TabOk LP H2 → Rp F2 v (lti ms) → Foll xs fs ms → Q v H2
def placesOf (ms : List (List Int)) : List (List Int × D) := ms.zipIdx.map fun x => (x.1, .int (x.2 : Int))
def waysFor (l : List Int) (ms fs : List (List Int)) : List (Int × Int) := fs.map fun q => (lookOf l (q.headD 0), (ms.idxOf q : Int))
theorem places_mem {ms : List (List Int)} {q : List Int} (h : q ∈ ms) : (q, D.int (ms.idxOf q : Int)) ∈ placesOf ms := by
  refine List.mem_map.mpr ⟨(q, ms.idxOf q), List.mem_zipIdx_iff_getElem?.mpr ?_, rfl⟩
  have lt := List.idxOf_lt_length_of_mem h
  rw [List.getElem?_eq_getElem lt, List.getElem_idxOf lt]
def spWays (A : Ad) : Sp := fun vs H Q _ => ∃ F l d w fs ms p kp v0 v1, vs = [v0, v1, .ref p] ∧ Ex F H ∧ Rp F v0 (hsD A.hs (li l) d w) ∧ Rp F v1 (lti fs) ∧ F p = some (.dT kp) ∧ Tab F kp (placesOf ms) ∧ fs.length ≤ 8 ∧ (∀ q ∈ fs, q ∈ ms ∧ isGuess (li q) l.length = true) ∧
  ∀ v G H2, Nw H G H2 → Rp G v (waysD (waysFor l ms fs)) → Q v H2
section
variable {K : PySem.W.Frag} {σ : L2.St} {F H : Hp} {te tv ty : TE} {tt : TT} {ta : TA} {D0 : Ends} {tz tu tw : TS} {d : D} {i j m : Nat} {p : Addr}
/-- name = {x: n for n, x in enumerate(..)} -/
theorem q_dcE {ms : List (List Int)} {ws : List Nat} (e : Ex F H) (h : EA ta σ F [lti ms]) (nd : ms.Nodup) (hz : ms.length < 50000)
    (hj : ∀ x y, (((wipe σ ws).set i (some x)).set j (some y))[j]? = some (some y)) (hi : ∀ x y, (((wipe σ ws).set i (some x)).set j (some y))[i]? = some (some x)) (hw : ∀ x y, wipe (((wipe σ ws).set i (some x)).set j (some y)) ws = wipe σ ws)
    (k : ∀ Dn kx F2 H2, Nx F H F2 H2 → F2 Dn = none → H Dn = none → H2 Dn = some (.dT kx) → Tab F2 kx (placesOf ms) → tz D0 (σ.set m (some (.ref Dn))) H2) :
    tSeq (tAsg (tDcT (iEnum K ta) (gTup K 2 (gCons (gName i) (gCons (gName j) gNil))) tYes (tVar j) (tVar i) ws) (gName m)) tz D0 σ H := h F H (Ex.refl F) e _ fun vs F1 H1 n1 r1 => by
  obtain ⟨v, us, rfl, h1, h2⟩ := r1.uncons
  obtain rfl := h2.unnil
  obtain ⟨a, xs, rfl, ha, hr⟩ := h1.list
  have hn : xs.length = ms.length := by rw [hr.n, List.length_map]
  refine ⟨a, xs, rfl, Evl.sq_of (n1.fh _ _ ha), fun Dn hD => ?_⟩
  refine dcT_it (walk_enum (xs := xs)) (fun n H' => ∃ Fi kx, Nx F1 H1 Fi H' ∧ Fi Dn = none ∧ H' Dn = some (.dT kx) ∧ Tab Fi kx ((placesOf ms).take n)) ?_ (fun n H' _ h => ?_) (fun n x H' H'' hlt h y => ?_) (fun H' h => ?_)
  · exact ⟨F1, [], (Nx.refl n1.fh).mut hD (Evl.fresh_back n1.fh hD), Evl.fresh_back n1.fh hD, upd_same, by rw [List.take_zero]; exact Tab.nil⟩
  · obtain ⟨Fi, _, nx, _⟩ := h
    exact Evl.sq_of (nx.fh _ _ (nx.f _ _ ha))
  · obtain ⟨T, x1, y1, rfl, hT, rfl, e1, e2⟩ := y
    obtain rfl := Option.some.inj e1
    obtain ⟨Fi, kx, nx, fD, hxD, tx⟩ := h
    obtain ⟨d, hd, rd⟩ := hr.getv e2
    rw [List.getElem?_map, Option.map_eq_some_iff] at hd
    obtain ⟨q, hq, rfl⟩ := hd
    have TD : T ≠ Dn := fun z => by rw [z, hxD] at hT; cases hT
    have nT := nx.trans (Nx.new (o := .tup [.int (n : Int), y1]) nx.fh hT)
    have fT : Fi T = none := Evl.fresh_back nx.fh hT
    obtain ⟨b, us, rfl, hb, hr2⟩ := rd.tuple
    rw [Rps.eints hr2] at hb
    have hb2 : upd H' T (.tup [.int (n : Int), .ref b]) b = some (.tup ((kI q).map kV)) := by rw [kI_V]; exact nT.fh _ _ (nT.f _ _ hb)
    refine ⟨T, _, rfl, Evl.st_of upd_same, rfl, _, _, rfl, _, _, rfl, rfl, hw _ _, ?_⟩
    refine ⟨_, hj _ _, _, hi _ _, ?_⟩
    have lx : kx.length < 100000 := by
      rw [tx.len]
      have := List.length_take_le n (placesOf ms)
      rw [List.length_take] at this ⊢
      omega
    refine ⟨_, DPut.t (k := kI q) (by rw [upd_ne (Ne.symm TD)]; exact hxD) hb2 (Evl.sz_lt lx), ?_⟩
    have hpl : (placesOf ms)[n]? = some (q, .int (n : Int)) := by
      unfold placesOf
      rw [List.getElem?_map, List.getElem?_zipIdx, hq]
      simp
    have new : q ∉ ((placesOf ms).take n).map Prod.fst := fun z => by
      rw [List.map_take, show (placesOf ms).map Prod.fst = ms from by unfold placesOf; rw [List.map_map]; exact List.zipIdx_map_fst ..] at z
      obtain ⟨hn2, e2⟩ := List.getElem?_eq_some_iff.mp hq
      obtain ⟨m2, hm, e3⟩ := List.getElem_of_mem z
      rw [List.getElem_take] at e3
      rw [List.length_take] at hm
      exact (List.pairwise_iff_getElem.mp nd) m2 n (by omega) hn2 (by omega) (e3.trans e2.symm)
    rw [put_new (tx.none new)]
    refine ⟨upd Fi T (.tup [.int (n : Int), .ref b]), _, nT.mut hD (by rw [upd_ne (Ne.symm TD)]; exact fD), by rw [upd_ne (Ne.symm TD)]; exact fD, upd_same, ?_⟩
    rw [List.take_add_one, hpl]
    exact tx.snoc (Ex.new fT) new (.int _)
  · obtain ⟨Fi, kx, nx, fD, hxD, tx⟩ := h
    have pl : (placesOf ms).length = ms.length := by unfold placesOf; rw [List.length_map, List.length_zipIdx]
    rw [hn, ← pl, List.take_length] at tx
    exact k Dn kx Fi H' (n1.trans nx) fD (Evl.fresh_back n1.h hD) hxD tx
/-- xs.append(e), e made anew -/
theorem Cn.app {F1 H1 : Hp} {Dl : Addr} {ds : List D} {H' : Hp} (c : Cn F1 H1 Dl ds H') (hl : ds.length < 50000) (hj : σ[j]? = some (some (.ref Dl))) (h : ∀ Q : VK, (∀ v G H2, Nw H' G H2 → Rp G v d → Q v H2) → te σ H' Q)
    (k : ∀ H'', Cn F1 H1 Dl (ds ++ [d]) H'' → D0.nx σ H'') : tDrop (tBM K "list" rAppend (tVar j) (tCons te tNil)) D0 σ H' := by
  obtain ⟨G, vs, n, e, f, hD, r⟩ := c.ex
  refine ⟨.ref Dl, hj, Or.inl ⟨rfl, vs, Evl.sq_of hD⟩, h _ fun v G3 H3 n3 r3 => ?_⟩
  have g3 : G3 Dl = none := by
    cases q : G3 Dl with
    | none => rfl
    | some o => have := n3.n Dl (by rw [q]; exact fun z => nomatch z); rw [hD] at this; cases this
  have gd : un G G3 Dl = none := by
    cases q : un G G3 Dl with
    | none => rfl
    | some o =>
      rcases un_some (G1 := G) (G2 := G3) (p := Dl) (by rw [q]; exact fun z => nomatch z) with k | k
      · exact absurd f k
      · exact absurd g3 k
  have nu := n.join n3
  have rl := r.n
  exact ⟨Dl, vs, v, rfl, rfl, n3.h _ _ hD, Evl.sz_lt (by omega), k _ ⟨⟨un G G3, vs ++ [v], ⟨Ex.mut nu.h c.h0, Ex.mut nu.g gd, nu.n⟩, Ex.mut (e.trans n3.h) c.f0, gd, upd_same, (r.mono un_l).snoc (r3.mono (un_r (n.dis n3)))⟩, c.h0, c.f0⟩⟩
end
end Bp
namespace Bp
open PySem PySem.Spec PyProof.Rows L2
open Evl (Ex)
/-! ## the plan that is told -/
def entOf (xs : List En) (q : List Int) : En := (xs.find? fun x => decide (x.1 = q)).getD (q, 0, none, [])
def planTold (l : List Int) (xs : List En) (ms fs : List (List Int)) : Pl := (waysFor l ms fs, ms.map fun q => ((entOf xs q).2.2.1, waysFor l ms (entOf xs q).2.2.2))
section
variable {l : List Int} {dd : List (List (List Int))} {w g : List Int} {ps ms fs : List (List Int)} {xs : List En} {q B : List Int}
theorem entOf_mem (nd : (xs.map Prod.fst).Nodup) {x : En} (h : x ∈ xs) : entOf xs x.1 = x := by
  unfold entOf
  induction xs with
  | nil => cases h
  | cons y ys ih =>
    rw [List.map_cons, List.nodup_cons] at nd
    by_cases c : y.1 = x.1
    · rw [List.find?_cons_of_pos (by simpa using c)]
      rcases List.mem_cons.mp h with rfl | h
      · rfl
      · exact absurd (List.mem_map.mpr ⟨x, h, c.symm⟩) nd.1
    · rw [List.find?_cons_of_neg (by simpa using c)]
      rcases List.mem_cons.mp h with rfl | h
      · exact absurd rfl c
      · exact ih nd.2 h
theorem ways_sees : waysFor l ms (seesOf l B) = (srt (B.map (lookOf l))).map fun k => (k, (ms.idxOf (seen l B k) : Int)) := by
  unfold waysFor seesOf partsOf
  rw [List.map_map, List.map_map]
  refine List.map_congr_left fun k hk => ?_
  obtain ⟨r, hr, rfl⟩ := List.mem_map.mp (mem_srt.mp hk)
  show (lookOf l ((seen l B (lookOf l r)).headD 0), _) = _
  have ne : seen l B (lookOf l r) ≠ [] := List.ne_nil_of_mem (a := r) (List.mem_filter.mpr ⟨hr, by simp⟩)
  cases e : seen l B (lookOf l r) with
  | nil => exact absurd e ne
  | cons a t =>
    have : a ∈ seen l B (lookOf l r) := by rw [e]; exact List.mem_cons_self
    have h2 : lookOf l a = lookOf l r := by simpa using (List.mem_filter.mp this).2
    show (lookOf l a, _) = _
    rw [h2]
    show (lookOf l r, ((ms.idxOf (seen l B (lookOf l r)) : Nat) : Int)) = (lookOf l r, ((ms.idxOf (a :: t) : Nat) : Int))
    rw [e]
theorem plc_ways {r : Int} (hr : r ∈ B) : plc (waysFor l ms (seesOf l B)) (lookOf l r) = [(ms.idxOf (seen l B (lookOf l r)) : Int)] := by
  rw [ways_sees]
  unfold plc
  have hk : lookOf l r ∈ srt (B.map (lookOf l)) := mem_srt.mpr (List.mem_map.mpr ⟨r, hr, rfl⟩)
  have up := srt_up (B.map (lookOf l))
  generalize srt (B.map (lookOf l)) = ks at hk up
  generalize lookOf l r = k at hk
  induction ks with
  | nil => cases hk
  | cons a t ih =>
    have up' := List.pairwise_cons.mp up
    rw [List.map_cons]
    by_cases c : a = k
    · subst c
      have none : (t.map fun k => (k, (ms.idxOf (seen l B k) : Int))).filter (fun w => decide (w.1 = a)) = [] := by
        rw [List.filter_eq_nil_iff]
        intro x hx
        obtain ⟨b, hb, rfl⟩ := List.mem_map.mp hx
        have := up'.1 b hb
        simp; omega
      rw [List.filter_cons_of_pos (by simp), none]; rfl
    · rw [List.filter_cons_of_neg (by simpa using c)]
      rcases List.mem_cons.mp hk with rfl | hk
      · exact absurd rfl c
      · exact ih up'.2 hk
theorem ways_good (hs : Hs l dd w) (hB : ∀ r ∈ B, 0 ≤ r ∧ r < (l.length : Int)) {a b : Int} (h : ∀ r ∈ seesOf l B, a ≤ (ms.idxOf r : Int) ∧ (ms.idxOf r : Int) < b) : GoodWays a b (waysFor l ms (seesOf l B)) := by
  rw [ways_sees]
  refine ⟨?_, fun x hx => ?_⟩
  · rw [List.map_map, show ((Prod.fst : Int × Int → Int) ∘ fun k => (k, (ms.idxOf (seen l B k) : Int))) = id from rfl, List.map_id]
    refine ⟨srt_up _, fun k hk => ?_⟩
    obtain ⟨r, hr, rfl⟩ := List.mem_map.mp (mem_srt.mp hk)
    exact hs.lk _ (lookOf_mem (hB r hr).1 (hB r hr).2)
  · obtain ⟨k, hk, rfl⟩ := List.mem_map.mp hx
    obtain ⟨r, hr, rfl⟩ := List.mem_map.mp (mem_srt.mp hk)
    exact h _ (sees_mem.mpr ⟨r, hr, rfl⟩)
/-- the least steps of a part -/
theorem steps_lead {m k : Nat} {ko : Option Int} {fs : List (List Int)} (h : EnOk l dd w q m ko fs) : leadIn l dd w k q = true ↔ m ≤ k := by
  constructor
  · intro y
    refine Nat.le_of_not_lt fun lt => ?_
    have := before_iff.mpr ⟨k, lt, y⟩
    rw [h.n] at this; cases this
  · exact fun le => lead_up le h.y
structure PF (l : List Int) (dd : List (List (List Int))) (w : List Int) (xs : List En) (ms : List (List Int)) : Prop where
  hs : Hs l dd w
  nd : (xs.map Prod.fst).Nodup
  e : ∀ x ∈ xs, ∃ m : Nat, x.2.1 = (m : Int) ∧ EnOk l dd w x.1 m x.2.2.1 x.2.2.2
  g : ∀ x ∈ xs, isGuess (li x.1) l.length = true
  mnd : ms.Nodup
  msub : ∀ q ∈ ms, q ∈ xs.map Prod.fst
  mc : ∀ x ∈ xs, x.1 ∈ ms → ∀ r ∈ x.2.2.2, r ∈ ms
  mo : ms.Pairwise fun p q => stepsOf xs q ≤ stepsOf xs p
  m3 : ms.length ≤ 300
theorem PF.ent (h : PF l dd w xs ms) (hq : q ∈ ms) : ∃ m : Nat, entOf xs q ∈ xs ∧ (entOf xs q).1 = q ∧ stepsOf xs q = (m : Int) ∧ EnOk l dd w q m (entOf xs q).2.2.1 (entOf xs q).2.2.2 := by
  obtain ⟨x, hx, rfl⟩ := List.mem_map.mp (h.msub q hq)
  obtain ⟨m, h1, h2⟩ := h.e x hx
  rw [entOf_mem h.nd hx]
  exact ⟨m, hx, rfl, (steps_some h.nd hx).trans h1, h2⟩
theorem PF.onward (h : PF l dd w xs ms) (hq : q ∈ ms) {m : Nat} (hm : stepsOf xs q = ((m + 1 : Nat) : Int)) :
    ∃ k : Nat, k < dd.length ∧ (entOf xs q).2.2.1 = some (k : Int) ∧ (entOf xs q).2.2.2 = seesOf l (behindOf (deedOf dd (k : Int)) q) ∧ isGuess (li (behindOf (deedOf dd (k : Int)) q)) l.length = true ∧
      (∀ r ∈ seesOf l (behindOf (deedOf dd (k : Int)) q), r ∈ ms ∧ leadIn l dd w m r = true) ∧ ∃ r ∈ seesOf l (behindOf (deedOf dd (k : Int)) q), before l dd w m r = false := by
  obtain ⟨m2, hx, e1, e2, ok⟩ := h.ent hq
  have em : m2 = m + 1 := by omega
  subst em
  rcases ok.d with ⟨z, _⟩ | ⟨m', k, z, d1, d2, d3⟩
  · cases z
  · have em : m' = m := by omega
    subst em
    have gq : isGuess (li q) l.length = true := by have := h.g _ hx; rwa [e1] at this
    have hk : k < dd.length := by
      have := (List.getElem?_eq_some_iff.mp d2).1
      unfold onOf at this
      rwa [List.length_map, List.length_range] at this
    have e3 : (entOf xs q).2.2.2 = seesOf l (behindOf (deedOf dd (k : Int)) q) := by
      unfold onOf at d2
      rw [List.getElem?_map, List.getElem?_range hk] at d2
      exact (Option.some.inj d2).symm
    have gb := behind_guess h.hs gq (Int.natCast_nonneg k) (by omega)
    rw [e3] at d3 d2
    refine ⟨k, hk, d1, e3, gb, fun r hr => ⟨?_, List.all_eq_true.mp d3 r hr⟩, ?_⟩
    · have := h.mc _ hx (by rw [e1]; exact hq) r (by rw [e3]; exact hr)
      exact this
    · have nl : leadIn l dd w m' q = false := ok.n
      cases m' with
      | zero =>
        obtain ⟨r, hr⟩ := List.exists_mem_of_ne_nil _ (sees_ne (l := l) ((isGuess_li (Int.natCast_nonneg _)).mp gb).2)
        exact ⟨r, hr, rfl⟩
      | succ n =>
        unfold leadIn at nl
        rw [Bool.or_eq_false_iff] at nl
        have := nl.2
        rw [List.any_eq_false] at this
        have := this _ (List.mem_of_getElem? d2)
        rw [List.all_eq_true] at this
        refine Classical.byContradiction fun z => this fun r hr => ?_
        cases c : leadIn l dd w n r with
        | true => rfl
        | false => exact absurd ⟨r, hr, c⟩ z
theorem idx_at {ms : List (List Int)} {i : Nat} (nd : ms.Nodup) (hi : i < ms.length) : ms.idxOf ms[i] = i := by
  have lt := List.idxOf_lt_length_of_mem (List.getElem_mem hi)
  have e := List.getElem_idxOf lt
  exact (List.getElem_inj (h₀ := lt) (h₁ := hi) nd).mp e
theorem idx_lt (h : PF l dd w xs ms) {r : List Int} (hq : q ∈ ms) (hr : r ∈ ms) (lt : stepsOf xs r < stepsOf xs q) : ms.idxOf q < ms.idxOf r := by
  have h1 := List.idxOf_lt_length_of_mem hq
  have h2 := List.idxOf_lt_length_of_mem hr
  refine Nat.lt_of_not_le fun le => ?_
  rcases Nat.lt_or_eq_of_le le with c | c
  · have := (List.pairwise_iff_getElem.mp h.mo) _ _ h2 h1 c
    rw [List.getElem_idxOf h2, List.getElem_idxOf h1] at this
    omega
  · have e1 := List.getElem_idxOf h1
    have e2 := List.getElem_idxOf h2
    have : q = r := by rw [← e1, ← e2]; congr 1; exact c.symm
    subst this; omega
theorem plan_row (i : Nat) (hi : i < ms.length) : (planTold l xs ms fs).2[i]? = some ((entOf xs ms[i]).2.2.1, waysFor l ms (entOf xs ms[i]).2.2.2) := by
  show (ms.map _)[i]? = _
  rw [List.getElem?_map, List.getElem?_eq_getElem hi]; rfl
theorem plan_good (h : PF l dd w xs ms) (hg : isGuess (li g) l.length = true) (hf : ∀ r ∈ seesOf l g, r ∈ ms) : GoodPlan dd.length (planTold l xs ms (seesOf l g)) := by
  have len : (planTold l xs ms (seesOf l g)).2.length = ms.length := List.length_map ..
  refine ⟨by rw [len]; exact h.m3, ?_, fun i r hr => ?_⟩
  · rw [len]
    refine ways_good h.hs ((isGuess_li (Int.natCast_nonneg _)).mp hg).1.2 fun r hr => ?_
    have := List.idxOf_lt_length_of_mem (hf r hr)
    omega
  · have hi : i < ms.length := by rw [← len]; exact (List.getElem?_eq_some_iff.mp hr).1
    rw [plan_row i hi] at hr
    obtain rfl := Option.some.inj hr
    rw [len]
    have hq : ms[i] ∈ ms := List.getElem_mem hi
    have ei : ms.idxOf ms[i] = i := idx_at h.mnd hi
    obtain ⟨m, hx, e1, e2, ok⟩ := h.ent hq
    cases m with
    | zero =>
      rcases ok.d with ⟨_, d1, d2⟩ | ⟨_, _, z, _⟩
      · rw [d1, d2]; exact rfl
      · cases z
    | succ m =>
      obtain ⟨k, hk, d1, d2, gb, d3, _⟩ := h.onward hq e2
      rw [d1, d2]
      refine ⟨Int.natCast_nonneg k, by omega, ways_good h.hs ((isGuess_li (Int.natCast_nonneg _)).mp gb).1.2 fun r hr => ?_⟩
      obtain ⟨hr1, hr2⟩ := d3 r hr
      obtain ⟨m2, _, _, e3, ok2⟩ := h.ent hr1
      have le := (steps_lead ok2).mp hr2
      have lt := idx_lt h hq hr1 (by omega)
      have := List.idxOf_lt_length_of_mem hr1
      omega
theorem stepsW_max {T : Tb} {ws : List (Int × Int)} {rooms : List Int} {f : Int → Int} {M : Nat} (h : ∀ r ∈ rooms, wayT l T ws r = some (f r)) (le : ∀ r ∈ rooms, f r ≤ (M : Int)) :
    ∃ t, stepsW l T ws rooms = some t ∧ 0 ≤ t ∧ t ≤ (M : Int) ∧ ((∃ r ∈ rooms, f r = (M : Int)) → t = (M : Int)) := by
  obtain ⟨h1, h2, h3⟩ := fold_mx (rooms.map f) 0
  refine ⟨_, stepsW_of h, h1, ?_, fun ⟨r, hr, e⟩ => ?_⟩
  · rcases h3 with h3 | h3
    · rw [h3]; omega
    · obtain ⟨r, hr, e⟩ := List.mem_map.mp h3
      rw [← e]; exact le r hr
  · have := h2 _ (List.mem_map.mpr ⟨r, hr, e⟩)
    rcases h3 with h3 | h3
    · omega
    · obtain ⟨r', hr', e'⟩ := List.mem_map.mp h3
      have := le r' hr'
      omega
/-- the rooms of a guess whose parts' steps are known -/
theorem plan_ways {T : Tb} {M : Nat} (hB : ∀ r ∈ B, 0 ≤ r ∧ r < (l.length : Int))
    (up : ∀ r ∈ seesOf l B, ∃ m : Nat, m ≤ M ∧ ∀ z ∈ r, ∃ t, T (ms.idxOf r : Int) z = some t ∧ 0 ≤ t ∧ t ≤ (m : Int)) :
    ∃ f : Int → Int, (∀ z ∈ B, wayT l T (waysFor l ms (seesOf l B)) z = some (f z) ∧ 0 ≤ f z ∧ f z ≤ (M : Int)) ∧ ∀ z ∈ B, T (ms.idxOf (seen l B (lookOf l z)) : Int) z = some (f z) := by
  refine ⟨fun z => (T (ms.idxOf (seen l B (lookOf l z)) : Int) z).getD 0, fun z hz => ?_, fun z hz => ?_⟩
  all_goals
    obtain ⟨m, hm, h⟩ := up _ (sees_mem.mpr ⟨z, hz, rfl⟩)
    obtain ⟨t, h1, h2, h3⟩ := h z (List.mem_filter.mpr ⟨hz, by simp⟩)
    have e0 : (T (ms.idxOf (seen l B (lookOf l z)) : Int) z).getD 0 = t := by rw [h1]; rfl
    dsimp only
    rw [e0]
  · refine ⟨?_, ?_, ?_⟩
    · unfold wayT
      rw [plc_ways hz]
      exact h1
    · exact h2
    · omega
  · exact h1
theorem plan_steps (h : PF l dd w xs ms) (gp : GoodPlan dd.length (planTold l xs ms fs)) : ∀ (n : Nat) (m : Nat), m < n → ∀ q ∈ ms, stepsOf xs q = (m : Int) →
    (∀ y ∈ q, ∃ t, tbl l dd w (planTold l xs ms fs).2 (planTold l xs ms fs).2.length (ms.idxOf q : Int) y = some t ∧ 0 ≤ t ∧ t ≤ (m : Int)) ∧ ∃ y ∈ q, tbl l dd w (planTold l xs ms fs).2 (planTold l xs ms fs).2.length (ms.idxOf q : Int) y = some (m : Int) := by
  intro n
  induction n with
  | zero => exact fun m hm => absurd hm (Nat.not_lt_zero m)
  | succ n ih =>
    intro m hm q hq es
    have len : (planTold l xs ms fs).2.length = ms.length := List.length_map ..
    have hi := List.idxOf_lt_length_of_mem hq
    have row : rowAt (planTold l xs ms fs).2 (ms.idxOf q : Int) = ((entOf xs q).2.2.1, waysFor l ms (entOf xs q).2.2.2) := by
      have h1 := rowAt_get (rows := (planTold l xs ms fs).2) (p := (ms.idxOf q : Int)) (by omega) (by omega)
      rw [Int.toNat_natCast, plan_row _ hi, List.getElem_idxOf hi] at h1
      exact (Option.some.inj h1).symm
    have T1 : ∀ y, tbl l dd w (planTold l xs ms fs).2 (planTold l xs ms fs).2.length (ms.idxOf q : Int) y = byRow l dd w (tbl l dd w (planTold l xs ms fs).2 (planTold l xs ms fs).2.length) ((entOf xs q).2.2.1, waysFor l ms (entOf xs q).2.2.2) y := fun y => by
      rw [tbl_row gp (by omega), row]
    obtain ⟨m2, hx, e1, e2, ok⟩ := h.ent hq
    have gq : isGuess (li q) l.length = true := by have := h.g _ hx; rwa [e1] at this
    obtain ⟨upq, neq⟩ := (isGuess_li (Int.natCast_nonneg _)).mp gq
    have em : m2 = m := by omega
    subst em
    cases m2 with
    | zero =>
      have wish : ∀ y ∈ q, y ∈ w := fun y hy => by
        have := ok.y
        unfold leadIn at this
        exact of_decide_eq_true (List.all_eq_true.mp this y hy)
      have d1 : (entOf xs q).2.2.1 = none := by
        rcases ok.d with ⟨_, d1, _⟩ | ⟨_, _, z, _⟩
        · exact d1
        · cases z
      have each : ∀ y ∈ q, tbl l dd w (planTold l xs ms fs).2 (planTold l xs ms fs).2.length (ms.idxOf q : Int) y = some 0 := fun y hy => by
        rw [T1, d1]
        show (if y ∈ w then some (0 : Int) else none) = _
        rw [if_pos (wish y hy)]
      obtain ⟨y, hy⟩ := List.exists_mem_of_ne_nil q neq
      exact ⟨fun y hy => ⟨0, each y hy, Int.le_refl _, Int.le_refl _⟩, y, hy, each y hy⟩
    | succ m =>
      obtain ⟨k, hk, d1, d2, gb, d3, r0, hr0, b0⟩ := h.onward hq e2
      have ub := ((isGuess_li (Int.natCast_nonneg _)).mp gb).1.2
      have parts : ∀ r ∈ seesOf l (behindOf (deedOf dd (k : Int)) q), ∃ m' : Nat, m' ≤ m ∧ stepsOf xs r = (m' : Int) ∧ (before l dd w m r = false → m' = m) := fun r hr => by
        obtain ⟨r1, r2⟩ := d3 r hr
        obtain ⟨m', _, _, e3, ok'⟩ := h.ent r1
        have le := (steps_lead ok').mp r2
        refine ⟨m', le, e3, fun b => ?_⟩
        refine Classical.byContradiction fun ne => ?_
        have lt : m' < m := by omega
        have := before_iff.mpr ⟨m', lt, ok'.y⟩
        rw [b] at this; cases this
      have IH : ∀ r ∈ seesOf l (behindOf (deedOf dd (k : Int)) q), ∃ m' : Nat, m' ≤ m ∧ (before l dd w m r = false → m' = m) ∧ (∀ z ∈ r, ∃ t, tbl l dd w (planTold l xs ms fs).2 (planTold l xs ms fs).2.length (ms.idxOf r : Int) z = some t ∧ 0 ≤ t ∧ t ≤ (m' : Int)) ∧ ∃ z ∈ r, tbl l dd w (planTold l xs ms fs).2 (planTold l xs ms fs).2.length (ms.idxOf r : Int) z = some (m' : Int) := fun r hr => by
        obtain ⟨m', a1, a2, a3⟩ := parts r hr
        obtain ⟨b1, b2⟩ := ih m' (by omega) r (d3 r hr).1 a2
        exact ⟨m', a1, a3, b1, b2⟩
      obtain ⟨f, f1, f2⟩ := plan_ways (ms := ms) (T := tbl l dd w (planTold l xs ms fs).2 (planTold l xs ms fs).2.length) (M := m) ub fun r hr => by
        obtain ⟨m', a1, _, a3, _⟩ := IH r hr
        exact ⟨m', a1, a3⟩
      have em := deedOf_mem (e := dd) (r := (k : Int)) (by omega) (by omega)
      have inB : ∀ y ∈ q, ∀ z ∈ entryOf (deedOf dd (k : Int)) y, z ∈ behindOf (deedOf dd (k : Int)) q := fun y hy z hz => mem_srt.mpr (List.mem_flatMap.mpr ⟨y, hy, hz⟩)
      have each : ∀ y ∈ q, ∃ t, tbl l dd w (planTold l xs ms fs).2 (planTold l xs ms fs).2.length (ms.idxOf q : Int) y = some (t + 1) ∧ 0 ≤ t ∧ t ≤ (m : Int) ∧ ((∃ z ∈ entryOf (deedOf dd (k : Int)) y, f z = (m : Int)) → t = (m : Int)) := fun y hy => by
        obtain ⟨t, t1, t2, t3, t4⟩ := stepsW_max (M := m) (rooms := entryOf (deedOf dd (k : Int)) y) (fun z hz => (f1 z (inB y hy z hz)).1) fun z hz => (f1 z (inB y hy z hz)).2.2
        refine ⟨t, ?_, t2, t3, t4⟩
        rw [T1, d1, d2]
        show (stepsW l _ _ _).map (· + 1) = _
        rw [t1]; rfl
      refine ⟨fun y hy => ?_, ?_⟩
      · obtain ⟨t, t1, t2, t3, _⟩ := each y hy
        exact ⟨t + 1, t1, by omega, by omega⟩
      · obtain ⟨m', a1, a2, _, z, hz, a4⟩ := IH r0 hr0
        obtain rfl := a2 b0
        obtain ⟨z0, hz0, rfl⟩ := sees_mem.mp hr0
        have hzB := (List.mem_filter.mp hz).1
        have lk : lookOf l z = lookOf l z0 := by simpa using (List.mem_filter.mp hz).2
        have fz := f2 z hzB
        rw [lk, a4] at fz
        obtain ⟨y, hy, hzy⟩ := List.mem_flatMap.mp (mem_srt.mp hzB)
        obtain ⟨t, t1, _, _, t4⟩ := each y hy
        refine ⟨y, hy, ?_⟩
        rw [t1, t4 ⟨z, hzy, (Option.some.inj fz).symm⟩]; rfl
/-- the plan leads with the least steps -/
theorem plan_leads (h : PF l dd w xs ms) (hg : isGuess (li g) l.length = true) (hf : ∀ r ∈ seesOf l g, r ∈ ms) {M : Nat} (h1 : leadG l dd w M g = true) (h2 : ∀ k < M, leadG l dd w k g = false) : leadsOf l dd w (planTold l xs ms (seesOf l g)) g = some (M : Int) := by
  have gp := plan_good h hg hf
  obtain ⟨ug, ne⟩ := (isGuess_li (Int.natCast_nonneg _)).mp hg
  have parts : ∀ r ∈ seesOf l g, ∃ m' : Nat, m' ≤ M ∧ stepsOf xs r = (m' : Int) ∧ ∃ ok : EnOk l dd w r m' (entOf xs r).2.2.1 (entOf xs r).2.2.2, True := fun r hr => by
    obtain ⟨m', _, _, e3, ok'⟩ := h.ent (hf r hr)
    exact ⟨m', (steps_lead ok').mp (List.all_eq_true.mp h1 r hr), e3, ok', trivial⟩
  have top : ∃ r ∈ seesOf l g, stepsOf xs r = (M : Int) := by
    cases M with
    | zero =>
      obtain ⟨r, hr⟩ := List.exists_mem_of_ne_nil _ (sees_ne (l := l) ne)
      obtain ⟨m', a1, a2, _⟩ := parts r hr
      exact ⟨r, hr, by omega⟩
    | succ n =>
      refine Classical.byContradiction fun z => ?_
      have := h2 n (Nat.lt_succ_self n)
      unfold leadG at this
      rw [Bool.eq_false_iff] at this
      refine this (List.all_eq_true.mpr fun r hr => ?_)
      obtain ⟨m', a1, a2, ok, _⟩ := parts r hr
      refine (steps_lead ok).mpr ?_
      have : m' ≠ n + 1 := fun e => z ⟨r, hr, by rw [a2, e]⟩
      omega
  obtain ⟨f, f1, f2⟩ := plan_ways (ms := ms) (T := tbl l dd w (planTold l xs ms (seesOf l g)).2 (planTold l xs ms (seesOf l g)).2.length) (M := M) ug.2 fun r hr => by
    obtain ⟨m', a1, a2, _⟩ := parts r hr
    exact ⟨m', a1, (plan_steps h gp (m' + 1) m' (Nat.lt_succ_self _) r (hf r hr) a2).1⟩
  obtain ⟨t, t1, t2, t3, t4⟩ := stepsW_max (M := M) (rooms := g) (fun z hz => (f1 z hz).1) fun z hz => (f1 z hz).2.2
  have : t = (M : Int) := t4 (by
    obtain ⟨r, hr, e⟩ := top
    obtain ⟨z, hz, e2⟩ := (plan_steps h gp (M + 1) M (Nat.lt_succ_self _) r (hf r hr) e).2
    obtain ⟨z0, hz0, rfl⟩ := sees_mem.mp hr
    have hzB := (List.mem_filter.mp hz).1
    have lk : lookOf l z = lookOf l z0 := by simpa using (List.mem_filter.mp hz).2
    have fz := f2 z hzB
    rw [lk, e2] at fz
    exact ⟨z, hzB, (Option.some.inj fz).symm⟩)
  subst this
  exact t1
end
end Bp
namespace Bp
open PySem PySem.Spec PyProof.Rows L2
open Evl (Ex)
section
variable {l : List Int} {dd : List (List (List Int))} {w g : List Int} {ps ms fs : List (List Int)} {xs : List En}
theorem found_few (hs : Hs l dd w) (cl : Closed l dd g ps) (fa : FoundAll l dd w ps xs) (nd : (xs.map Prod.fst).Nodup) : xs.length ≤ 256 := by
  have := parts_few hs.n8 nd fun q hq => cl.p q ((fa.k q).mp hq).1
  rwa [List.length_map] at this
theorem found_on (hs : Hs l dd w) (cl : Closed l dd g ps) (fa : FoundAll l dd w ps xs) {x : En} (hx : x ∈ xs) : x.2.2.2.length ≤ 8 ∧ (∀ r ∈ x.2.2.2, r ∈ xs.map Prod.fst ∧ isGuess (li r) l.length = true) := by
  obtain ⟨m, h1, h2⟩ := fa.e x hx
  have hp := ((fa.k x.1).mp (List.mem_map.mpr ⟨x, hx, rfl⟩)).1
  rcases h2.d with ⟨_, _, e⟩ | ⟨m', k, _, _, hk, all⟩
  · rw [e]; exact ⟨Nat.zero_le _, fun r hr => nomatch hr⟩
  · have hm := List.mem_of_getElem? hk
    refine ⟨?_, fun r hr => ?_⟩
    · obtain ⟨j, hj, e⟩ := List.mem_map.mp hm
      have hj := List.mem_range.mp hj
      have gb := behind_guess hs (cl.p _ hp).guess (Int.natCast_nonneg j) (by omega)
      have h1 := up_len (Int.natCast_nonneg _) ((isGuess_li (Int.natCast_nonneg _)).mp gb).1
      have h2 := parts_len l (behindOf (deedOf dd (j : Int)) x.1)
      have := hs.n8
      rw [← e]
      unfold seesOf
      rw [List.length_map]; omega
    · have rp := cl.c x.1 hp _ hm r hr
      exact ⟨(fa.k r).mpr ⟨rp, m', List.all_eq_true.mp all r hr⟩, (cl.p r rp).guess⟩
theorem pf_of (hs : Hs l dd w) (cl : Closed l dd g ps) (fa : FoundAll l dd w ps xs) (nd : (xs.map Prod.fst).Nodup) (fo : Foll xs fs ms) : PF l dd w xs ms := by
  refine ⟨hs, nd, fa.e, fun x hx => (cl.p _ ((fa.k x.1).mp (List.mem_map.mpr ⟨x, hx, rfl⟩)).1).guess, fo.nd, fo.sub, fo.c, fo.o, ?_⟩
  have h1 := sub_lenA fo.nd fo.sub
  have h2 := found_few hs cl fa nd
  rw [List.length_map] at h1
  omega
end
/-- planned: what it refuses, None, or a plan made anew that leads with the least steps -/
def spPlan (A : Ad) (LP : Addr) : Sp := fun vs H Q E => ∃ F l dd w v0 v1 y, vs = [v0, v1] ∧ Ex F H ∧ NoT F ∧ TabOk LP H ∧ Rp F v0 (hsD A.hs (li l) (llli dd) (li w)) ∧ Hs l dd w ∧ Rp F v1 y ∧ noObjs y = true ∧
  ((isGuess y l.length = false ∧ ∀ H2, Ex H H2 → E (.ref A.bg) none H2) ∨ ∃ g, y = li g ∧ isGuess (li g) l.length = true ∧
    ∀ o H2, LeastIs l dd w g o → (o = none → Ex H H2 → Q .non H2) ∧ (∀ m, o = some m → ∀ v G p, NwT H G H2 → TabOk LP H2 → Rp G v (planD p) → GoodPlan dd.length p → leadsOf l dd w p g = some m → Q v H2))
section
variable {K : PySem.W.Frag} {σ : L2.St} {F : Hp} {te : TE} {i : Nat}
theorem en_dp {o : Option Int} (h : ED te σ F (dpD o)) : EN te σ F (dpD o) := by
  cases o with
  | none => exact en_non h
  | some k => exact en_int h
end
end Bp
namespace Bp
open PySem PySem.Spec PyProof.Rows L2
open Evl (Ex)
theorem inD_K {X : Cx} (K : PySem.W.Frag) (hu : X.A.units + 65 < cLine) (h : X.K = K := by rfl) : OpR X (compareOp .In) (rInD K) := by subst h; exact op_inD hu
theorem all_K {X : Cx} (K : PySem.W.Frag) (hc : X.calm = true) (h : X.K = K := by rfl) : CallR X (.builtin "all") (rAll K) := by subst h; exact cr_all hc
section
variable {K : PySem.W.Frag} {F : Hp}
theorem any_li {q : List Int} : ∀ {zs : List (List Int)}, (toPys (zs.map li)).any (fun z => PyData.eqv z (li q).toPy) = decide (q ∈ zs)
  | [] => by simp [toPys]
  | z :: zs => by
    have h3 : PyData.eqv (li z).toPy (li q).toPy = decide (z = q) := eqD_li z q
    show (PyData.eqv (li z).toPy (li q).toPy || (toPys (zs.map li)).any (fun z => PyData.eqv z (li q).toPy)) = _
    rw [h3, any_li]
    by_cases c : z = q
    · subst c; simp
    · have c' : ¬ q = z := fun e => c e.symm
      simp [c, c']
theorem rd_inD {q : List Int} {zs : List (List Int)} : RD (rInD K) F (li q) (lli zs) (.bl (decide (q ∈ zs))) := fun F1 H1 v u _ e2 rv ru Q k => by
  have h1 := (lay_li q).ok
  have h2 := (lay_lli zs).ok
  refine ⟨(li q).toPy, toPys (zs.map li), dp_of e2 _ v (SeqAt.canLay_of_shaped h1) rv, dp_of e2 (lli zs) u (SeqAt.canLay_of_shaped h2) ru, h1, h2, ?_⟩
  have e : (toPys (zs.map li)).any (fun z => PyData.eqv z (li q).toPy) = decide (q ∈ zs) := any_li
  rw [e]
  exact k _ F1 H1 (Nx.refl e2) (.bl _)
end
/-! ## what the law's helpers tell -/
def R_isg (ds : List D) (d : D) : Prop := ∃ q n, ds = [li q, .int ((n : Nat) : Int)] ∧ isGuess (li q) n = true ∧ n ≤ 8 ∧ d = .bl true
def R_in1 (ds : List D) (d : D) : Prop := ∃ l g zs, ds = [li l, li g, lli zs] ∧ (∀ x ∈ l, 0 ≤ x ∧ x < 10) ∧ (∀ r ∈ g, 0 ≤ r ∧ r < (l.length : Int)) ∧ g.length < 50000 ∧ d = .bl (decide (∃ q ∈ seesOf l g, q ∈ zs))
/-- no way out of q but into zs -/
def NoOut (l : List Int) (dd : List (List (List Int))) (w q : List Int) (zs : List (List Int)) : Prop := (∃ r ∈ q, r ∉ w) ∧ ∀ fs ∈ onOf l dd q, ∃ p ∈ fs, p ∈ zs
def R_nwo (ds : List D) (d : D) : Prop := ∃ l dd w q zs, ds = [.tup [li l, llli dd, li w], li q, lli zs] ∧ Hs l dd w ∧ isGuess (li q) l.length = true ∧ NoOut l dd w q zs ∧ d = .bl true
def R_isw (ds : List D) (d : D) : Prop := ∃ ws a b, ds = [waysD ws, .int a, .int b] ∧ (∀ w ∈ ws, a ≤ w.2 ∧ w.2 < b) ∧ ws.length < 50000 ∧ d = .bl true
def R_isp (ds : List D) (d : D) : Prop := ∃ p n, ds = [planD p, .int n] ∧ GoodPlan n p ∧ d = .bl true
theorem parts_snd {l g : List Int} {zs : List (List Int)} : decide ((partsOf l g).filter (fun p => decide (p.2 ∈ zs)) = []) = !decide (∃ q ∈ seesOf l g, q ∈ zs) := by
  by_cases h : ∃ q ∈ seesOf l g, q ∈ zs
  · rw [decide_eq_true h]
    obtain ⟨q, h1, h2⟩ := h
    obtain ⟨p, hp, rfl⟩ := List.mem_map.mp h1
    refine decide_eq_false fun z => ?_
    rw [List.filter_eq_nil_iff] at z
    exact z p hp (decide_eq_true h2)
  · rw [decide_eq_false h]
    refine decide_eq_true ?_
    rw [List.filter_eq_nil_iff]
    exact fun p hp z => h ⟨p.2, List.mem_map.mpr ⟨p, hp, rfl⟩, of_decide_eq_true z⟩
/-- least: what it refuses, or the least steps -/
def spLeastE (A : Ad) : Sp := fun vs H Q E => ∃ F l dd w v0 v1 y, vs = [v0, v1] ∧ Ex F H ∧ Rp F v0 (hsD A.hs (li l) (llli dd) (li w)) ∧ Hs l dd w ∧ Rp F v1 y ∧ noObjs y = true ∧
  ((isGuess y l.length = false ∧ ∀ H2, Ex H H2 → E (.ref A.bg) none H2) ∨ ∃ g, y = li g ∧ isGuess (li g) l.length = true ∧ ∀ o H2, LeastIs l dd w g o → Ex H H2 → Q (oV o) H2)
/-- never: what it refuses, None, or a list made anew with all that is in it -/
def spNeverE (A : Ad) : Sp := fun vs H Q E => ∃ F l dd w v0 v1 y, vs = [v0, v1] ∧ Ex F H ∧ Rp F v0 (hsD A.hs (li l) (llli dd) (li w)) ∧ Hs l dd w ∧ Rp F v1 y ∧ noObjs y = true ∧
  ((isGuess y l.length = false ∧ ∀ H2, Ex H H2 → E (.ref A.bg) none H2) ∨ ∃ g, y = li g ∧ isGuess (li g) l.length = true ∧
    ∀ o H2, LeastIs l dd w g o → ((o ≠ none → Ex H H2 → Q .non H2) ∧ (o = none → ∀ v G ps zs, Nw H G H2 → Rp G v (lli zs) → NeverOk l dd w g ps zs → Q v H2)))
/-- a call of one of the three with what is no guess -/
def spAsked (A : Ad) (LP : Addr) : Sp := fun vs H Q E => ∃ F k l dd w v1 v2 y, vs = [.int k, v1, v2] ∧ 0 ≤ k ∧ k ≤ 2 ∧ Ex F H ∧ NoT F ∧ TabOk LP H ∧ Rp F v1 (hsD A.hs (li l) (llli dd) (li w)) ∧ Hs l dd w ∧ Rp F v2 y ∧ noObjs y = true ∧ isGuess y l.length = false ∧
  ∀ H2, Ex H H2 → E (.ref A.bg) none H2
def spRefA (A : Ad) (LP : Addr) : Sp := fun vs H Q E => ∃ F k l dd w v1 v2 y, vs = [.int k, v1, v2] ∧ 0 ≤ k ∧ k ≤ 2 ∧ Ex F H ∧ NoT F ∧ TabOk LP H ∧ Rp F v1 (hsD A.hs (li l) (llli dd) (li w)) ∧ Hs l dd w ∧ Rp F v2 y ∧ noObjs y = true ∧ isGuess y l.length = false ∧
  ∀ H2, Ex H H2 → Q (.bl true) H2
/-- one round of questions; handed is the list at ph, outside of the frozen part -/
def spGoodN (A : Ad) (LP : Addr) : Sp := fun vs H Q _ => ∃ F l dd w g ph xs v0 v1 v2, vs = [v0, v1, v2, .ref ph] ∧ Ex F H ∧ NoT F ∧ TabOk LP H ∧ F ph = none ∧ H ph = some (.lst xs) ∧ Rp F v0 (hsD A.hs (li l) (llli dd) (li w)) ∧ Rp F v1 (.tup [li l, llli dd, li w]) ∧
  Rp F v2 (li g) ∧ Hs l dd w ∧ isGuess (li g) l.length = true ∧ ∀ H2, Ex F H2 → TabOk LP H2 → (∃ ys, H2 ph = some (.lst ys)) → Q (.bl true) H2
section
variable {l : List Int} {dd : List (List (List Int))} {w g : List Int} {ps zs : List (List Int)}
/-- a bound for all of a list -/
theorem lead_bound {fs : List (List Int)} (h : ∀ r ∈ fs, ∃ n, leadIn l dd w n r = true) : ∃ n, fs.all (leadIn l dd w n) = true := by
  induction fs with
  | nil => exact ⟨0, rfl⟩
  | cons r fs ih =>
    obtain ⟨n, hn⟩ := ih fun r' hr' => h r' (List.mem_cons_of_mem _ hr')
    obtain ⟨m, hm⟩ := h r List.mem_cons_self
    refine ⟨max m n, ?_⟩
    rw [List.all_cons, Bool.and_eq_true]
    exact ⟨lead_up (Nat.le_max_left m n) hm, List.all_eq_true.mpr fun x hx => lead_up (Nat.le_max_right m n) (List.all_eq_true.mp hn x hx)⟩
theorem NeverOk.out (h : NeverOk l dd w g ps zs) {q : List Int} (hq : q ∈ zs) : NoOut l dd w q zs := by
  obtain ⟨h1, h2⟩ := (h.m q).mp hq
  refine ⟨?_, fun fs hfs => ?_⟩
  · have := h2 0
    unfold leadIn at this
    rw [List.all_eq_false] at this
    obtain ⟨r, hr, hw⟩ := this
    exact ⟨r, hr, by simpa using hw⟩
  · refine Classical.byContradiction fun z => ?_
    obtain ⟨n, hn⟩ := lead_bound (l := l) (dd := dd) (w := w) (fs := fs) fun r hr => Classical.byContradiction fun nz => z ⟨r, hr, (h.m r).mpr ⟨h.c.c q h1 fs hfs r hr, fun n => by
      cases c : leadIn l dd w n r with
      | false => rfl
      | true => exact absurd ⟨n, c⟩ nz⟩⟩
    have := h2 (n + 1)
    unfold leadIn at this
    rw [Bool.or_eq_false_iff] at this
    have := this.2
    rw [List.any_eq_false] at this
    exact this fs hfs hn
theorem NeverOk.first (h : NeverOk l dd w g ps zs) (hn : LeastIs l dd w g none) : ∃ q ∈ seesOf l g, q ∈ zs := by
  refine Classical.byContradiction fun z => ?_
  obtain ⟨n, hh⟩ := lead_bound (l := l) (dd := dd) (w := w) (fs := seesOf l g) fun r hr => Classical.byContradiction fun nz => z ⟨r, hr, (h.m r).mpr ⟨h.c.s r hr, fun n => by
    cases c : leadIn l dd w n r with
    | false => rfl
    | true => exact absurd ⟨n, c⟩ nz⟩⟩
  have : leadG l dd w n g = false := hn n
  unfold leadG at this
  rw [hh] at this; cases this
theorem NeverOk.few (h : NeverOk l dd w g ps zs) : zs.length ≤ 256 := Nat.le_trans (sub_lenA h.nd fun q hq => ((h.m q).mp hq).1) h.c.n
theorem NeverOk.guess (h : NeverOk l dd w g ps zs) {q : List Int} (hq : q ∈ zs) : isGuess (li q) l.length = true := (h.c.p q ((h.m q).mp hq).1).guess
end
end Bp
namespace Bp
open PySem PySem.Spec PyProof.Rows L2
open Evl (Ex)
theorem NoT.upd {F : Hp} {a : Addr} {o : HO} (n : NoT F) (h : ∀ ps, o ≠ .tbl ps) : NoT (upd F a o) := fun b ps z => by
  by_cases c : b = a
  · subst c; rw [upd_same] at z; exact h ps (Option.some.inj z)
  · rw [upd_ne c] at z; exact n b ps z
theorem NoT.un {F G : Hp} (n : NoT F) (m : NoT G) : NoT (un F G) := fun b ps z => by
  have e1 : Bp.un F G b = F b ∨ Bp.un F G b = G b := by
    unfold Bp.un
    cases q : F b with
    | none => exact .inr rfl
    | some o => exact .inl rfl
  rcases e1 with e1 | e1
  · exact n b ps (e1.symm.trans z)
  · exact m b ps (e1.symm.trans z)
section
variable {K : PySem.W.Frag} {σ : L2.St} {F H : Hp} {t0 t1 t2 t3 te : TE} {D0 : Ends} {tz tu : TS} {i j : Nat} {E : XK} {c : Addr} {xs : List V}
theorem ed_steps {l : List Int} {dd : List (List (List Int))} {w g : List Int} {x : D} {p : Pl} (hs : Hs l dd w) (gp : GoodPlan dd.length p) (ug : Up l.length g) (ne : g ≠ []) (h0 : ED t0 σ F (.tup [li l, llli dd, x])) (h1 : ED t1 σ F (li g)) (h2 : ED t2 σ F (planD p)) (h3 : ED t3 σ F (li w)) :
    ED (tCall spSteps [] E (tCons t0 (tCons t1 (tCons t2 (tCons t3 tNil))))) σ F (dpD (leadsOf l dd w p g)) := fun F1 H1 e1 e2 Q q =>
  (ea_cons h0 (ea_cons h1 (ea_cons h2 (ea_cons h3 ea_nil)))) F1 H1 e1 e2 _ fun vs F2 H2 n2 r2 => ⟨F2, l, dd, w, x, g, p, n2.fh, by rw [List.append_nil]; exact r2, hs, gp, ug, ne, fun v F3 H3 n3 r3 => q v F3 H3 (n2.trans n3) r3⟩
/-- for x in xs[:1], the items as they stand -/
theorem q_forS (hi : σ[i]? = some (some (.ref c))) (hc : H c = some (.lst xs))
    (k : ∀ p, H p = none → ∃ P : Nat → L2.St → Hp → Prop, P 0 σ (upd H p (.lst (xs.take 1))) ∧ (∀ n σ' H', P n σ' H' → H' p = some (.lst (xs.take 1))) ∧
      (∀ n x σ' H', (xs.take 1)[n]? = some x → P n σ' H' → tu { D0 with nx := P (n + 1), ct := P (n + 1), bk := tz D0 } (σ'.set j (some x)) H') ∧ (∀ σ' H', P (xs.take 1).length σ' H' → tz D0 σ' H')) :
    tSeq (tFor (iList K (tSl (rSlL K) (tVar i) tNoPart (tPart (tC (.int 1))))) (gName j) tu) tz D0 σ H := by
  refine ⟨.ref c, hi, 1, rfl, c, xs, rfl, Evl.sq_of hc, fun p hp => ?_⟩
  have e : cutV xs none (some 1) = xs.take 1 := by
    unfold cutV
    rw [show HT.sIx xs.length 0 none = 0 from rfl, show (some (1 : Int)) = some ((1 : Nat) : Int) from rfl, HT.sIx_nat, List.drop_zero]
    cases xs <;> simp
  rw [e]
  obtain ⟨P, p0, pe, ps, pd⟩ := k p hp
  exact ⟨p, rfl, ⟨_, Evl.sq_of upd_same⟩, for_list (xs := xs.take 1) P p0 (fun n σ' H' _ h => Evl.sq_of (pe n σ' H' h)) (fun n x σ' H' hx h => ps n x σ' H' hx h) pd⟩
/-- x.append(9) -/
theorem s_app9 {b : Addr} {us : List V} {k : Int} (hi : σ[i]? = some (some (.ref b))) (hb : H b = some (.lst us)) (hz : us.length < 100000) (q : D0.nx σ (upd H b (.lst (us ++ [.int k])))) :
    tDrop (tBM K "list" rAppend (tVar i) (tCons (tC (.int k)) tNil)) D0 σ H := ⟨_, hi, Or.inl ⟨rfl, us, Evl.sq_of hb⟩, b, us, .int k, rfl, rfl, hb, Evl.sz_lt hz, q⟩
end
/-- a list of lists that stands in G: its own lists -/
theorem lli_parts {G : Hp} {v : V} {zs : List (List Int)} (h : Rp G v (lli zs)) : ∃ c us, v = .ref c ∧ G c = some (.lst us) ∧ us.length = zs.length ∧ ∀ x ∈ us, ∃ b z, x = .ref b ∧ b ≠ c ∧ z ∈ zs ∧ G b = some (.lst (z.map V.int)) := by
  obtain ⟨c, us, rfl, hc, hr⟩ := h.list
  refine ⟨c, us, rfl, hc, by rw [hr.n, List.length_map], fun x hx => ?_⟩
  obtain ⟨i, hi⟩ := List.mem_iff_getElem?.mp hx
  obtain ⟨d, hd, rd⟩ := hr.getv hi
  rw [List.getElem?_map, Option.map_eq_some_iff] at hd
  obtain ⟨z, hz, rfl⟩ := hd
  obtain ⟨b, ws, rfl, hb, hw⟩ := rd.list
  rw [hw.eints] at hb
  refine ⟨b, z, rfl, fun e => ?_, List.mem_of_getElem? hz, hb⟩
  subst e
  rw [hb] at hc
  have := Option.some.inj hc
  injection this with this
  rw [← this] at hx
  obtain ⟨n, _, h9⟩ := List.mem_map.mp hx
  cases h9
theorem cut_take {xs : List D} {k : Nat} : cutL xs none (some (k : Int)) = xs.take k := by
  unfold cutL
  rw [show HT.sIx xs.length 0 none = 0 from rfl, HT.sIx_nat, List.drop_zero, Nat.sub_zero]
  by_cases h : k ≤ xs.length
  · rw [Nat.min_eq_left h]
  · rw [Nat.min_eq_right (by omega), List.take_of_length_le (Nat.le_refl _), List.take_of_length_le (by omega)]
end Bp
namespace LT
open PySem PySem.Spec PyProof.Rows L2
open PySem.Sem (wp)
/-! zip of a list and a tuple -/
section
variable {prog : Program} {w : World} {A : Around} {E : Value → Shared → Prop} {s : Shared} {z TI TO i1 i2 l1 l2 : Addr} {n : Nat} {xs ys : Array Value} {x y a b : Value}
/-- what else than the zip, its pair, its iterators stays -/
def Stays (z TO i1 i2 : Addr) (h h' : Heap) : Prop := ∀ c o, c ≠ z → c ≠ TO → c ≠ i1 → c ≠ i2 → h.get? c = some o → h'.get? c = some o
theorem turn_one {Q : Value → Shared → Prop} (ap : ZipApart z TI TO i1 i2 l1 l2) (zk : IsZip s.heap z TI TO .none) (pi : IsPair s.heap TI (.ref i1) (.ref i2)) (po : IsPair s.heap TO a b)
    (u1 : s.heap.IsListIter i1 l1 n) (u2 : s.heap.IsTupleIter i2 l2 n) (q1 : s.heap.IsList l1 xs) (q2 : s.heap.IsTuple l2 ys) (ex : xs[n]? = some x) (ey : ys[n]? = some y)
    (k : ∀ h', IsZip h' z TI TO (rawInt s.heap.objs.size) → IsPair h' TO x y → h'.IsListIter i1 l1 (n + 1) → h'.IsTupleIter i2 l2 (n + 1) → IsPair h' s.heap.objs.size x y → h'.objs.size = s.heap.objs.size + 1 → Stays z TO i1 i2 s.heap h' → Q (.ref s.heap.objs.size) { s with heap := h' }) :
    wpAny (model prog w) A (Builtin.«zip.__next__» ⟨[.ref z], []⟩) (fun fin s' => ∃ v, fin = .done (.ret v) ∧ Q v s') E s := by
  show wpAny _ _ (field (.ref z) 2 >>= _) _ _ s
  refine wpAny_bind (wpAny_field zk rfl (x := .bool false) rfl ?_)
  show wpAny _ _ (field (.ref z) 3 >>= _) _ _ s
  refine wpAny_bind (wpAny_field zk rfl (x := .ref TI) rfl (wpAny_bind (wpAny_seqItems pi rfl ?_)))
  show wpAny _ _ (Builtin.SmallTypes.ownedTupleIsFree (.ref z) >>= _) _ _ s
  unfold Builtin.SmallTypes.ownedTupleIsFree
  refine wpAny_bind (wpAny_bind (wpAny_field zk rfl (x := .none) rfl (wpAny_pure ?_)))
  simp only [if_true]
  refine wpAny_bind (wpAny_rule (wpAny_bind (wpAny_field zk rfl (x := .ref TO) rfl (wpAny_bind (wpAny_setField_rec zk (by simp) fun g1 z1 b1 => ?_)))))
  replace z1 : IsZip g1 z TI TO .ellipsis := z1
  refine wpAny_bind ?_
  simp only [List.zipIdx_cons, List.zipIdx_nil, List.forIn_cons, List.forIn_nil]
  refine wpAny_bind (wpAny_bind (wpAny_onRaise ?_))
  show wpAny _ _ (Builtin.SmallTypes.nextOf (.ref i1) >>= _) _ _ { s with heap := g1 }
  refine wpAny_bind (wpAny_nextOf_list_item (u1.extBut b1.extBut ap.i1z) (q1.extBut b1.extBut ap.l1z) ex fun g2 v1 b2 => wpAny_pure ?_)
  have o2 : IsPair g2 TO a b := b2.extBut _ _ ap.TOi1 (b1.extBut _ _ ap.TOz po)
  refine wpAny_bind (wpAny_seqItems o2 rfl (wpAny_bind (wpAny_updateSeq_pair o2 fun g3 o3 b3 => wpAny_bind (wpAny_letGo (wpAny_pure ?_)))))
  replace o3 : IsPair g3 TO x b := o3
  refine wpAny_bind (wpAny_bind (wpAny_onRaise ?_))
  show wpAny _ _ (Builtin.SmallTypes.nextOf (.ref i2) >>= _) _ _ { s with heap := g3 }
  have u2' := ((u2.extBut b1.extBut ap.i2z).extBut b2.extBut ap.i12.symm).extBut b3.extBut ap.TOi2.symm
  have q2' := ((q2.extBut b1.extBut ap.l2z).extBut b2.extBut ap.l2i1).extBut b3.extBut ap.l2TO
  refine wpAny_bind (RZ.nextOf_tuple_item u2' q2' ey fun g4 v2 b4 => wpAny_pure ?_)
  have o4 : IsPair g4 TO x b := b4.extBut _ _ ap.TOi2 o3
  refine wpAny_bind (wpAny_seqItems o4 rfl (wpAny_bind (wpAny_updateSeq_pair o4 fun g5 o5 b5 => wpAny_bind (wpAny_letGo (wpAny_pure (wpAny_pure ?_))))))
  replace o5 : IsPair g5 TO x y := o5
  refine wpAny_bind (wpAny_seqItems o5 rfl (wpAny_bind (wpAny_newTuple ?_)))
  have sz : g5.objs.size = s.heap.objs.size := by rw [b5.1, b4.1, b3.1, b2.1, b1.1]
  have z5 : IsZip g5 z TI TO .ellipsis := b5.extBut _ _ ap.TOz.symm (b4.extBut _ _ ap.i2z.symm (b3.extBut _ _ ap.TOz.symm (b2.extBut _ _ ap.i1z.symm z1)))
  have st5 : Stays z TO i1 i2 s.heap g5 := fun c o c1 c2 c3 c4 e => b5.extBut _ _ c2 (b4.extBut _ _ c4 (b3.extBut _ _ c2 (b2.extBut _ _ c3 (b1.extBut _ _ c1 e))))
  have w1 := ((v1.extBut b3.extBut ap.TOi1.symm).extBut b4.extBut ap.i12).extBut b5.extBut ap.TOi1.symm
  have w2 := v2.extBut b5.extBut ap.TOi2.symm
  have lz : z < g5.objs.size := Heap.lt_size z5
  show wpAny _ _ (Builtin.SmallTypes.ownedTupleHandOut (.ref z) (.ref g5.objs.size) >>= _) _ _ _
  unfold Builtin.SmallTypes.ownedTupleHandOut
  have z6 : IsZip (g5.push { cls := .type "tuple", data := .seq #[x, y] }) z TI TO .ellipsis := Heap.get?_push_of_some _ z5
  refine wpAny_bind (wpAny_bind (wpAny_setField_rec z6 (by simp) fun g7 z7 b7 => ?_))
  replace z7 : IsZip g7 z TI TO (rawInt g5.objs.size) := z7
  refine wpAny_setField_rec z7 (by simp) fun g8 z8 b8 => ?_
  replace z8 : IsZip g8 z TI TO (rawInt g5.objs.size) := z8
  have up : ∀ c o, c ≠ z → g5.get? c = some o → g8.get? c = some o := fun c o hc e => b8.extBut _ _ hc (b7.extBut _ _ hc (Heap.get?_push_of_some _ e))
  have t8 : IsPair g8 g5.objs.size x y := b8.extBut _ _ (Nat.ne_of_gt lz) (b7.extBut _ _ (Nat.ne_of_gt lz) (Heap.get?_push_size _ rfl))
  have s8 : g8.objs.size = g5.objs.size + 1 := by rw [b8.1, b7.1, Heap.size_push]
  rw [sz] at z8 t8 s8
  refine wpAny_pure ⟨.ref g5.objs.size, rfl, ?_⟩
  rw [sz]
  exact k g8 z8 (up _ _ ap.TOz o5) (w1.at fun o e => up _ o ap.i1z e) (w2.at fun o e => up _ o ap.i2z e) t8 s8 fun c o c1 c2 c3 c4 e => up c o c1 (st5 c o c1 c2 c3 c4 e)
theorem turn_end {Q : PySem.Fin → Shared → Prop} (hh : A.handled = none) (ap : ZipApart z TI TO i1 i2 l1 l2) (zk : IsZip s.heap z TI TO .none) (pi : IsPair s.heap TI (.ref i1) (.ref i2)) (po : IsPair s.heap TO a b)
    (u1 : s.heap.IsListIter i1 l1 n) (u2 : s.heap.IsTupleIter i2 l2 n) (q1 : s.heap.IsList l1 xs) (q2 : s.heap.IsTuple l2 ys) (en : xs[n]? = none ∨ ys[n]? = none)
    (k : ∀ h' e, Stays z TO i1 i2 s.heap h' → (∃ o, h'.get? e = some o ∧ o.cls = .type "StopIteration") → E (.ref e) { s with heap := h' }) :
    wpAny (model prog w) A (Builtin.«zip.__next__» ⟨[.ref z], []⟩) Q E s := by
  show wpAny _ _ (field (.ref z) 2 >>= _) _ _ s
  refine wpAny_bind (wpAny_field zk rfl (x := .bool false) rfl ?_)
  show wpAny _ _ (field (.ref z) 3 >>= _) _ _ s
  refine wpAny_bind (wpAny_field zk rfl (x := .ref TI) rfl (wpAny_bind (wpAny_seqItems pi rfl ?_)))
  show wpAny _ _ (Builtin.SmallTypes.ownedTupleIsFree (.ref z) >>= _) _ _ s
  unfold Builtin.SmallTypes.ownedTupleIsFree
  refine wpAny_bind (wpAny_bind (wpAny_field zk rfl (x := .none) rfl (wpAny_pure ?_)))
  simp only [if_true]
  refine wpAny_bind (wpAny_rule (wpAny_bind (wpAny_field zk rfl (x := .ref TO) rfl (wpAny_bind (wpAny_setField_rec zk (by simp) fun g1 z1 b1 => ?_)))))
  replace z1 : IsZip g1 z TI TO .ellipsis := z1
  refine wpAny_bind ?_
  simp only [List.zipIdx_cons, List.zipIdx_nil, List.forIn_cons, List.forIn_nil]
  refine wpAny_bind (wpAny_bind (wpAny_onRaise ?_))
  show wpAny _ _ (Builtin.SmallTypes.nextOf (.ref i1) >>= _) _ _ { s with heap := g1 }
  have v1 := u1.extBut b1.extBut ap.i1z
  have p1 := q1.extBut b1.extBut ap.l1z
  cases ex : xs[n]? with
  | none =>
    refine wpAny_bind (wpAny_nextOf_list_end hh v1 p1 ex fun g2 e b2 ⟨oe, he, hc⟩ => ?_)
    have z2 : IsZip g2 z TI TO .ellipsis := b2 _ _ ap.i1z.symm z1
    have ez : e ≠ z := fun q => by rw [q, z2] at he; cases he; simp at hc
    exact wpAny_setField_rec z2 (by simp) fun g3 _ b3 => k g3 e (fun c o c1 _ c3 _ q => b3.extBut _ _ c1 (b2 _ _ c3 (b1.extBut _ _ c1 q))) ⟨oe, b3.extBut _ _ ez he, hc⟩
  | some x0 =>
    have ey : ys[n]? = none := en.resolve_left (by rw [ex]; exact fun q => nomatch q)
    refine wpAny_bind (wpAny_nextOf_list_item v1 p1 ex fun g2 v2 b2 => wpAny_pure ?_)
    have o2 : IsPair g2 TO a b := b2.extBut _ _ ap.TOi1 (b1.extBut _ _ ap.TOz po)
    refine wpAny_bind (wpAny_seqItems o2 rfl (wpAny_bind (wpAny_updateSeq_pair o2 fun g3 o3 b3 => wpAny_bind (wpAny_letGo (wpAny_pure ?_)))))
    refine wpAny_bind (wpAny_bind (wpAny_onRaise ?_))
    show wpAny _ _ (Builtin.SmallTypes.nextOf (.ref i2) >>= _) _ _ { s with heap := g3 }
    have u2' := ((u2.extBut b1.extBut ap.i2z).extBut b2.extBut ap.i12.symm).extBut b3.extBut ap.TOi2.symm
    have q2' := ((q2.extBut b1.extBut ap.l2z).extBut b2.extBut ap.l2i1).extBut b3.extBut ap.l2TO
    refine wpAny_bind (RZ.nextOf_tuple_end hh u2' q2' ey fun g4 e b4 ⟨oe, he, hc⟩ => ?_)
    have z4 : IsZip g4 z TI TO .ellipsis := b4 _ _ ap.i2z.symm (b3.extBut _ _ ap.TOz.symm (b2.extBut _ _ ap.i1z.symm z1))
    have ez : e ≠ z := fun q => by rw [q, z4] at he; cases he; simp at hc
    exact wpAny_setField_rec z4 (by simp) fun g5 _ b5 => k g5 e (fun c o c1 c2 c3 c4 q => b5.extBut _ _ c1 (b4 _ _ c4 (b3.extBut _ _ c2 (b2.extBut _ _ c3 (b1.extBut _ _ c1 q))))) ⟨oe, b5.extBut _ _ ez he, hc⟩
/-- how the zip is made -/
abbrev m1 (h : Heap) (l1 : Addr) : Heap := h.push { cls := .type "list_iterator", data := .fields #[.ref l1, .int 0 0] }
abbrev m2 (h : Heap) (l1 l2 : Addr) : Heap := (m1 h l1).push { cls := .type "tuple_iterator", data := .fields #[.ref l2, .int 0 0] }
abbrev m3 (h : Heap) (l1 l2 : Addr) : Heap := (m2 h l1 l2).push { cls := .type "tuple", data := .seq #[.ref h.objs.size, .ref (m1 h l1).objs.size] }
abbrev m4 (h : Heap) (l1 l2 : Addr) : Heap := (m3 h l1 l2).push { cls := .type "tuple", data := .seq #[.none, .none] }
abbrev m5 (h : Heap) (l1 l2 : Addr) : Heap := (m4 h l1 l2).push { cls := .type "zip", data := .fields #[.none, .bool false, .bool false, .ref (m2 h l1 l2).objs.size, .ref (m3 h l1 l2).objs.size] }
end
theorem meets_new (l1 l2 : Addr) (xs ys : Array Value) :
    Meets (Builtin.«zip.__new__» ⟨[.type "zip", .ref l1, .ref l2], []⟩) (fun _ R s => s.heap.IsList l1 xs ∧ s.heap.IsTuple l2 ys ∧ R (.ok (.ret (.ref (m4 s.heap l1 l2).objs.size))) { s with heap := m5 s.heap l1 l2 }) :=
  .of_wp fun prog w A R s h => by
    obtain ⟨hp, g, d, tk, os⟩ := s
    obtain ⟨k1, k2, h⟩ := h
    have sub := sub_zip
    have L1 : Heap.IsList (Shared.heap ⟨hp, g, d, tk, os⟩) l1 xs := k1
    have L2 : Heap.IsTuple (Shared.heap ⟨hp.push { cls := .type "list_iterator", data := .fields #[.ref l1, .int 0 0] }, g, d, tk, os⟩) l2 ys := Heap.IsTuple.push k2 _
    wp_walk using wpAny_pyIter_list L1, wpAny_pyIter_tuple L2
    exact ⟨_, rfl, h⟩
section
variable {prog : Program} {w : World} {A : Around} {E : Value → Shared → Prop} {s : Shared} {z TI TO i1 i2 l1 l2 : Addr} {n : Nat} {xs ys : Array Value} {x y a b : Value}
theorem next_one {Q : Option Value → Shared → Prop} (ap : ZipApart z TI TO i1 i2 l1 l2) (zk : IsZip s.heap z TI TO .none) (pi : IsPair s.heap TI (.ref i1) (.ref i2)) (po : IsPair s.heap TO a b)
    (u1 : s.heap.IsListIter i1 l1 n) (u2 : s.heap.IsTupleIter i2 l2 n) (q1 : s.heap.IsList l1 xs) (q2 : s.heap.IsTuple l2 ys) (ex : xs[n]? = some x) (ey : ys[n]? = some y)
    (k : ∀ h', IsZip h' z TI TO (rawInt s.heap.objs.size) → IsPair h' TO x y → h'.IsListIter i1 l1 (n + 1) → h'.IsTupleIter i2 l2 (n + 1) → IsPair h' s.heap.objs.size x y → h'.objs.size = s.heap.objs.size + 1 → Stays z TO i1 i2 s.heap h' → Q (some (.ref s.heap.objs.size)) { s with heap := h' }) :
    wpAny (model prog w) A (pyNext (.ref z)) Q E s := by
  have ty : s.TypeIs (.ref z) "zip" := ⟨_, zk, rfl⟩
  unfold pyNext
  refine wpAny_bind (wpAny_attempt (wpAny_callSpecial?_slot (name := Str.ofString "__next__") ty F.slot_zip_next ?_))
  exact wpAny_call_entry F.slot_zip_next ty F.entry_zip_next (turn_one ap zk pi po u1 u2 q1 q2 ex ey fun h' c1 c2 c3 c4 c5 c6 c7 => wpAny_pure (k h' c1 c2 c3 c4 c5 c6 c7)) (F.args_zip_next_1 _)
theorem next_end {Q : Option Value → Shared → Prop} (hh : A.handled = none) (ap : ZipApart z TI TO i1 i2 l1 l2) (zk : IsZip s.heap z TI TO .none) (pi : IsPair s.heap TI (.ref i1) (.ref i2)) (po : IsPair s.heap TO a b)
    (u1 : s.heap.IsListIter i1 l1 n) (u2 : s.heap.IsTupleIter i2 l2 n) (q1 : s.heap.IsList l1 xs) (q2 : s.heap.IsTuple l2 ys) (en : xs[n]? = none ∨ ys[n]? = none)
    (k : ∀ h', Stays z TO i1 i2 s.heap h' → Q none { s with heap := h' }) : wpAny (model prog w) A (pyNext (.ref z)) Q E s := by
  have ty : s.TypeIs (.ref z) "zip" := ⟨_, zk, rfl⟩
  unfold pyNext
  refine wpAny_bind (wpAny_attempt (wpAny_callSpecial?_slot (name := Str.ofString "__next__") ty F.slot_zip_next ?_))
  refine wpAny_call_entry F.slot_zip_next ty F.entry_zip_next (turn_end hh ap zk pi po u1 u2 q1 q2 en fun h' e st ⟨o, ho, hc⟩ => ?_) (F.args_zip_next_1 _)
  exact wpAny_bind (wpAny_isInstance (T := "StopIteration") (b := true) ⟨o, ho, hc⟩ isSubtype_stop (wpAny_pure (k _ st)))
theorem call_LT {Q : Value → Shared → Prop} (k1 : s.heap.IsList l1 xs) (k2 : s.heap.IsTuple l2 ys)
    (h : ∀ h', IsZip h' (s.heap.objs.size + 4) (s.heap.objs.size + 2) (s.heap.objs.size + 3) .none → IsPair h' (s.heap.objs.size + 2) (.ref s.heap.objs.size) (.ref (s.heap.objs.size + 1)) → IsPair h' (s.heap.objs.size + 3) .none .none →
      h'.IsListIter s.heap.objs.size l1 0 → h'.IsTupleIter (s.heap.objs.size + 1) l2 0 → (∀ c o, s.heap.get? c = some o → h'.get? c = some o) → Q (.ref (s.heap.objs.size + 4)) { s with heap := h' }) :
    wpAny (model prog w) A (call (.type "zip") [.ref l1, .ref l2]) Q E s := by
  refine callType_new F.called_zip (by decide) (F.typeCall_zip_2 _ _) (F.newCall_zip_2 _ _) (fun obj => F.args_object_init_3 obj _ _) F.entry_zip_new (meets_new l1 l2 xs ys) ⟨k1, k2, ?_⟩
  have n1 : (m1 s.heap l1).objs.size = s.heap.objs.size + 1 := Heap.size_push ..
  have n2 : (m2 s.heap l1 l2).objs.size = s.heap.objs.size + 2 := by rw [Heap.size_push, n1]
  have n3 : (m3 s.heap l1 l2).objs.size = s.heap.objs.size + 3 := by rw [Heap.size_push, n2]
  have n4 : (m4 s.heap l1 l2).objs.size = s.heap.objs.size + 4 := by rw [Heap.size_push, n3]
  have up1 : ∀ {h : Heap} {c : Addr} {o u : Obj}, h.get? c = some o → (h.push u).get? c = some o := fun e => Heap.get?_push_of_some _ e
  have c5 : (m5 s.heap l1 l2).get? (m4 s.heap l1 l2).objs.size = some _ := Heap.get?_push_size _ rfl
  have c4 : (m5 s.heap l1 l2).get? (m3 s.heap l1 l2).objs.size = some _ := up1 (Heap.get?_push_size _ rfl)
  have c3 : (m5 s.heap l1 l2).get? (m2 s.heap l1 l2).objs.size = some _ := up1 (up1 (Heap.get?_push_size _ rfl))
  have c2 : (m5 s.heap l1 l2).get? (m1 s.heap l1).objs.size = some _ := up1 (up1 (up1 (Heap.get?_push_size _ rfl)))
  have c1 : (m5 s.heap l1 l2).get? s.heap.objs.size = some _ := up1 (up1 (up1 (up1 (Heap.get?_push_size _ rfl))))
  show _ ∧ _
  rw [n2, n3, n4] at c5
  rw [n1, n2] at c3
  rw [n3] at c4
  rw [n1] at c2
  rw [n4]
  exact ⟨⟨_, c5, rfl⟩, h _ c5 c3 c4 ⟨_, c1, rfl, rfl⟩ ⟨_, c2, rfl, rfl⟩ fun c o e => up1 (up1 (up1 (up1 (up1 e))))⟩
end
/-- the list at a and the tuple at b as they stand at each turn -/
def Itm (K : PySem.W.Frag) (a b : Addr) : It :=
  ⟨fun i H => ∃ (xs ys : List V) (x y : V), SqL K H a xs ∧ SqT K H b ys ∧ xs[i]? = some x ∧ ys[i]? = some y,
    fun i H v H' => ∃ T x y, v = .ref T ∧ H T = none ∧ H' = upd H T (.tup [x, y]) ∧ (∀ xs, SqL K H a xs → xs[i]? = some x) ∧ ∀ ys, SqT K H b ys → ys[i]? = some y,
    fun i H => ∃ xs ys : List V, SqL K H a xs ∧ SqT K H b ys ∧ (xs.length ≤ i ∨ ys.length ≤ i)⟩
theorem five {α : Type} {c z u v x y : α} {P : α → Prop} (h : c ∈ [z, u, v, x, y]) (h1 : P z) (h2 : P u) (h3 : P v) (h4 : P x) (h5 : P y) : P c := by
  simp only [List.mem_cons, List.not_mem_nil, or_false] at h
  rcases h with h | h | h | h | h <;> rw [h] <;> assumption
theorem stays_of {z TI TO i1 i2 : Addr} {h h' : Heap} (st : Stays z TO i1 i2 h h') : ∀ c o, c ∉ [z, TI, TO, i1, i2] → h.get? c = some o → h'.get? c = some o := fun c o hc e => by
  simp only [List.mem_cons, List.not_mem_nil, or_false, not_or] at hc
  exact st c o hc.1 hc.2.2.1 hc.2.2.2.1 hc.2.2.2.2 e
theorem turn_LT {P : Program} {w : World} {K : PySem.W.Frag} {elts : List Expr} {kk : Nat} {tpos : Pos} {a b z TI TO i1 i2 : Addr} (ap : ZipApart z TI TO i1 i2 a b) :
    Turn P w K (.Tuple elts kk tpos) (Itm K a b) [z, TI, TO, i1, i2] z (fun i h => IsZip h z TI TO .none ∧ IsPair h TI (.ref i1) (.ref i2) ∧ (∃ x y, IsPair h TO x y) ∧ h.IsListIter i1 a i ∧ h.IsTupleIter i2 b i) where
  mem := List.mem_cons_self
  obj := fun i h st c hc => by
    obtain ⟨k1, k2, ⟨x, y, k3⟩, ⟨o1, e1, _, d1⟩, ⟨o2, e2, _, d2⟩⟩ := st
    exact five (P := fun c => ∃ o, h.get? c = some o ∧ ∀ v, o.data ≠ .cell v) hc ⟨_, k1, fun v q => nomatch q⟩ ⟨_, k2, fun v q => nomatch q⟩ ⟨_, k3, fun v q => nomatch q⟩ ⟨o1, e1, fun v q => by rw [d1] at q; cases q⟩ ⟨o2, e2, fun v q => by rw [d2] at q; cases q⟩
  keep := fun i h h' st k => by
    obtain ⟨k1, k2, ⟨x, y, k3⟩, k4, k5⟩ := st
    exact ⟨k z (by simp) _ k1, k TI (by simp) _ k2, ⟨x, y, k TO (by simp) _ k3⟩, k4.at fun o e => k i1 (by simp) o e, k5.at fun o e => k i2 (by simp) o e⟩
  item := by
    intro X eP ew eK hc i pins s σ H E I hf st go
    subst eP ew eK
    obtain ⟨k1, k2, ⟨x0, y0, k3⟩, k4, k5⟩ := st
    obtain ⟨xs, ys, x, y, sx, sy, hx, hy⟩ := go
    obtain ⟨its, rv, p, _⟩ := I.list sx
    obtain ⟨its2, rv2, p2, _⟩ := I.tuple sy
    obtain ⟨u, hu, ru⟩ := rv.get hx
    obtain ⟨u2, hu2, ru2⟩ := rv2.get hy
    have lz : z < s.heap.objs.size := Heap.lt_size k1
    refine next_one ap k1 k2 k3 k4 k5 p.isList p2 (x := u) (y := u2) (by simpa using hu) (by simpa using hu2) fun g1 z1 o1 v1 v2 t1 n1 st1 => ?_
    refine ⟨_, rfl, wpAny_letOwnedTupleGo_zip (s := { s with heap := g1 }) z1 fun g2 z2 sb => ?_⟩
    have t2 : g2.get? s.heap.objs.size = some { cls := .type "tuple", data := .seq #[u, u2] } := (sb.2 _ (Nat.ne_of_gt lz)).trans t1
    have ok : ObjOk X.prog X.w (upd H s.heap.objs.size (.tup [x, y])) g2 s.heap.objs.size (.tup [x, y]) := ⟨by show 2 ≤ sizeLine; decide, [u, u2], .cons ru (.cons ru2 .nil), ⟨_, t2, rfl, _, rfl⟩⟩
    have I1 : Inv X pins σ (upd H s.heap.objs.size (.tup [x, y])) { s with heap := g2 } :=
      I.turnedNew (t' := s.toks) (ch := [z, TI, TO, i1, i2]) (fun c o hc e => (sb.2 c (fun q => hc (by simp [q]))).trans (stays_of st1 c o hc e)) hf (Nat.le_refl _) ok
    have lt : ∀ c ∈ [z, TI, TO, i1, i2], c < s.heap.objs.size := fun c hc => by
      obtain ⟨o4, e4, _⟩ := k4
      obtain ⟨o5, e5, _⟩ := k5
      exact five (P := fun c => c < s.heap.objs.size) hc lz (Heap.lt_size k2) (Heap.lt_size k3) (Heap.lt_size e4) (Heap.lt_size e5)
    refine ⟨.ref s.heap.objs.size, _, I1, rfl, ⟨_, x, y, rfl, I.hok.fresh (Nat.le_refl _), rfl, fun l hl => by rw [I.list_inj hl sx]; exact hx, fun l hl => by rw [I.tuple_inj hl sy]; exact hy⟩, ⟨z2, ?_, ⟨u, u2, ?_⟩, ?_, ?_⟩, fun c hcm => ?_⟩
    · exact (sb.2 _ ap.TIz).trans (st1 _ _ ap.TIz ap.TITO ap.TIi1 ap.TIi2 k2)
    · exact (sb.2 _ ap.TOz).trans o1
    · exact v1.at fun o e => (sb.2 _ ap.i1z).trans e
    · exact v2.at fun o e => (sb.2 _ ap.i2z).trans e
    · rw [upd_ne (Nat.ne_of_lt (lt c hcm))]
      exact (hf c hcm).1
  done := by
    intro X eP ew eK hc i pins s σ H E I hf st go
    subst eP ew eK
    obtain ⟨k1, k2, ⟨x0, y0, k3⟩, k4, k5⟩ := st
    obtain ⟨xs, ys, sx, sy, en⟩ := go
    obtain ⟨its, rv, p, _⟩ := I.list sx
    obtain ⟨its2, rv2, p2, _⟩ := I.tuple sy
    have e1 := rv.length
    have e2 := rv2.length
    have he : its.toArray[i]? = none ∨ its2.toArray[i]? = none := en.imp (fun q => by simp; omega) fun q => by simp; omega
    exact next_end (I.ok.hd hc) ap k1 k2 k3 k4 k5 p.isList p2 he fun g st1 => ⟨rfl, I.turnedL (t' := s.toks) (ch := [z, TI, TO, i1, i2]) (stays_of st1) hf⟩
  self := fun A i s Q E st h => wpAny_pyIter_zip st.1 h
def iZipLT (K : PySem.W.Frag) (ta : TA) : TI := fun σ H R => ta σ H fun vs H1 => ∃ a b xs ys, vs = [.ref a, .ref b] ∧ SqL K H1 a xs ∧ SqT K H1 b ys ∧ R (Itm K a b) H1
theorem pi_zipLT {X : Cx} {e e2 : Expr} {ta : TA} {p pos tpos : Pos} {elts : List Expr} {kk : Nat} (hg : Gl X "zip") (hm : X.mg "zip" = none) (ha : PA X [e, e2] ta)
    (hs : starEach [e, e2] X.env = (false, eval e X.env) :: starEach [e2] X.env := by rfl) (hpl : (backTo pos (starEach [e2] X.env)).any (·.1) = false := by rfl) : PI X (.Tuple elts kk tpos) (.Call (.Name "zip" p) [e, e2] [] pos) (iZipLT X.K ta) := by
  refine ⟨fun pins s σ H R I h => ?_⟩
  refine Call_ (ld_blt I hg hm PyProof.Rows.boot_zip (PyProof.Rows.callWith_type1 (thn (ha.run pos pins s σ H _ I h) fun us s1 ⟨vs, H1, I1, r1, a, b, xs, ys, ev, sx, sy, q⟩ => ?_) hs hpl))
  subst ev
  obtain ⟨w1, w2, rfl, k1, k2⟩ := vals2 r1
  obtain rfl : w1 = Value.ref a := k1
  obtain rfl : w2 = Value.ref b := k2
  obtain ⟨its, rv, p1, _⟩ := I1.list sx
  obtain ⟨its2, rv2, p2, _⟩ := I1.tuple sy
  obtain ⟨ob, hob, _⟩ := id p2
  refine call_LT p1.isList (show s1.heap.IsTuple b its2.toArray from p2) fun g zk pi po u1 u2 kp => wpAny_pyIter_zip zk ?_
  have I2 : Inv X pins σ H1 { s1 with heap := g } := I1.kept (t' := s1.toks) kp
  refine ⟨s1.heap.objs.size + 4, [s1.heap.objs.size + 4, s1.heap.objs.size + 2, s1.heap.objs.size + 3, s1.heap.objs.size, s1.heap.objs.size + 1], _, _, H1, rfl, I2, turn_LT (PySem.W.ktu_apart s1.heap.objs.size a b p1.lt (Heap.lt_size hob)), ⟨zk, pi, ⟨_, _, po⟩, u1, u2⟩, fun c hc => ?_, q⟩
  have le : s1.heap.objs.size ≤ c := five (P := fun c => s1.heap.objs.size ≤ c) hc (by omega) (by omega) (by omega) (by omega) (by omega)
  exact I1.fpOk le (I1.hok.fresh le)
theorem walk_LT {K : PySem.W.Frag} {a b : Addr} {xs ys : List V} {n : Nat} (hn : n = min xs.length ys.length) : Walk (Itm K a b) n (fun H => SqL K H a xs ∧ SqT K H b ys) (YPair (fun i => xs[i]?) (fun i => ys[i]?)) := by
  subst hn
  refine ⟨fun i _ hi q => ⟨xs, ys, xs[i]'(by omega), ys[i]'(by omega), q.1, q.2, List.getElem?_eq_getElem (by omega), List.getElem?_eq_getElem (by omega)⟩, fun _ q => ⟨xs, ys, q.1, q.2, by omega⟩, fun i H v H' _ q y => ?_⟩
  obtain ⟨T, x, y, c1, c2, c3, c4, c5⟩ := y
  exact ⟨T, x, y, c1, c2, c3, c4 xs q.1, c5 ys q.2⟩
end LT
namespace Bp
open PySem PySem.Spec PyProof.Rows L2
open Evl (Ex)
/-- es goes with ds, item by item -/
def Goes (P : D → D → Prop) (ds es : List D) : Prop := es.length = ds.length ∧ ∀ (i : Nat) x y, ds[i]? = some x → es[i]? = some y → P x y
section
variable {K : PySem.W.Frag} {σ : L2.St} {F H : Hp} {tl te : TE} {ta : TA} {D0 : Ends} {tz tu : TS} {i j : Nat} {ds : List D} {P : D → D → Prop} {ws : List Nat}
/-- [e for x in a tuple], what e evaluates to told by a property -/
theorem ex_lcT (h : ED tl σ F (.tup ds)) (hz : ds.length < 50000) (hw : ∀ x, wipe ((wipe σ ws).set j (some x)) ws = wipe σ ws)
    (he : ∀ d v F1, d ∈ ds → Ex F F1 → Rp F1 v d → EX te ((wipe σ ws).set j (some v)) F1 (P d)) : EX (tLc (iTup K tl) (gName j) tYes te ws) σ F (fun d => ∃ es, d = .lst es ∧ Goes P ds es) := fun F0 H0 e1 e2 Q q => h F0 H0 e1 e2 _ fun v F1 H1 n1 r1 => by
  obtain ⟨a, vs, rfl, ha, hr⟩ := r1.tuple
  have hn := hr.n
  refine ⟨a, rfl, ⟨vs, Evl.st_of (n1.fh _ _ ha)⟩, fun Dl hD => ?_⟩
  refine lc_tup (xs := vs) (fun n H' => ∃ es, es.length = n ∧ Cw F1 H1 Dl es H' ∧ ∀ (k : Nat) x y, ds[k]? = some x → es[k]? = some y → P x y) ⟨[], rfl, Cw.start n1.fh hD, fun k x y _ z => by simp at z⟩ (fun n H' _ c => ?_) (fun n x H' hx c => ⟨hw x, ?_⟩) (fun H' c => ?_)
  · obtain ⟨_, _, c, _⟩ := c
    obtain ⟨Fi, us, nx, _⟩ := c.ex
    exact Evl.st_of (nx.fh _ _ (nx.f _ _ ha))
  · obtain ⟨es, le, c, all⟩ := c
    obtain ⟨d, hd, rd⟩ := hr.getv hx
    obtain ⟨Fi, us, nx, fD, hDl, rs⟩ := c.ex
    have hlt := (List.getElem?_eq_some_iff.mp hx).1
    refine he d x F1 (List.mem_of_getElem? hd) (e1.trans n1.f) rd Fi H' nx.f nx.fh _ fun d2 v2 F3 H3 p2 n3 r3 => ?_
    have f3 := n3.n Dl (by rw [hDl]; exact fun z => nomatch z) fD
    refine ⟨us, n3.h _ _ hDl, Evl.sz_lt (by rw [rs.n, le]; omega), es ++ [d2], by simp [le], ⟨⟨F3, us ++ [v2], (nx.trans n3).mut c.h0 f3, f3, upd_same, (rs.mono n3.f).snoc r3⟩, c.h0⟩, fun k x' y' hx' hy' => ?_⟩
    by_cases lt : k < es.length
    · rw [List.getElem?_append_left lt] at hy'
      exact all k x' y' hx' hy'
    · rw [List.getElem?_append_right (by omega)] at hy'
      have hk : k = n := by
        cases e : k - es.length with
        | zero => omega
        | succ m => rw [e] at hy'; simp at hy'
      subst hk
      rw [hd] at hx'
      rw [show k - es.length = 0 from by omega] at hy'
      cases hx'; cases hy'
      exact p2
  · obtain ⟨es, le, c, all⟩ := c
    obtain ⟨F2, n2, r2⟩ := c.done
    exact q _ _ F2 H' ⟨es, rfl, by rw [le, hn], all⟩ (n1.trans n2) r2
/-- for x, y in zip(a list, a tuple) -/
theorem q_forZT {es : List D} (e : Ex F H) (h : EA ta σ F [.lst ds, .tup es]) (hn : ds.length = es.length)
    (k : ∀ F1 H1, Nx F H F1 H1 → ∃ P : Nat → L2.St → Hp → Prop, P 0 σ H1 ∧ (∀ n σ' H', P n σ' H' → Ex F1 H') ∧
      (∀ n v u d d' σ' H' H'', ds[n]? = some d → es[n]? = some d' → Rp F1 v d → Rp F1 u d' → P n σ' H' → Ex H' H'' → tu { D0 with nx := P (n + 1), ct := P (n + 1), bk := tz D0 } ((σ'.set i (some v)).set j (some u)) H'') ∧ (∀ σ' H', P ds.length σ' H' → tz D0 σ' H')) :
    tSeq (tFor (LT.iZipLT K ta) (gTup K 2 (gCons (gName i) (gCons (gName j) gNil))) tu) tz D0 σ H :=
  h F H (Ex.refl F) e _ fun vs F1 H1 n1 r1 => by
    obtain ⟨v, us, rfl, h1, h2⟩ := r1.uncons
    obtain ⟨w, us, rfl, h3, h2⟩ := h2.uncons
    obtain rfl := h2.unnil
    obtain ⟨a, xs, rfl, ha, hr⟩ := h1.list
    obtain ⟨b, ys, rfl, hb, hs⟩ := h3.tuple
    obtain ⟨P, p0, pe, ps, pd⟩ := k F1 H1 n1
    refine ⟨a, b, xs, ys, rfl, Evl.sq_of (n1.fh _ _ ha), Evl.st_of (n1.fh _ _ hb), for_it (D := { D0 with nx := tz D0 }) (LT.walk_LT (xs := xs) (ys := ys) (n := ds.length) (by rw [hr.n, hs.n, hn, Nat.min_self])) P p0 (fun n σ' H' _ c => ⟨Evl.sq_of (pe n σ' H' c _ _ ha), Evl.st_of (pe n σ' H' c _ _ hb)⟩) (fun n x σ' H' H'' hlt c y => ?_) pd⟩
    obtain ⟨T, x1, y1, rfl, hT, rfl, e1, e2⟩ := y
    obtain ⟨d, hd, rd⟩ := hr.getv e1
    obtain ⟨d', hd', rd'⟩ := hs.getv e2
    exact ⟨T, _, rfl, Evl.st_of upd_same, rfl, _, _, rfl, _, _, rfl, rfl, ps n _ _ d d' σ' H' _ hd hd' rd rd' c (Ex.new hT)⟩
/-- all of truth values -/
theorem rps_bools {F : Hp} : ∀ {bs : List Bool} {vs : List V}, Rps F vs (bs.map D.bl) → vs = bs.map V.bl
  | [], vs, h => h.unnil
  | b :: bs, vs, h => by
    obtain ⟨v, us, rfl, h1, h2⟩ := Rps.uncons (d := .bl b) (ds := bs.map D.bl) h
    rw [h1.ebl, rps_bools h2]; rfl
theorem rl_all {bs : List Bool} : RL (rAll K) F [.lst (bs.map D.bl)] (.bl (bs.all id)) := fun F1 H1 vs _ e2 rv Q q => by
  obtain ⟨v, us, rfl, h1, h2⟩ := rv.uncons
  obtain rfl := h2.unnil
  obtain ⟨a, ws, rfl, ha, hr⟩ := h1.list
  rw [rps_bools hr] at ha
  exact ⟨a, bs, rfl, Evl.sq_of (e2 _ _ ha), q _ F1 H1 (Nx.refl e2) (.bl _)⟩
end
end Bp
namespace Bp
open PySem PySem.Spec PyProof.Rows L2
open Evl (Ex)
def wrong10 (m : Int) (g : List Int) : List D := [.lst [], .lst [.int 0, .int 0], .lst [.int m], .lst [.int (-1)], .lst [.bl true], .tup [.int 0], .non, li (g ++ [0]), .lst [.non], .lst [.str "0"], .lst [.int 0, .lst []], .lst [.bl false]]
theorem wrong10_ok {n : Nat} {g : List Int} {y : D} (hg : Up n g) (hne : g ≠ []) (h : y ∈ wrong10 n g) : noObjs y = true ∧ isGuess y n = false := by
  simp only [wrong10, List.mem_cons, List.not_mem_nil, or_false] at h
  have no : ∀ xs : List Int, ¬ Up n xs → noObjs (li xs) = true ∧ isGuess (li xs) n = false := fun xs hx => ⟨noObjs_li _, by
    rw [Bool.eq_false_iff]; intro z; exact hx ((isGuess_li (Int.natCast_nonneg _)).mp z).1⟩
  rcases h with rfl | rfl | rfl | rfl | rfl | rfl | rfl | rfl | rfl | rfl | rfl | rfl
  · exact ⟨rfl, by simp [isGuess, isNilD]⟩
  · exact no [0, 0] fun z => by have := z.1; simp at this
  · exact no [(n : Int)] fun z => by have := z.2 n (by simp); omega
  · exact no [-1] fun z => by have := z.2 (-1) (by simp); omega
  · exact ⟨rfl, by simp [isGuess, isRising, rises]⟩
  · exact ⟨rfl, by simp [isGuess, isRising]⟩
  · exact ⟨rfl, by simp [isGuess, isRising]⟩
  · refine no _ fun z => ?_
    cases g with
    | nil => exact hne rfl
    | cons x xs =>
      have h1 := hg.2 x (by simp)
      have h2 := (List.pairwise_append.mp z.1).2.2 x (by simp) 0 (by simp)
      omega
  all_goals exact ⟨rfl, by simp [isGuess, isRising, rises]⟩
/-- the law's def, a table of code objects beside the script -/
def spLawT (K : PySem.W.Frag) (LP : Addr) : Sp := fun vs H Q _ => ∃ (a : Addr) (ns : List Int), vs = [.ref a] ∧ SqL K H a (ns.map V.int) ∧ ns.length ≤ 63 ∧ H LP = some (.tbl #[]) ∧ ∀ H', Q (.bl true) H'
section
variable {K : PySem.W.Frag} {σ : L2.St} {F H : Hp} {t0 t1 te : TE} {E : XK} {A : Ad} {l : List Int} {dd : List (List (List Int))} {w g : List Int}
theorem q_ifNotB {D0 : Ends} {tz tu : TS} (h : ∀ Q : VK, (∀ H2, Ex H H2 → Q (.bl true) H2) → te σ H Q) (k : ∀ H2, Ex H H2 → tz D0 σ H2) : tSeq (tIfS (tNot (tB te)) tu tNext) tz D0 σ H := h _ fun H2 x => ⟨true, rfl, k H2 x⟩
theorem ex_neverE (hs : Hs l dd w) (hg : isGuess (li g) l.length = true) (h0 : ED t0 σ F (hsD A.hs (li l) (llli dd) (li w))) (h1 : ED t1 σ F (li g)) : EX (tCall (spNeverE A) [] E (tCons t0 (tCons t1 tNil))) σ F (NevD l dd w g) := fun F1 H1 e1 e2 Q q =>
  h0 F1 H1 e1 e2 _ fun u F2 H2 n2 r2 => h1 F2 H2 (e1.trans n2.f) n2.fh _ fun v F3 H3 n3 r3 => ⟨F3, l, dd, w, u, v, li g, rfl, n3.fh, r2.mono n3.f, hs, r3, noObjs_li g, .inr ⟨g, rfl, hg, fun o H4 lo =>
    ⟨fun on x4 => q .non .non F3 H4 ⟨o, lo, .inl ⟨on, rfl⟩⟩ ((n2.trans n3).up x4) .non, fun on v4 G ps zs nw rv nv => by
      obtain ⟨n4, eG⟩ := nw.nx n3.fh
      exact q (lli zs) v4 _ H4 ⟨o, lo, .inr ⟨on, ps, zs, rfl, nv⟩⟩ ((n2.trans n3).trans n4) (rv.mono eG)⟩⟩⟩
end
end Bp
namespace Bp
open PySem PySem.Spec PyProof.Rows L2
/-- the end of a law that reaches one def, nm, that makes a lambda: nm's code object and its empty table come from the head -/
theorem ends_tabled {l : PySem.W.OpenLaw} {n k : Nat} {q : Program} {loose : List Str} {XP : (Str → Option Value) → Heap → Prop} {YP : World → Heap → Prop} {d dn : DefRec} {K : Params → PySem.W.Frag} {CX : World → CXT} {x nm : Str}
    (most : l.most = some n) (few : n ≤ sizeLine) (nodef : d.params.defaults = []) (room : Room k callerA) (isrec : (PyProof.Rows.recsOf q).find? (fun e => e.name == nm) = some dn) (inY : ∀ (w : World) (h : Heap), YP w h → (K w.params).In h)
    (at_ : ∀ (w : World) (mg : Str → Option Value) (fa : Addr) (h : Heap), YP w h → (K w.params).In h → h.Ns mainGlobals mg → mg d.name = some (.ref fa) →
      (∀ c T : Addr, PySem.W.tabIn (K w.params) nm = some (c, T) → PySem.W.CodeHd h c T ∧ h.get? T = some { cls := .none, data := .fields #[] }) → LamX.LawAtS l w (K w.params) (CX w) k n x mg fa h)
    (noway : ∀ (w : World) (H : Hp) (s : Shared) (e : Value) (s' : Shared), CX w [] H s (fun _ _ _ => False) e s' → False) :
    PySem.W.WalkO q loose XP YP l.row.toRowW d [] (fun f vs => PySem.call f vs) := by
  refine Att.attach_callB most nodef fun w s0 s1 mg mb fa o pm cd doc a vs ns G Y ho hd hcd named obj are len bits gens => ?_
  have inK := inY w _ Y
  obtain ⟨fd, cs, sp, t1, t2, t3, t4, t5, t6⟩ := at_ w mg fa _ Y inK G.T.g named fun c T e => PySem.W.tab_of G.T inK isrec e
  exact LamX.law_callTs inK G.T.g G.T.b G.T.builtins G.T.nolimit gens t1 t2 t3 G.T.bmain obj are (Nat.le_trans len few) room t6 t4 (fun H hH hS => t5 H a ns len bits hH hS) fun H e s' => noway w H s1 e s'
end Bp
namespace Bp
open PySem PySem.Spec PyProof.Rows L2
open Evl (Ex)
/-- what failing shows: for each k up to s the parts that no plan with at most k steps leads from -/
structure ShownOk (l : List Int) (dd : List (List (List Int))) (w g : List Int) (s : Nat) (zs : Nat → List (List Int)) : Prop where
  ne : ∀ k, k ≤ s → zs k ≠ []
  gu : ∀ k, ∀ q ∈ zs k, isGuess (li q) l.length = true
  nd : ∀ k, (zs k).Nodup
  st : ∀ q ∈ zs 0, ∃ r ∈ q, r ∉ w
  out : ∀ k, ∀ q ∈ zs (k + 1), NoOut l dd w q (zs k)
  fst : ∃ q ∈ seesOf l g, q ∈ zs s
  few : ∀ k, (zs k).length ≤ 256
def rowsOfZ (s : Nat) (zs : Nat → List (List Int)) : D := .lst ((List.range (s + 1)).map fun k => lli (zs k))
def FailD (l : List Int) (dd : List (List (List Int))) (w g : List Int) (s : Nat) (d : D) : Prop := (∃ m : Int, LeastIs l dd w g (some m) ∧ m ≤ (s : Int) ∧ d = .non) ∨ ∃ zs, ShownOk l dd w g s zs ∧ d = rowsOfZ s zs
section
variable {l : List Int} {dd : List (List (List Int))} {w g : List Int} {ps : List (List Int)} {s : Nat} {o : Option Int}
theorem least_same {m m' : Int} (h : LeastIs l dd w g (some m)) (h' : LeastIs l dd w g (some m')) : m = m' := by
  obtain ⟨a, rfl, a1, a2⟩ := h
  obtain ⟨b, rfl, b1, b2⟩ := h'
  have h1 : ¬ a < b := fun z => by have := b2 a z; rw [a1] at this; cases this
  have h2 : ¬ b < a := fun z => by have := a2 b z; rw [b1] at this; cases this
  omega
theorem shown_ok (cl : Closed l dd g ps) (nd : ps.Nodup) (lo : LeastIs l dd w g o) (big : ∀ m, o = some m → (s : Int) < m) : ShownOk l dd w g s fun k => ps.filter fun q => !leadIn l dd w k q := by
  have no : leadG l dd w s g = false := by
    cases o with
    | none => exact lo s
    | some v =>
      obtain ⟨m, rfl, _, h⟩ := lo
      have := big _ rfl
      exact h s (by omega)
  have mem : ∀ {k q}, q ∈ (ps.filter fun q => !leadIn l dd w k q) ↔ q ∈ ps ∧ leadIn l dd w k q = false := fun {k q} => by
    rw [List.mem_filter, Bool.not_eq_true']
  have first : ∃ q ∈ seesOf l g, leadIn l dd w s q = false := by
    unfold leadG at no
    rw [List.all_eq_false] at no
    obtain ⟨q, h1, h2⟩ := no
    exact ⟨q, h1, by simpa using h2⟩
  obtain ⟨q0, h0, n0⟩ := first
  refine ⟨fun k hk z => ?_, fun k q hq => (cl.p q (mem.mp hq).1).guess, fun k => nd.filter _, fun q hq => ?_, fun k q hq => ?_, ⟨q0, h0, mem.mpr ⟨cl.s q0 h0, n0⟩⟩, fun k => Nat.le_trans (List.length_filter_le _ _) cl.n⟩
  · have : q0 ∈ (ps.filter fun q => !leadIn l dd w k q) := mem.mpr ⟨cl.s q0 h0, by
      cases c : leadIn l dd w k q0 with
      | false => rfl
      | true => have := lead_up hk c; rw [n0] at this; cases this⟩
    rw [show (ps.filter fun q => !leadIn l dd w k q) = [] from z] at this
    cases this
  · have := (mem.mp hq).2
    unfold leadIn at this
    rw [List.all_eq_false] at this
    obtain ⟨r, hr, hw⟩ := this
    exact ⟨r, hr, by simpa using hw⟩
  · obtain ⟨h1, h2⟩ := mem.mp hq
    refine ⟨?_, fun fs hfs => ?_⟩
    · have : leadIn l dd w 0 q = false := by
        cases c : leadIn l dd w 0 q with
        | false => rfl
        | true => have := lead_up (Nat.zero_le (k + 1)) c; rw [h2] at this; cases this
      unfold leadIn at this
      rw [List.all_eq_false] at this
      obtain ⟨r, hr, hw⟩ := this
      exact ⟨r, hr, by simpa using hw⟩
    · unfold leadIn at h2
      rw [Bool.or_eq_false_iff] at h2
      have := h2.2
      rw [List.any_eq_false] at this
      have := this fs hfs
      rw [Bool.not_eq_true, List.all_eq_false] at this
      obtain ⟨r, hr, hn⟩ := this
      exact ⟨r, hr, mem.mpr ⟨cl.c q h1 fs hfs r hr, by simpa using hn⟩⟩
end
/-- failing: what it refuses, None, or its lists made anew -/
def spFailN (A : Ad) : Sp := fun vs H Q E => ∃ F l dd w v0 v1 v2 y x, vs = [v0, v1, v2] ∧ Ex F H ∧ Rp F v0 (hsD A.hs (li l) (llli dd) (li w)) ∧ Hs l dd w ∧ Rp F v1 y ∧ Rp F v2 x ∧ noObjs y = true ∧ noObj x = true ∧
  ((isGuess y l.length = false ∧ ∀ H2, Ex H H2 → E (.ref A.bg) none H2) ∨ ∃ g, y = li g ∧ isGuess (li g) l.length = true ∧
    ((isWhole x 151 = false ∧ ∀ H2, Ex H H2 → E (.ref A.bs) none H2) ∨ ∃ s : Nat, x = .int (s : Int) ∧ s ≤ 150 ∧ ∀ d v G H2, FailD l dd w g s d → Nw H G H2 → Rp G v d → Q v H2))
def R_shown (ds : List D) (d : D) : Prop := ∃ l dd w g s zs, ds = [.tup [li l, llli dd, li w], li g, rowsOfZ s zs, .int ((s : Nat) : Int)] ∧ Hs l dd w ∧ isGuess (li g) l.length = true ∧ s ≤ 150 ∧ ShownOk l dd w g s zs ∧ d = .bl true
def R_refF (A : Ad) (ds : List D) (d : D) : Prop := ∃ l dd w y x, ds = [hsD A.hs (li l) (llli dd) (li w), y, x] ∧ Hs l dd w ∧ noObjs y = true ∧ noObj x = true ∧
  ((isGuess y l.length = false ∧ d = .str "guess") ∨ ∃ g, y = li g ∧ isGuess (li g) l.length = true ∧ isWhole x 151 = false ∧ d = .str "steps")
/-- what failing gave holds -/
def spStands (A : Ad) (LP : Addr) : Sp := fun vs H Q _ => ∃ F l dd w g s v0 v1 v2 v3 d, vs = [v0, v1, v2, v3, .int ((s : Nat) : Int)] ∧ Ex F H ∧ NoT F ∧ TabOk LP H ∧ Rp F v0 (hsD A.hs (li l) (llli dd) (li w)) ∧ Rp F v1 (.tup [li l, llli dd, li w]) ∧
  Rp F v2 (li g) ∧ Hs l dd w ∧ isGuess (li g) l.length = true ∧ s ≤ 150 ∧ FailD l dd w g s d ∧ Rp F v3 d ∧ ∀ H2, Ex F H2 → TabOk LP H2 → Q (.bl true) H2
end Bp
namespace Bp
open PySem PySem.Spec PyProof.Rows L2
open Evl (Ex)
theorem orT_K {X : Cx} (K : PySem.W.Frag) {a b : Expr} {ta tb : TE} {rest : List Expr} {pos : Pos} (ha : PE X a ta) (hb : PE X (.BoolOp .Or (b :: rest) pos) tb) (h : X.K = K := by rfl) : PE X (.BoolOp .Or (a :: b :: rest) pos) (tOrT K ta tb) := by
  subst h; exact pe_orT ha hb
/-- made anew, told by a property -/
def EY (te : TE) (σ : L2.St) (F : Hp) (P : D → Prop) : Prop := ∀ F1 H1, Ex F F1 → Ex F1 H1 → ∀ Q : VK, (∀ d v G H2, P d → Nw H1 G H2 → Rp G v d → Q v H2) → te σ H1 Q
/-- a new list, its items made anew apart from it -/
def ELY (te : TE) (σ : L2.St) (F : Hp) (P : List D → Prop) : Prop := ∀ F1 H1, Ex F F1 → Ex F1 H1 → ∀ Q : VK, (∀ a us es G H2, P es → Nw H1 G H2 → G a = none → H1 a = none → H2 a = some (.lst us) → Rps G us es → Q (.ref a) H2) → te σ H1 Q
section
variable {K : PySem.W.Frag} {σ : L2.St} {F H : Hp} {t0 t1 t2 te : TE} {ta : TA} {D0 : Ends} {tz tu : TS} {i j : Nat} {ws : List Nat} {E : XK} {A : Ad}
theorem EY.ex {P : D → Prop} (h : EY te σ F P) : EX te σ F P := fun F1 H1 e1 e2 Q q => h F1 H1 e1 e2 Q fun d v G H2 p n r => by
  obtain ⟨k1, k2⟩ := n.nx e2
  exact q d v _ H2 p k1 (r.mono k2)
theorem q_asgLY {P : List D → Prop} (e : Ex F H) (h : ELY te σ F P) (k : ∀ a us es G H2, P es → Nw H G H2 → G a = none → H a = none → H2 a = some (.lst us) → Rps G us es → tz D0 (σ.set i (some (.ref a))) H2) : tSeq (tAsg te (gName i)) tz D0 σ H := h F H (Ex.refl F) e _ k
theorem ey_fail {l : List Int} {dd : List (List (List Int))} {w g : List Int} {s : Nat} (hs : Hs l dd w) (hg : isGuess (li g) l.length = true) (s150 : s ≤ 150) (h0 : ED t0 σ F (hsD A.hs (li l) (llli dd) (li w))) (h1 : ED t1 σ F (li g)) (h2 : ED t2 σ F (.int (s : Int))) :
    EY (tCall (spFailN A) [] E (tCons t0 (tCons t1 (tCons t2 tNil)))) σ F (FailD l dd w g s) := fun F1 H1 e1 e2 Q q =>
  (ea_cons h0 (ea_cons h1 (ea_cons h2 ea_nil))) F1 H1 e1 e2 _ fun vs F2 H2 n2 r2 => by
    obtain ⟨u0, _, rfl, r0, r2⟩ := r2.uncons
    obtain ⟨u1, _, rfl, r1, r2⟩ := r2.uncons
    obtain ⟨u2, _, rfl, ru, r3⟩ := r2.uncons
    obtain rfl := r3.unnil
    exact ⟨F2, l, dd, w, u0, u1, u2, li g, .int (s : Int), rfl, n2.fh, r0, hs, r1, ru, noObjs_li g, rfl, .inr ⟨g, rfl, hg, .inr ⟨s, rfl, s150, fun d v G H3 fd nw rv => q d v G H3 fd (Nw.pre n2.h nw) rv⟩⟩⟩
/-- [g for x in range(n)], each made anew, told by a property -/
theorem ely_lcR {n : Nat} {P : Nat → D → Prop} (h : EA ta σ F [.int (n : Int)]) (hz : n < 50000) (hw : ∀ x, wipe ((wipe σ ws).set j (some x)) ws = wipe σ ws)
    (he : ∀ (x : Nat) F1, x < n → Ex F F1 → EY te ((wipe σ ws).set j (some (.int (x : Int)))) F1 (P x)) : ELY (tLc (iRng1 ta) (gName j) tYes te ws) σ F (fun es => es.length = n ∧ ∀ k d, es[k]? = some d → P k d) := fun F0 H0 e1 e2 Q q => h F0 H0 e1 e2 _ fun vs F1 H1 n1 r1 => by
  obtain ⟨v, us, rfl, h1, h2⟩ := r1.uncons
  rw [h2.unnil, h1.eint]
  refine ⟨(n : Int), rfl, by omega, by omega, fun Dl hD => ?_⟩
  refine lc_range (lo := 0) (n := n) (fun i H' => ∃ es, es.length = i ∧ Cn F1 H1 Dl es H' ∧ ∀ k d, es[k]? = some d → P k d) ⟨[], rfl, Cn.start n1.fh hD, fun k d z => by simp at z⟩ (fun i H' hi p => ⟨hw _, ?_⟩) (fun H' p => ?_)
  · obtain ⟨es, le, c, all⟩ := p
    have e0 : (0 : Int) + (i : Int) = (i : Int) := Int.zero_add _
    rw [e0]
    obtain ⟨G, us, nn, e, f, hD', r⟩ := c.ex
    refine he i F1 (by omega) (e1.trans n1.f) F1 H' (Ex.refl F1) e _ fun d v G3 H3 pd n3 r3 => ?_
    have g3 : G3 Dl = none := by
      cases q : G3 Dl with
      | none => rfl
      | some o => have := n3.n Dl (by rw [q]; exact fun z => nomatch z); rw [hD'] at this; cases this
    have h3 := n3.h _ _ hD'
    have gd : un G G3 Dl = none := by
      cases q : un G G3 Dl with
      | none => rfl
      | some o =>
        rcases un_some (G1 := G) (G2 := G3) (p := Dl) (by rw [q]; exact fun z => nomatch z) with k | k
        · exact absurd f k
        · exact absurd g3 k
    have nu := nn.join n3
    refine ⟨us, h3, Evl.sz_lt (by rw [r.n, le]; omega), es ++ [d], by simp [le], ⟨⟨un G G3, us ++ [v], ⟨Ex.mut nu.h c.h0, Ex.mut nu.g gd, nu.n⟩, Ex.mut (e.trans n3.h) c.f0, gd, upd_same, (r.mono un_l).snoc (r3.mono (un_r (nn.dis n3)))⟩, c.h0, c.f0⟩, fun k x hx => ?_⟩
    by_cases lt : k < es.length
    · rw [List.getElem?_append_left lt] at hx
      exact all k x hx
    · rw [List.getElem?_append_right (by omega)] at hx
      have hk : k = i := by
        cases e : k - es.length with
        | zero => omega
        | succ m => rw [e] at hx; simp at hx
      subst hk
      rw [show k - es.length = 0 from by omega] at hx
      cases hx
      exact pd
  · obtain ⟨es, le, c, all⟩ := p
    obtain ⟨G, us, nn, e, f, hD', r⟩ := c.ex
    have h0 : H0 Dl = none := by
      cases q : H0 Dl with
      | none => rfl
      | some o => have := n1.h _ _ q; rw [hD] at this; cases this
    exact q Dl us es G H' ⟨le, all⟩ (Nw.pre n1.h nn) f h0 hD' r
/-- for x in (y or [])[:1] -/
theorem s_forO {v : V} (hi : σ[i]? = some (some v)) (k0 : v = .non → ∀ H2, Ex H H2 → D0.nx σ H2) (hv : v = .non ∨ ∃ c u us, v = .ref c ∧ H c = some (.lst (u :: us)) ∧
      ∀ p, H p = none → ∃ N : L2.St → Hp → Prop, (∀ σ' H', N σ' H' → H' p = some (.lst [u]) ∧ D0.nx σ' H') ∧ tu { D0 with nx := N, ct := N, bk := D0.nx } (σ.set j (some u)) (upd H p (.lst [u]))) :
    tFor (iList K (tSl (rSlL K) (tOrT K (tVar i) (tLst tNil)) tNoPart (tPart (tC (.int 1))))) (gName j) tu D0 σ H := by
  have cut : ∀ xs : List V, cutV xs none (some 1) = xs.take 1 := fun xs => by
    unfold cutV
    rw [show HT.sIx xs.length 0 none = 0 from rfl, show (some (1 : Int)) = some ((1 : Nat) : Int) from rfl, HT.sIx_nat, List.drop_zero]
    cases xs <;> simp
  rcases hv with rfl | ⟨c, u, us, rfl, hc, kb⟩
  · refine ⟨.non, hi, false, rfl, ?_⟩
    rw [if_neg Bool.false_ne_true]
    refine ⟨Nat.zero_le _, fun z hz => ⟨1, rfl, z, [], rfl, Evl.sq_of upd_same, fun p hp => ?_⟩⟩
    rw [cut]
    refine ⟨p, rfl, ⟨_, Evl.sq_of upd_same⟩, for_list (xs := []) (fun _ σ' H' => σ' = σ ∧ H' = upd (upd H z (.lst [])) p (.lst [])) ⟨rfl, rfl⟩ (fun n σ' H' _ h => by rw [h.2]; exact Evl.sq_of upd_same) (fun n x σ' H' hx h => by simp at hx) fun σ' H' h => ?_⟩
    rw [h.1, h.2]
    exact k0 rfl _ ((Ex.new hz).trans (Ex.new hp))
  · refine ⟨.ref c, hi, true, .inl ⟨_, Evl.sq_of hc, rfl⟩, ?_⟩
    rw [if_pos rfl]
    refine ⟨1, rfl, c, u :: us, rfl, Evl.sq_of hc, fun p hp => ?_⟩
    rw [cut]
    obtain ⟨N, kn, kt⟩ := kb p hp
    refine ⟨p, rfl, ⟨_, Evl.sq_of upd_same⟩, for_list (xs := [u]) (fun n σ' H' => match n with | 0 => σ' = σ ∧ H' = upd H p (.lst [u]) | _ + 1 => N σ' H') ⟨rfl, rfl⟩ (fun n σ' H' _ h => ?_) (fun n x σ' H' hx h => ?_) fun σ' H' h => (kn σ' H' h).2⟩
    · cases n with
      | zero => rw [h.2]; exact Evl.sq_of upd_same
      | succ n => exact Evl.sq_of (kn σ' H' h).1
    · cases n with
      | zero =>
        obtain ⟨rfl, rfl⟩ := h
        cases hx
        exact kt
      | succ n => simp at hx
/-- x.append([k]) -/
theorem s_appL {b : Addr} {us : List V} {k : Int} (hi : σ[i]? = some (some (.ref b))) (hb : H b = some (.lst us)) (hz : us.length < 100000) (q : ∀ z, H z = none → D0.nx σ (upd (upd H z (.lst [.int k])) b (.lst (us ++ [.ref z])))) :
    tDrop (tBM K "list" rAppend (tVar i) (tCons (tLst (tCons (tC (.int k)) tNil)) tNil)) D0 σ H := ⟨_, hi, Or.inl ⟨rfl, us, Evl.sq_of hb⟩, Evl.sz_of (by show 1 ≤ 100000; decide), fun z hz' => ⟨b, us, .ref z, rfl, rfl, (Ex.new hz') _ _ hb, Evl.sz_lt hz, q z hz'⟩⟩
theorem q_clrV {p : Addr} {xs : List V} (h : EvV te σ H (.ref p)) (hp : H p = some (.lst xs)) (k : tz D0 σ (upd H p (.lst []))) : tSeq (tDrop (tBM0 K "list" rClear te)) tz D0 σ H := h _ ⟨Or.inl ⟨rfl, xs, Evl.sq_of hp⟩, p, xs, rfl, rfl, hp, k⟩
theorem q_extV {p : Addr} {v : V} {ns : List Int} (e : Ex F H) (h : EvV te σ H (.ref p)) (hp : H p = some (.lst [])) (hj : σ[j]? = some (some v)) (hw : Rp F v (li ns)) (hl : ns.length ≤ 100000) (k : tz D0 σ (upd H p (.lst (ns.map V.int)))) :
    tSeq (tDrop (tBM K "list" rExtend te (tCons (tVar j) tNil))) tz D0 σ H := by
  obtain ⟨a, vs, rfl, ha, hr⟩ := hw.list
  rw [hr.eints] at ha
  exact h _ ⟨Or.inl ⟨rfl, [], Evl.sq_of hp⟩, .ref a, hj, p, a, [], _, rfl, rfl, hp, e _ _ ha, Evl.sz_of (by rw [List.length_map]; simpa using hl), k⟩
end
/-- what failing gave: its lists -/
theorem FailD.parts {l : List Int} {dd : List (List (List Int))} {w g : List Int} {s : Nat} {d : D} {G : Hp} {v : V} (h : FailD l dd w g s d) (r : Rp G v d) :
    v = .non ∨ ∃ c x rest b bs, v = .ref c ∧ G c = some (.lst (.ref x :: rest)) ∧ G x = some (.lst (.ref b :: bs)) ∧ bs.length < 256 ∧ ∃ is : List Int, G b = some (.lst (is.map V.int)) := by
  rcases h with ⟨m, _, _, rfl⟩ | ⟨zs, ok, rfl⟩
  · exact .inl r.enon
  · right
    unfold rowsOfZ at r
    obtain ⟨c, us, rfl, hc, hr⟩ := r.list
    rw [List.range_succ_eq_map, List.map_cons] at hr
    obtain ⟨x, rest, rfl, hx, _⟩ := hr.uncons
    obtain ⟨x, ys, rfl, hx, ln, all⟩ := lli_parts hx
    have few := ok.few 0
    have ne := ok.ne 0 (Nat.zero_le _)
    cases ys with
    | nil =>
      exfalso
      rw [List.length_nil] at ln
      exact ne (List.length_eq_zero_iff.mp ln.symm)
    | cons y ys =>
      obtain ⟨b, z, rfl, _, _, hb⟩ := all y List.mem_cons_self
      rw [List.length_cons] at ln
      exact ⟨c, x, rest, b, ys, rfl, hc, hx, by omega, z, hb⟩
end Bp
namespace Bp
open PySem PySem.Spec PyProof.Rows L2
open Evl (Ex)
def oddS : List D := [.int (-1), .int 151, .bl true, .non, .str "0", .bl false]
theorem oddS_ok {d : D} (h : d ∈ oddS) : noObj d = true ∧ isWhole d 151 = false := by
  simp only [oddS, List.mem_cons, List.not_mem_nil, or_false] at h
  rcases h with rfl | rfl | rfl | rfl | rfl | rfl <;> exact ⟨by decide, by decide⟩
section
variable {K : PySem.W.Frag} {σ : L2.St} {F H : Hp} {t0 t1 t2 t3 t4 te : TE} {D0 : Ends} {tz tu : TS} {i j ix iy : Nat} {E : XK} {A : Ad} {LP : Addr}
theorem ED.told {d : D} {P : D → Prop} (h : ED te σ F d) (p : P d) : EX te σ F P := fun F1 H1 e1 e2 Q q => h F1 H1 e1 e2 _ fun v F2 H2 n r => q d v F2 H2 p n r
/-- an item of a list that stands in the frozen part, the others untold -/
theorem ed_ixv {p : Addr} {xs : List V} {j : Nat} {v : V} {d : D} (hi : σ[i]? = some (some (.ref p))) (hp : F p = some (.lst xs)) (hx : xs[j]? = some v) (r : Rp F v d) : ED (tOp (rIx K) (tVar i) (tC (.int (j : Int)))) σ F d := fun F1 H1 e1 e2 Q q =>
  (ev_ix (ev_var hi) rfl (e2 _ _ (e1 _ _ hp)) hx) _ (q v F1 H1 (Nx.refl e2) (r.mono e1))
/-- for v, u in zip(a list, a tuple), as they stand -/
theorem q_forZV {a b : Addr} {xs ys : List V} (ha : σ[ix]? = some (some (.ref a))) (hb : σ[iy]? = some (some (.ref b))) (la : H a = some (.lst xs)) (lb : H b = some (.tup ys)) (hn : xs.length = ys.length) (P : Nat → L2.St → Hp → Prop) (p0 : P 0 σ H)
    (pe : ∀ n σ' H', P n σ' H' → H' a = some (.lst xs) ∧ H' b = some (.tup ys))
    (ps : ∀ n v u σ' H' H'', xs[n]? = some v → ys[n]? = some u → P n σ' H' → Ex H' H'' → tu { D0 with nx := P (n + 1), ct := P (n + 1), bk := tz D0 } ((σ'.set i (some v)).set j (some u)) H'') (pd : ∀ σ' H', P xs.length σ' H' → tz D0 σ' H') :
    tSeq (tFor (LT.iZipLT K (tCons (tVar ix) (tCons (tVar iy) tNil))) (gTup K 2 (gCons (gName i) (gCons (gName j) gNil))) tu) tz D0 σ H := by
  refine ⟨.ref a, ha, .ref b, hb, a, b, xs, ys, rfl, Evl.sq_of la, Evl.st_of lb, for_it (D := { D0 with nx := tz D0 }) (LT.walk_LT (xs := xs) (ys := ys) (n := xs.length) (by rw [hn, Nat.min_self])) P p0 (fun n σ' H' _ c => ⟨Evl.sq_of (pe n σ' H' c).1, Evl.st_of (pe n σ' H' c).2⟩) (fun n z σ' H' H'' hlt c w => ?_) pd⟩
  obtain ⟨T, x1, y1, rfl, hT, rfl, e1, e2⟩ := w
  exact ⟨T, _, rfl, Evl.st_of upd_same, rfl, _, _, rfl, _, _, rfl, rfl, ps n _ _ σ' H' _ e1 e2 c (Ex.new hT)⟩
/-- for v in a list, as it stands -/
theorem q_forLV {a : Addr} {xs : List V} (ha : σ[ix]? = some (some (.ref a))) (la : H a = some (.lst xs)) (P : Nat → L2.St → Hp → Prop) (p0 : P 0 σ H) (pe : ∀ n σ' H', P n σ' H' → H' a = some (.lst xs))
    (ps : ∀ n v σ' H', xs[n]? = some v → P n σ' H' → tu { D0 with nx := P (n + 1), ct := P (n + 1), bk := tz D0 } (σ'.set j (some v)) H') (pd : ∀ σ' H', P xs.length σ' H' → tz D0 σ' H') : tSeq (tFor (iList K (tVar ix)) (gName j) tu) tz D0 σ H :=
  ⟨.ref a, ha, a, rfl, ⟨_, Evl.sq_of la⟩, for_list (D := { D0 with nx := tz D0 }) (xs := xs) P p0 (fun n σ' H' _ h => Evl.sq_of (pe n σ' H' h)) (fun n v σ' H' hx h => ps n v σ' H' hx h) pd⟩
theorem st_stands {l : List Int} {dd : List (List (List Int))} {w g : List Int} {s : Nat} {Q : VK} (hs : Hs l dd w) (hg : isGuess (li g) l.length = true) (s150 : s ≤ 150) (nt : NoT F) (e : Ex F H) (tb : TabOk LP H) (h0 : ED t0 σ F (hsD A.hs (li l) (llli dd) (li w))) (h1 : ED t1 σ F (.tup [li l, llli dd, li w]))
    (h2 : ED t2 σ F (li g)) (h3 : EX t3 σ F (FailD l dd w g s)) (h4 : ED t4 σ F (.int (s : Int))) (q : ∀ H2, Ex F H2 → TabOk LP H2 → Q (.bl true) H2) : tCall (spStands A LP) [] E (tCons t0 (tCons t1 (tCons t2 (tCons t3 (tCons t4 tNil))))) σ H Q :=
  h0 F H (Ex.refl F) e _ fun u0 F1 H1 n1 r0 => h1 F1 H1 n1.f n1.fh _ fun u1 F2 H2 n2 r1 => h2 F2 H2 (n1.f.trans n2.f) n2.fh _ fun u2 F3 H3 n3 r2 => h3 F3 H3 ((n1.f.trans n2.f).trans n3.f) n3.fh _ fun d u3 F4 H4 pd n4 r3 =>
  h4 F4 H4 (((n1.f.trans n2.f).trans n3.f).trans n4.f) n4.fh _ fun u4 F5 H5 n5 r4 => by
    obtain rfl := r4.eint
    have f5 := (((n1.f.trans n2.f).trans n3.f).trans n4.f).trans n5.f
    have x5 := (((n1.h.trans n2.h).trans n3.h).trans n4.h).trans n5.h
    exact ⟨Bp.rt F5, l, dd, w, g, s, u0, u1, u2, u3, d, rfl, rt_ex.trans n5.fh, rt_not, tb.up x5, (r0.mono (((n2.f.trans n3.f).trans n4.f).trans n5.f)).rt, (r1.mono ((n3.f.trans n4.f).trans n5.f)).rt, (r2.mono (n4.f.trans n5.f)).rt, hs, hg, s150, pd, (r3.mono n5.f).rt, fun H6 x6 t6 => q H6 ((ex_rt nt f5).trans x6) t6⟩
end
end Bp
namespace Bp
open PySem PySem.Spec PyProof.Rows L2
open Evl (Ex)
theorem goM_le {xs : List (Option Int)} {m v : Int} (h : goM xs m = some v) : m ≤ v ∧ ∀ a, some a ∈ xs → a ≤ v := by
  induction xs generalizing m with
  | nil => cases h; exact ⟨Int.le_refl _, fun a z => by simp at z⟩
  | cons x xs ih =>
    cases x with
    | none => cases h
    | some b =>
      have ⟨h1, h2⟩ := ih h
      have h3 : m ≤ v ∧ b ≤ v := by split at h1 <;> omega
      exact ⟨h3.1, fun a z => by
        rcases List.mem_cons.mp z with z | z
        · cases z; exact h3.2
        · exact h2 a z⟩
theorem walk_ends {l : List Int} {dd : List (List (List Int))} {w : List Int} {p : Pl} (hs : Hs l dd w) (gp : GoodPlan dd.length p) : ∀ (TT : List Int) (ws : List (Int × Int)) (a r : Int) (f : List Int) (v : Int), (∀ x ∈ ws, a ≤ x.2 ∧ x.2 < (p.2.length : Int)) → 0 ≤ a → (p.2.length : Int) ≤ a + TT.length → 0 ≤ r → r < l.length →
    wayT l (tbl l dd w p.2 p.2.length) ws r = some v → ∃ h c, walkL l dd p.2 TT ws r (f ++ [r]) = some (h ++ [c]) ∧ (h.length : Int) ≤ f.length + v ∧ c ∈ w := by
  intro TT
  induction TT with
  | nil =>
    intro ws a r f v hw h0 hl r0 r1 hv
    exfalso
    unfold wayT at hv
    cases hp : plc ws (lookOf l r) with
    | nil => rw [hp] at hv; cases hv
    | cons p0 ps =>
      have : p0 ∈ plc ws (lookOf l r) := by rw [hp]; simp
      obtain ⟨x, hx, rfl⟩ := List.mem_map.mp this
      have := hw x (List.mem_filter.mp hx).1
      simp only [List.length_nil] at hl
      omega
  | cons t ts ih =>
    intro ws a r f v hw h0 hl r0 r1 hv
    unfold wayT at hv
    unfold walkL
    cases hp : plc ws (lookOf l r) with
    | nil => rw [hp] at hv; cases hv
    | cons p0 ps =>
      rw [hp] at hv
      have hv : tbl l dd w p.2 p.2.length p0 r = some v := hv
      have : p0 ∈ plc ws (lookOf l r) := by rw [hp]; simp
      obtain ⟨x, hx, ex⟩ := List.mem_map.mp this
      have hb := hw x (List.mem_filter.mp hx).1
      rw [ex] at hb
      obtain ⟨i, hi⟩ : ∃ i : Nat, p0 = (i : Int) := ⟨p0.toNat, by omega⟩
      subst hi
      have hi : i < p.2.length := by omega
      rw [tbl_row gp hi] at hv
      have g := gp.r i _ (rowAt_get (rows := p.2) (p := (i : Int)) (by omega) (by omega))
      dsimp only
      generalize rowAt p.2 (i : Int) = row at g hv ⊢
      obtain ⟨d, ws2⟩ := row
      cases d with
      | none =>
        have hv : (if r ∈ w then some (0 : Int) else none) = some v := hv
        split at hv
        · rename_i hw2
          cases hv
          exact ⟨f, r, rfl, by omega, hw2⟩
        · cases hv
      | some d =>
        have ⟨g1, g2, g3⟩ := g
        have hv : (stepsW l (tbl l dd w p.2 p.2.length) ws2 (entryOf (deedOf dd d) r)).map (· + 1) = some v := hv
        rw [Option.map_eq_some_iff] at hv
        obtain ⟨v1, hv1, rfl⟩ := hv
        have ⟨k0, kl, k1, k2⟩ := step_ok hs (t := t) g1 (by omega) r0 r1
        have mem : stepR dd d r t ∈ entryOf (deedOf dd d) r := lookOf_mem (Int.emod_nonneg t (by omega)) (Int.emod_lt_of_pos t (by omega))
        have min : wayT l (tbl l dd w p.2 p.2.length) ws2 (stepR dd d r t) ∈ (entryOf (deedOf dd d) r).map (wayT l (tbl l dd w p.2 p.2.length) ws2) := List.mem_map.mpr ⟨_, mem, rfl⟩
        have some1 := goM_some hv1 _ min
        cases e : wayT l (tbl l dd w p.2 p.2.length) ws2 (stepR dd d r t) with
        | none => exact absurd e some1
        | some v2 =>
          rw [e] at min
          have le := (goM_le hv1).2 v2 min
          obtain ⟨h, c, e1, e2, e3⟩ := ih ws2 ((i : Int) + 1) (stepR dd d r t) (f ++ [r]) v2 g3.2 (by omega) (by rw [List.length_cons] at hl; omega) k1 k2 e
          exact ⟨h, c, e1, by rw [List.length_append, List.length_singleton] at e2; omega, e3⟩
theorem due_ends {l : List Int} {dd : List (List (List Int))} {w : List Int} {p : Pl} {g : List Int} {m r : Int} {ts : List Int} (hs : Hs l dd w) (gp : GoodPlan dd.length p) (h : leadsOf l dd w p g = some m) (hr : r ∈ g) (r0 : 0 ≤ r) (r1 : r < l.length) :
    ∃ f c, dueOf l dd p r ts = some (f ++ [c]) ∧ (f.length : Int) ≤ m ∧ c ∈ w := by
  have hm : goM (g.map (wayT l (tbl l dd w p.2 p.2.length) p.1)) 0 = some m := h
  have min : wayT l (tbl l dd w p.2 p.2.length) p.1 r ∈ g.map (wayT l (tbl l dd w p.2 p.2.length) p.1) := List.mem_map.mpr ⟨_, hr, rfl⟩
  have some1 := goM_some hm _ min
  cases e : wayT l (tbl l dd w p.2 p.2.length) p.1 r with
  | none => exact absurd e some1
  | some v =>
    rw [e] at min
    have le := (goM_le hm).2 v min
    obtain ⟨f, c, e1, e2, e3⟩ := walk_ends hs gp (turnsOf ts p.2.length) p.1 0 r [] v gp.w.2 (Int.le_refl _) (by unfold turnsOf; rw [List.length_append, List.length_replicate]; omega) r0 r1 e
    exact ⟨f, c, e1, by simp only [List.length_nil] at e2; omega, e3⟩
section
variable {K : PySem.W.Frag} {σ : L2.St} {F H : Hp} {te : TE} {i j ix : Nat} {ws : List Nat} {Q : VK} {D0 : Ends} {tu tz : TS}
/-- [e for x in a tuple], by what the heap keeps -/
theorem lc_TV {a : Addr} {vs : List V} (ha : σ[ix]? = some (some (.ref a))) (la : H a = some (.tup vs)) (hz : vs.length < 50000) (hw : ∀ x, wipe ((wipe σ ws).set j (some x)) ws = wipe σ ws) (Inv : Nat → Addr → List V → Hp → Prop) (i0 : ∀ Dl, H Dl = none → Inv 0 Dl [] (upd H Dl (.lst [])))
    (keep : ∀ n Dl us H', Inv n Dl us H' → H' a = some (.tup vs) ∧ H' Dl = some (.lst us) ∧ us.length = n)
    (step : ∀ n v Dl us H', vs[n]? = some v → Inv n Dl us H' → us.length < 50000 → te ((wipe σ ws).set j (some v)) H' fun y H'' => ∃ acc, H'' Dl = some (.lst acc) ∧ acc.length < sizeLine ∧ ∃ us', Inv (n + 1) Dl us' (upd H'' Dl (.lst (acc ++ [y]))))
    (done : ∀ Dl us H', Inv vs.length Dl us H' → Q (.ref Dl) H') : tLc (iTup K (tVar ix)) (gName j) tYes te ws σ H Q := by
  refine ⟨.ref a, ha, a, rfl, ⟨vs, Evl.st_of la⟩, fun Dl hD => ?_⟩
  refine lc_tup (xs := vs) (fun n H' => ∃ us, Inv n Dl us H') ⟨[], i0 Dl hD⟩ (fun n H' _ ⟨us, p⟩ => Evl.st_of (keep n Dl us H' p).1) (fun n x H' hx ⟨us, p⟩ => ⟨hw x, ?_⟩) (fun H' ⟨us, p⟩ => done Dl us H' p)
  exact step n x Dl us H' hx p (by
    have := (keep n Dl us H' p).2.2
    have := (List.getElem?_eq_some_iff.mp hx).1
    omega)
end
end Bp
namespace Bp
open PySem PySem.Spec PyProof.Rows L2
open Evl (Ex)
theorem NwT.dis {F H G H2 : Hp} (e : Ex F H) (n : NoT F) (a : NwT H G H2) : ∀ p, G p ≠ none → F p = none := fun p h => by
  cases q : F p with
  | none => rfl
  | some o => exact absurd (a.n p o (e _ _ q) fun ps z => n p ps (by rw [q, z])) h
/-- what planned gives -/
def PlanP (l : List Int) (dd : List (List (List Int))) (w g : List Int) (d : D) : Prop := ∃ o, LeastIs l dd w g o ∧ ((o = none ∧ d = .non) ∨ ∃ m p, o = some m ∧ d = planD p ∧ GoodPlan dd.length p ∧ leadsOf l dd w p g = some m)
/-- a plan's own parts -/
theorem plan_parts {G : Hp} {v : V} {p : Pl} (r : Rp G v (planD p)) : ∃ b c0 c1 xs us, v = .ref b ∧ G b = some (.tup [.ref c0, .ref c1]) ∧ G c0 = some (.lst xs) ∧ G c1 = some (.lst us) ∧
    ∀ u ∈ us, ∃ t x c ys, u = .ref t ∧ G t = some (.tup [x, .ref c]) ∧ G c = some (.lst ys) ∧ c ≠ c1 := by
  obtain ⟨b, vs, rfl, hb, hr⟩ := r.tuple
  obtain ⟨v0, _, rfl, r0, hr⟩ := hr.uncons
  obtain ⟨v1, _, rfl, r1, hr⟩ := hr.uncons
  obtain rfl := hr.unnil
  obtain ⟨c0, xs, rfl, h0, _⟩ := r0.list
  obtain ⟨c1, us, rfl, h1, hu⟩ := r1.list
  refine ⟨b, c0, c1, xs, us, rfl, hb, h0, h1, fun u hm => ?_⟩
  obtain ⟨n, hn⟩ := List.mem_iff_getElem?.mp hm
  obtain ⟨d, hd, rd⟩ := hu.getv hn
  rw [List.getElem?_map, Option.map_eq_some_iff] at hd
  obtain ⟨row, _, rfl⟩ := hd
  obtain ⟨t, ts, rfl, ht, hr⟩ := rd.tuple
  obtain ⟨x, _, rfl, _, hr⟩ := hr.uncons
  obtain ⟨y, _, rfl, ry, hr⟩ := hr.uncons
  obtain rfl := hr.unnil
  obtain ⟨c, ys, rfl, hc, hy⟩ := ry.list
  refine ⟨t, x, c, ys, rfl, ht, hc, fun z => ?_⟩
  subst z
  rw [h1] at hc
  cases hc
  obtain ⟨k, hk⟩ := List.mem_iff_getElem?.mp hm
  obtain ⟨d2, hd2, rd2⟩ := hy.getv hk
  rw [List.getElem?_map, Option.map_eq_some_iff] at hd2
  obtain ⟨way, _, rfl⟩ := hd2
  obtain ⟨t2, ts2, e2, ht2, hr2⟩ := rd2.tuple
  cases e2
  rw [ht] at ht2
  cases ht2
  obtain ⟨a1, _, e3, ra, hr2⟩ := hr2.uncons
  cases e3
  obtain ⟨a2, _, e4, rb, hr2⟩ := hr2.uncons
  cases e4
  have := rb.eint
  cases this
/-- one round of questions; handed is the list at ph, outside of the frozen part -/
def spGoodP (K : PySem.W.Frag) (A : Ad) (LP : Addr) : Sp := fun vs H Q _ => ∃ F l dd w g ns ph xs v0 v1 v2 v3, vs = [v0, v1, v2, v3, .ref ph] ∧ Ex F H ∧ NoT F ∧ TabOk LP H ∧ F ph = none ∧ H ph = some (.lst xs) ∧ Rp F v0 (hsD A.hs (li l) (llli dd) (li w)) ∧ Rp F v1 (.tup [li l, llli dd, li w]) ∧
  Rp F v2 (li g) ∧ Rp F v3 (.scr K ns) ∧ Hs l dd w ∧ isGuess (li g) l.length = true ∧ ∀ H2, Ex F H2 → TabOk LP H2 → (∃ ys, H2 ph = some (.lst ys)) → Q (.bl true) H2
section
variable {K : PySem.W.Frag} {σ : L2.St} {H : Hp} {te : TE} {D0 : Ends} {tu tz : TS} {i j : Nat}
theorem s_clrV {p : Addr} {xs : List V} (h : EvV te σ H (.ref p)) (hp : H p = some (.lst xs)) (k : D0.nx σ (upd H p (.lst []))) : tDrop (tBM0 K "list" rClear te) D0 σ H := h _ ⟨Or.inl ⟨rfl, xs, Evl.sq_of hp⟩, p, xs, rfl, rfl, hp, k⟩
/-- for v in a list, as it stands -/
theorem q_forEV {a : Addr} {xs : List V} (ha : EvV te σ H (.ref a)) (la : H a = some (.lst xs)) (P : Nat → L2.St → Hp → Prop) (p0 : P 0 σ H) (pe : ∀ n σ' H', P n σ' H' → H' a = some (.lst xs))
    (ps : ∀ n v σ' H', xs[n]? = some v → P n σ' H' → tu { D0 with nx := P (n + 1), ct := P (n + 1), bk := tz D0 } (σ'.set j (some v)) H') (pd : ∀ σ' H', P xs.length σ' H' → tz D0 σ' H') : tSeq (tFor (iList K te) (gName j) tu) tz D0 σ H :=
  ha _ ⟨a, rfl, ⟨_, Evl.sq_of la⟩, for_list (D := { D0 with nx := tz D0 }) (xs := xs) P p0 (fun n σ' H' _ h => Evl.sq_of (pe n σ' H' h)) (fun n v σ' H' hx h => ps n v σ' H' hx h) pd⟩
end
end Bp
namespace Bp
open PySem PySem.Spec PyProof.Rows L2
open Evl (Ex)
section
variable {K : PySem.W.Frag} {σ : L2.St} {F H : Hp} {te : TE} {i j ix : Nat} {ws : List Nat} {D0 : Ends} {tz : TS}
/-- y = [e for x in a tuple], by what the heap keeps -/
theorem q_lcTV {a : Addr} {vs : List V} (ha : σ[ix]? = some (some (.ref a))) (la : H a = some (.tup vs)) (hz : vs.length < 50000) (hw : ∀ x, wipe ((wipe σ ws).set j (some x)) ws = wipe σ ws) (Inv : Nat → Addr → List V → Hp → Prop) (i0 : ∀ Dl, H Dl = none → Inv 0 Dl [] (upd H Dl (.lst [])))
    (keep : ∀ n Dl us H', Inv n Dl us H' → H' a = some (.tup vs) ∧ H' Dl = some (.lst us) ∧ us.length = n)
    (step : ∀ n v Dl us H', vs[n]? = some v → Inv n Dl us H' → us.length < 50000 → te ((wipe σ ws).set j (some v)) H' fun y H'' => ∃ acc, H'' Dl = some (.lst acc) ∧ acc.length < sizeLine ∧ ∃ us', Inv (n + 1) Dl us' (upd H'' Dl (.lst (acc ++ [y]))))
    (done : ∀ Dl us H', Inv vs.length Dl us H' → tz D0 (σ.set i (some (.ref Dl))) H') : tSeq (tAsg (tLc (iTup K (tVar ix)) (gName j) tYes te ws) (gName i)) tz D0 σ H := lc_TV (K := K) (Q := fun v H' => tz D0 (σ.set i (some v)) H') ha la hz hw Inv i0 keep step done
/-- return all([e for x in a tuple]) -/
theorem r_allTV {a : Addr} {vs : List V} (ha : σ[ix]? = some (some (.ref a))) (la : H a = some (.tup vs)) (hz : vs.length < 50000) (hw : ∀ x, wipe ((wipe σ ws).set j (some x)) ws = wipe σ ws) (Inv : Nat → Addr → List V → Hp → Prop) (i0 : ∀ Dl, H Dl = none → Inv 0 Dl [] (upd H Dl (.lst [])))
    (keep : ∀ n Dl us H', Inv n Dl us H' → H' a = some (.tup vs) ∧ H' Dl = some (.lst us) ∧ us.length = n)
    (step : ∀ n v Dl us H', vs[n]? = some v → Inv n Dl us H' → us.length < 50000 → te ((wipe σ ws).set j (some v)) H' fun y H'' => ∃ acc, H'' Dl = some (.lst acc) ∧ acc.length < sizeLine ∧ ∃ us', Inv (n + 1) Dl us' (upd H'' Dl (.lst (acc ++ [y]))))
    (done : ∀ Dl us H', Inv vs.length Dl us H' → ∃ bs : List Bool, H' Dl = some (.lst (bs.map V.bl)) ∧ D0.rt (.bl (bs.all id)) H') : tRet (tCB (rAll K) (tCons (tLc (iTup K (tVar ix)) (gName j) tYes te ws) tNil)) D0 σ H :=
  lc_TV (K := K) (Q := fun v H' => rAll K [v] H' D0.rt) ha la hz hw Inv i0 keep step fun Dl us H' h => by
    obtain ⟨bs, h1, h2⟩ := done Dl us H' h
    exact ⟨Dl, bs, rfl, Evl.sq_of h1, h2⟩
end
end Bp
namespace L2
open PySem PySem.Spec PyProof.Rows PySem.Calls
/-! an exception that leaves a list comprehension -/
section
variable {M : Model} {A : Around} {E : Value → Shared → Prop} {env : Env}
/-- what is asked behind a comprehension's code: its variables are let go, an exception goes on -/
def leftC (M : Model) (A : Around) (E Q : Value → Shared → Prop) (acc : Value) (ce : Env) (r : Result) (t : Shared) : Prop :=
  ∃ m, t.heap.Ns ce.locals m ∧ ∀ h2, Heap.SameBut ce.locals t.heap h2 → match r with
    | .ok _ => Q acc { t with heap := h2 }
    | .error u => wpAny M A (passOn "comprehension.variables-let-go" u ce : Sem Value) (fun _ _ => False) E { t with heap := h2 }
theorem comp_left {e : Expr} {scope : Scope} {pos : Pos} {mk first : Sem Value} {c : Comprehension} {cs : List Comprehension} {cl : List (Str × Addr)} {s : Shared} {Q : Value → Shared → Prop} (h1 : clausesOf e = c :: cs) (h2 : ∀ x, foldedSetIterable c.iter env x = pure x)
    (h3 : closureFor scope env = pure cl) (kind : scope.kind = .function) (names : ∀ x ∈ scope.names, x.2 = .local → scope.names.lookup x.1 = some .local)
    (h : wpAny M A first (fun x t1 => wpAny M A (pyIter x) (fun it t2 => wpAny M A mk (fun acc t3 => wpAny M A (newFunctionEnv scope env.globals cl [] env.qual none .none (some env)) (fun ce t4 =>
      codeAny M A (.compStart e 0 it acc { ce with scope := relabel scope env }) (leftC M A E Q acc { ce with scope := relabel scope env }) t4) E t3) E t2) E t1) E s) : wpAny M A (comprehension e scope env pos mk false first) Q E s := by
  unfold comprehension
  rw [h3, h1]
  refine wpAny_bind (wpAny_mono h (fun x t1 k1 => ?_) fun _ _ z => z)
  refine wpAny_bind (wpAny_standAt (wpAny_bind (wpAny_of_eq (h2 x) ?_)))
  refine wpAny_bind (wpAny_holding (wpAny_mono k1 (fun it t2 k2 => ?_) fun _ _ z => z))
  refine wpAny_standIf (wpAny_bind (wpAny_mono k2 (fun acc t3 k3 => ?_) fun _ _ z => z))
  refine wpAny_bind (wpAny_pure (wpAny_bind (wpAny_mono k3 (fun ce t4 k4 => ?_) fun _ _ z => z)))
  dsimp only
  have own : ∀ x ∈ (scope.names.filter fun x => (x.2 == .local || x.2 == .cell) && x.1 != (".0" : Str)).reverse, x.2 = .local → Env.kindOf { ce with scope := relabel scope env } x.1 = some .local := fun x hx hl =>
    lookup_relabel_local (names x (List.mem_filter.mp (List.mem_reverse.mp hx)).1 hl)
  refine wpAny_holding (wpAny_bind (wpAny_attempt (wpAny_holding (wpAny_run (codeAny_mono k4 fun r t5 k5 => ?_)))))
  obtain ⟨m, ns, k⟩ := k5
  cases r with
  | ok f => exact wpAny_bind (wpAny_holding (wpAny_comp_letGo (cenv := { ce with scope := relabel scope env }) kind _ t5 m own ns fun h' _ _ sb => wpAny_pure (k h' sb)))
  | error u => exact wpAny_bind (wpAny_holding (wpAny_comp_letGo (cenv := { ce with scope := relabel scope env }) kind _ t5 m own ns fun h' _ _ sb => wpAny_mono (k h' sb) (fun _ _ f => f.elim) fun _ _ y => y))
end
theorem frames_on {B B2 h h2 : Heap} : ∀ {l : List Env}, h.FunFrames B l → (∀ b ∈ frs l, ∀ o, h.get? b = some o → h2.get? b = some o) → (∀ b, B.get? b = none → B2.get? b = none) → h2.FunFrames B2 l
  | [], _, _, _ => trivial
  | env :: l, ⟨hk, ⟨L, o, hf, hn, ho, hd⟩, hr⟩, k, kb => ⟨hk, ⟨L, o, hf, kb L hn, k L (List.mem_filterMap.mpr ⟨env, List.mem_cons_self, hf⟩) o ho, hd⟩, frames_on hr (fun b hb => k b (by
      obtain ⟨e, he, q⟩ := List.mem_filterMap.mp hb
      exact List.mem_filterMap.mpr ⟨e, List.mem_cons_of_mem _ he, q⟩)) kb⟩
/-- noting a frame looks at the env's frame alone -/
theorem note_same {e : Value} {ce env : Env} (h : ce.frame = env.frame) : noteFrame e ce = noteFrame e env := by
  unfold noteFrame PySem.frameOf
  rw [h]
abbrev Cx.blx (X : Cx) (s : Shared) (H : Hp) (scope : Scope) (ce : Env) (fp : List Addr) (xe : Value → Shared → Prop) : Cx := { X.blk s H scope ce fp with xe := xe }
section
variable {X : Cx} {pins : List (Addr × Obj)} {σ : St} {H3 : Hp} {s3 : Shared} {E : XK} {Q : Value → Shared → Prop}
/-- what a callee lets out in a block leaves the block -/
theorem out_of {scope : Scope} {ce : Env} {fp : List Addr} {acc : Value} (hst : X.stack = X.env :: X.outer) (hfr : X.env.frame = some X.env.locals) (tk : Takes X (fun cls d _ H => E cls d H)) (I3 : Inv X pins σ H3 s3) (cf : ce.frame = X.env.frame) (cl : ce.locals = s3.heap.objs.size)
    (hfp : ∀ b ∈ fp, FpOk X pins H3 b ∧ b < s3.heap.objs.size) {xe : Value → Shared → Prop} (hxe : xe = notedBy (model X.prog X.w) X.A ce fun e t => leftC (model X.prog X.w) X.A X.xe Q acc ce (.error e) t) : Passes (L2.CX X.prog X.w) (X.blx s3 H3 scope ce fp xe) E := by
  intro pins' σ' H' s' e s2 I' c
  obtain ⟨a0, B0, _, _, _, e0, fl0, _⟩ := id c
  obtain ⟨a, B, sI, pins1, σ1, H1, cls, d, e1, I1, nb, up, sky, na, os, ag, w⟩ := XE.of_call (X := X.blx s3 H3 scope ce fp xe) (W := fun cls d _ H => E cls d H) I' (fun _ _ _ h => h) c
  subst e1
  obtain rfl : a = a0 := by cases e0; rfl
  have free1 : H1 ce.locals = none := I1.free
  have nst : ∀ b o, s3.heap.get? b = some o → b ≠ ce.locals := fun b o hb z => by
    have := Heap.lt_size hb
    rw [z, cl] at this
    exact Nat.lt_irrefl _ this
  have fst : ∀ b ∈ frs X.stack, b ≠ ce.locals := fun b hb => by
    obtain ⟨_, o, ho, _⟩ := I3.stack.mem hb
    exact nst b o ho
  have hA : X.A.frames = some (X.env :: X.outer) := by rw [I3.ok.frames, hst]
  show xe _ _
  rw [hxe]
  show wpAny _ X.A (noteFrame (.ref a) ce) (fun _ t => leftC _ X.A X.xe Q acc ce (.error (.ref a)) t) _ s2
  rw [note_same cf]
  -- noted at the frame
  have fin : ∀ h1, HandSPX.HeldZ B X.stack a (Zc cls d) X.env.locals h1 → s2.heap.UpToSlots h1 → leftC (model X.prog X.w) X.A X.xe Q acc ce (.error (.ref a)) { s2 with heap := h1 } := fun h1 held up1 => by
    obtain ⟨m, ns, _⟩ := I1.loc
    have ns : sI.heap.Ns ce.locals m := ns
    have ns1 : h1.Ns ce.locals m := (up.trans up1).ns ns
    refine ⟨m, ns1, fun h2 sb => ?_⟩
    obtain ⟨k1, k2, k3, oe, vs, T, oT, ts, he, hz, hd, h1', hnT, hTe, hT, hdT, h3⟩ := held
    obtain ⟨oc, es, ep, hoc, hdc, _⟩ := ns1
    have aC : a ≠ ce.locals := fun z => by rw [z, hoc] at he; cases he; rw [hdc] at hd; cases hd
    have TC : T ≠ ce.locals := fun z => by rw [z, hoc] at hT; cases hT; rw [hdc] at hdT; cases hdT
    have same : ∀ b, b ≠ ce.locals → h2.get? b = h1.get? b := sb.2
    have bh : ∀ b o, (PySem.W.hideAll B [ce.locals]).get? b = some o → B.get? b = some o ∧ b ≠ ce.locals := fun b o hb => ⟨PySem.W.of_hideAll _ hb, fun z => by
      rw [z, PySem.W.hideAll_none [ce.locals] (List.mem_singleton_self _)] at hb; cases hb⟩
    have bn : ∀ b, B.get? b = none → (PySem.W.hideAll B [ce.locals]).get? b = none := fun b hb => by
      cases q : (PySem.W.hideAll B [ce.locals]).get? b with
      | none => rfl
      | some o => have := (bh b o q).1; rw [hb] at this; cases this
    have held2 : HandSPX.HeldZ (PySem.W.hideAll B [ce.locals]) X.stack a (Zc cls d) X.env.locals h2 := by
      refine ⟨fun b o hb => ?_, bn a k2, frames_on k3 (fun b hb o ho => by rw [same b (fst b hb)]; exact ho) bn, oe, vs, T, oT, ts, by rw [same a aC]; exact he, hz, hd, h1', bn T hnT, hTe, by rw [same T TC]; exact hT, hdT, h3⟩
      obtain ⟨z1, z2⟩ := bh b o hb
      rw [same b z2]; exact k1 b o z1
    have he2 : h2.get? a = some oe := by rw [same a aC]; exact he
    show wpAny _ X.A (passOn "comprehension.variables-let-go" (.ref a) ce : Sem Value) (fun _ _ => False) X.xe { s2 with heap := h2 }
    unfold PySem.passOn
    refine wpAny_bind (wpAny_field (s := { s2 with heap := h2 }) he2 hd h1' ?_)
    rw [if_neg (by simp)]
    refine wpAny_bind ?_
    rw [cf, hfr]
    refine HandSPX.setFlight_onZ (s := { s2 with heap := h2 }) held2 fun h4 held4 up4 => wpAny_throw ?_
    -- in the air of X
    refine tk _ _ ⟨a, PySem.W.hideAll B [ce.locals], { sI with heap := PySem.W.hideAll sI.heap [ce.locals] }, pins, σ, H1, cls, d, rfl, ?_, fun b o hb hf => ?_, fun b o hb hnf => ?_, .inr (.inr held4), na, os, ag, w⟩
    · have gone : ∀ b o, (PySem.W.hideAll sI.heap [ce.locals]).get? b = some o → sI.heap.get? b = some o := fun b o hb => PySem.W.of_hideAll _ hb
      have stay : ∀ b o, b ≠ ce.locals → sI.heap.get? b = some o → (PySem.W.hideAll sI.heap [ce.locals]).get? b = some o := fun b o hb ho => PySem.W.hideAll_get _ ho fun z => hb (List.mem_singleton.mp z)
      have u := I1.base
      refine I3.call' (ch := fp) I1.os ⟨fun b o e n hb hch => stay b o (nst b o e) (u.keep b o e n hb hch), fun b o e n hb hch => ?_, u.free, fun b o e hch => ?_, u.tups, u.frzs, u.tbls⟩ (fun b o q => ?_) I1.bare fun b hb => let z := (hfp b hb).1.2; ⟨z.2.2.1, z.1, z.2.2.2.1, z.2.2.2.2⟩
      · obtain ⟨sl, z⟩ := u.slot b o e n hb hch
        exact ⟨sl, stay b _ (nst b o e) z⟩
      · obtain ⟨o', z⟩ := u.there b o e hch
        exact ⟨o', stay b _ (nst b o e) z⟩
      · refine (I1.hok b o q).stay (fun c u hc r => stay c u (fun z => ?_) r) (fun _ r => r) fun _ _ r => r
        rcases hc with hc | hc
        · rw [← hc, z, free1] at q; cases q
        · rw [z, free1] at hc; cases hc
    · exact PySem.W.hideAll_get _ (nb b o (PySem.W.of_hideAll _ hb) hf) fun z => by
        rw [List.mem_singleton.mp z, PySem.W.hideAll_none [ce.locals] (List.mem_singleton_self _)] at hb; cases hb
    · have bC : b ≠ ce.locals := fun z => by rw [z, PySem.W.hideAll_none [ce.locals] (List.mem_singleton_self _)] at hb; cases hb
      obtain ⟨sl, z⟩ := (up.trans up1) b o (PySem.W.of_hideAll _ hb) hnf
      obtain ⟨sl2, z2⟩ := up4 b { o with slots := sl } (by rw [same b bC]; exact z) hnf
      exact ⟨sl2, z2⟩
  have sky : Sky B X.stack a (Zc cls d) ce.locals s2.heap := sky
  rw [hst] at sky fin
  rcases sky with ⟨hB, hn, hl, oe, vs, he, hz, hd, h1⟩ | fl | hd
  · exact HandSPX.look_newZ Zc.steady hA hl hfr he hB hn hd h1 hz fin
  · exact HandSPX.looks_onZ Zc.steady hA hfr fl fin
  · exfalso
    obtain ⟨_, _, _, oe, vs, T, oT, ts, he, _, hd2, h1, _, _, hT, hdT, h3⟩ := hd
    obtain ⟨_, _, _, oe', vs', T', oT', ts', he', _, hd2', h1', _, _, hT', hdT', h3'⟩ := fl0
    rw [he] at he'; cases he'
    rw [hd2] at hd2'; cases hd2'
    rw [h1] at h1'; cases h1'
    rw [hT] at hT'; cases hT'
    rw [hdT] at hdT'; cases hdT'
    rw [h3] at h3'
    cases h3'
end
end L2
namespace L2
open PySem PySem.Spec PyProof.Rows PySem.Calls
section
variable {X : Cx} {elt tg iter : Expr} {ifs : List Expr} {scope : Scope} {own : List (Str × Nat)} {pos : Pos} {wi : TI} {g : TG} {tt : TT} {te : TE} {E : XK}
/-- [elt for tg in iter if ..], whose parts may raise -/
theorem pe_lcX (hc : X.calm = true) (hN : X.N.Nodup) (hst : X.stack = X.env :: X.outer) (hfr : X.env.frame = some X.env.locals) (tk : Takes X (fun cls d _ H => E cls d H)) (hi : PI X tg iter wi) (ok : BlkOk X.N X.env.scope scope own)
    (hg : ∀ s H C cl fp xe, PG (X.blx s H scope (compEnvC scope cl C X.env) fp xe) tg g) (ht : ∀ s H C cl fp xe, PTs (X.blx s H scope (compEnvC scope cl C X.env) fp xe) ifs tt)
    (he : ∀ s H C cl fp xe, Passes (L2.CX X.prog X.w) (X.blx s H scope (compEnvC scope cl C X.env) fp xe) E → PE (X.blx s H scope (compEnvC scope cl C X.env) fp xe) elt te)
    (hs : ∀ x, foldedSetIterable iter X.env x = pure x := by intro _; rfl) : PE X (.ListComp elt [⟨tg, iter, ifs, 0⟩] scope pos) (tLc wi g tt te (own.map (·.2))) := by
  refine ⟨fun pins s σ H Q I h => ?_⟩
  rw [eval_ListComp]
  have cellsOf : ∀ y ∈ scope.names, y.2 = .free → ∃ c, X.env.cells.lookup y.1 = some c := fun y hy e => I.ok.has _ (Or.elim (ok.free y hy e) .inl .inr)
  refine comp_left rfl hs (closure_ok cellsOf) ok.kind (fun y hy e => (ok.uniq y hy).trans (congrArg some e)) (thn (hi.run pins s σ H _ I h) fun xv s1 hx => thn hx fun itv s2 h2 => ?_)
  obtain ⟨it, fp, tn, J, H2, rfl, I2, T, at0, fpOk, q⟩ := h2
  refine wpAny_newObj_type (newEnv_comp ?_) (by show 0 ≤ sizeLine; decide)
  -- the new list, at L
  let L := s2.heap.objs.size
  have Lfree : H2 L = none := I2.hok.fresh (Nat.le_refl _)
  obtain ⟨W, ⟨m0, w0⟩, turn⟩ := q L Lfree
  generalize es3 : ({ s2 with heap := s2.heap.push { cls := .type "list", data := .seq ([] : List Value).toArray } } : Shared) = s3
  have hp3 : s3.heap = s2.heap.push { cls := .type "list", data := .seq ([] : List Value).toArray } := es3 ▸ rfl
  have I3 : Inv X pins σ (upd H2 L (.lst [])) s3 := es3 ▸ I2.laid (t' := s2.toks) (fun b o => Heap.get?_push_of_some _) (Nat.le_refl _) ⟨Nat.zero_le _, [], 0, .nil, Heap.get?_push_size _ rfl⟩
  have under : ∀ b ∈ fp, b < L := fun b hb => let ⟨_, e, _⟩ := T.obj _ _ at0 b hb; Heap.lt_size e
  have fpOk3 : ∀ b ∈ fp, FpOk X pins (upd H2 L (.lst [])) b ∧ b < s3.heap.objs.size := fun b hb =>
    ⟨⟨(upd_ne (Nat.ne_of_lt (under b hb))).trans (fpOk b hb).1, (fpOk b hb).2⟩, by rw [hp3, Heap.size_push]; exact Nat.lt_succ_of_lt (under b hb)⟩
  have at3 : tn 0 s3.heap := T.keep _ _ _ at0 fun b _ o e => by rw [hp3]; exact Heap.get?_push_of_some _ e
  have I4 := block_start I3 ok hN fpOk3
  have none3 : ∀ b ∈ fp, (upd H2 L (.lst [])) b = none := fun b hb => (fpOk3 b hb).1.1
  show codeAny _ _ (.compStart (.ListComp elt [⟨tg, iter, ifs, 0⟩] scope pos) 0 (.ref it) (.ref L) (compEnvC scope (cellsFrom (s3.heap.objs.size + 1) scope.names (cloFrom X.env.cells scope.names [])) s3.heap.objs.size X.env)) (leftC (model X.prog X.w) X.A X.xe _ (.ref L) (compEnvC scope (cellsFrom (s3.heap.objs.size + 1) scope.names (cloFrom X.env.cells scope.names [])) s3.heap.objs.size X.env)) { s3 with heap := pushCells (s3.heap.push { cls := .type "dict", data := .dict #[] }) scope.names }
  have Gt := hg s3 (upd H2 L (.lst [])) s3.heap.objs.size (cellsFrom (s3.heap.objs.size + 1) scope.names (cloFrom X.env.cells scope.names [])) fp
  have Tt := ht s3 (upd H2 L (.lst [])) s3.heap.objs.size (cellsFrom (s3.heap.objs.size + 1) scope.names (cloFrom X.env.cells scope.names [])) fp
  have Et := he s3 (upd H2 L (.lst [])) s3.heap.objs.size (cellsFrom (s3.heap.objs.size + 1) scope.names (cloFrom X.env.cells scope.names [])) fp
  generalize ece : compEnvC scope (cellsFrom (s3.heap.objs.size + 1) scope.names (cloFrom X.env.cells scope.names [])) s3.heap.objs.size X.env = ce at I4 Gt Tt Et ⊢
  have Ceq : ce.locals = s3.heap.objs.size := ece ▸ rfl
  have Cfr : ce.frame = X.env.frame := ece ▸ rfl
  generalize eH3 : upd H2 L (.lst []) = H3 at I3 I4 Gt Tt Et w0 none3 fpOk3
  generalize es4 : ({ s3 with heap := pushCells (s3.heap.push { cls := .type "dict", data := .dict #[] }) scope.names } : Shared) = s4 at I4 ⊢
  have at4 : tn 0 s4.heap := T.keep _ _ _ at3 fun b _ o e => es4 ▸ pushCells_keeps _ _ _ _ (Heap.get?_push_of_some _ e)
  -- the block, and where its exceptions go
  obtain ⟨xe, exe⟩ : ∃ xe : Value → Shared → Prop, xe = notedBy (model X.prog X.w) X.A ce fun e t => leftC (model X.prog X.w) X.A X.xe (fun v s' => EP X pins σ Q v s') (.ref L) ce (.error e) t := ⟨_, rfl⟩
  have pass := out_of (scope := scope) hst hfr tk I3 Cfr Ceq fpOk3 exe
  have Gt := Gt xe
  have Tt := Tt xe
  have Et := Et xe pass
  have I4 : Inv (X.blx s3 H3 scope ce fp xe) [] (wipe σ (own.map (·.2))) H3 s4 := ⟨⟨I4.ok.mod, I4.ok.kind, I4.ok.glob, I4.ok.blt, I4.ok.above, I4.ok.inj, I4.ok.has, I4.ok.cab, I4.ok.hd, I4.ok.frames, I4.ok.stk, I4.ok.exf, I4.ok.bs, I4.ok.bsz, I4.ok.noex, I4.ok.exfs, I4.ok.funs, I4.ok.frf⟩, I4.os, I4.bare, I4.base, I4.loc, I4.cell, I4.free, I4.freeC, I4.pin, I4.hok, I4.len⟩
  have inside : ∀ {σ' : St} {H' : Hp} {s' : Shared}, Inv (X.blx s3 H3 scope ce fp xe) [] σ' H' s' → (∀ b ∈ fp, H' b = none) → ∀ b ∈ fp, FpOk (X.blx s3 H3 scope ce fp xe) [] H' b := fun I' hn b hb =>
    ⟨hn b hb, (I'.ok.exf b hb).1, I'.ok.exfs b hb, .inl hb, fun x c e => (I'.ok.exf b hb).2 x c e, fun p hp => nomatch hp⟩
  let Loop : Nat → Shared → Prop := fun n s' => ∃ i H', Inv (X.blx s3 H3 scope ce fp xe) [] (wipe σ (own.map (·.2))) H' s' ∧ tn i s'.heap ∧ (∀ b ∈ fp, H' b = none) ∧ W i n H'
  have whole : codeAny (model X.prog X.w) X.A (.compLoop (.ListComp elt [⟨tg, iter, ifs, 0⟩] scope pos) 0 (.ref it) (.ref L) ce) (leftC (model X.prog X.w) X.A X.xe (fun v s' => EP X pins σ Q v s') (.ref L) ce) s4 := by
    refine compLoop_any Loop (fun n s5 ⟨i, H5, I5, at5, none5, w5⟩ => ?_) m0 ⟨0, H3, I4, at4, none3, w0⟩
    rcases turn i n H5 w5 with ⟨stop, done⟩ | ⟨go, Nx, later, step⟩
    · refine thnF (T.done (X.blx s3 H3 scope ce fp xe) rfl rfl rfl hc i [] s5 _ H5 (fun _ _ => False) I5 (inside I5 none5) at5 stop) fun r s6 ⟨er, I6⟩ => ?_
      subst er
      have I7 : Inv X pins σ H5 s6 := I3.call' (ch := fp) I6.os I6.base I6.hok I6.bare fun b hb => let z := (fpOk3 b hb).1.2; ⟨z.2.2.1, z.1, z.2.2.2.1, z.2.2.2.2⟩
      have freeC : H5 s3.heap.objs.size = none := Ceq ▸ (show H5 ce.locals = none from I6.free)
      obtain ⟨m, ns, _⟩ := I6.loc
      have ns : s6.heap.Ns ce.locals m := ns
      obtain ⟨a0, a1, _, a3, a4, a5⟩ := I3.fpOk (H' := H5) (Nat.le_refl _) freeC
      refine ⟨m, ns, fun h2 same => ⟨.ref L, H5, I7.turned (t' := s6.toks) (fun b o hb => ((same.2 b (by rw [Ceq]; exact hb)).trans ·)) a0 a1 a3 a4 a5, rfl, done⟩⟩
    · refine thnF (T.item (X.blx s3 H3 scope ce fp xe) rfl rfl rfl hc i [] s5 _ H5 (fun _ _ => False) I5 (inside I5 none5) at5 go) fun r s6 ⟨u, er, h6⟩ => ?_
      subst er
      refine thnF h6 fun _ s7 ⟨x, H7, I7, r7, y7, at7, none7⟩ => ?_
      have out : ∀ {α : Type} {t : Sem α} {P R : α → Shared → Prop} {s' : Shared}, wpAny (model X.prog X.w) X.A t P xe s' → (∀ v s'', P v s'' → R v s'') → wpAny (model X.prog X.w) X.A t R (notedBy (model X.prog X.w) X.A ce fun e t => leftC (model X.prog X.w) X.A X.xe (fun v s' => EP X pins σ Q v s') (.ref L) ce (.error e) t) s' := fun k f => wpAny_mono k f fun _ _ z => exe ▸ z
      refine out (Gt.run _ s7 _ H7 x u _ (I7.pinned (inside I7 none7) (T.obj _ _ at7)) r7 (step x H7 y7)) fun _ s8 ⟨σ8, H8, I8, same8, q8⟩ => ?_
      refine out (Tt.run _ s8 σ8 H8 _ I8 q8) fun b s9 ⟨H9, I9, q9⟩ => ?_
      -- how a turn ends
      have ends : ∀ {s' : Shared} {H' : Hp}, Inv (X.blx s3 H3 scope ce fp xe) ([] ++ pinsAt fp s7.heap) σ8 H' s' → Nx H' → ∃ m, m < n ∧ Loop m s' := fun {s' H'} I' nx => by
        obtain ⟨m', lt, w'⟩ := later H' nx
        have pinned : ∀ b ∈ fp, ∀ o, s7.heap.get? b = some o → s'.heap.get? b = some o ∧ H' b = none := fun b hb o e => (fun z => ⟨z.1, z.2.1⟩) (I'.pin (b, o) (List.mem_append_right _ (List.mem_append_right _ (mem_pinsAt hb e))))
        refine ⟨m', lt, i + 1, H', I'.unpinned (pins := []) |>.weak ((wipe_length σ _).trans ((wipe_length σ _).symm.trans (same8 ▸ wipe_length σ8 _))) (fun j v e => (wipe_some (same8.symm ▸ e)).1), ?_, ?_, w'⟩
        · exact T.keep _ _ _ at7 fun b hb o e => (pinned b hb o e).1
        · exact fun b hb => let ⟨o, e, _⟩ := T.obj _ _ at7 b hb; (pinned b hb o e).2
      cases b with
      | false => exact ends I9 (by simpa using q9)
      | true =>
        rw [if_pos rfl] at q9
        refine out (Et.run _ s9 σ8 H9 _ I9 q9) fun z s10 ⟨y, H10, I10, r10, acc, hL, hz, nx⟩ => ?_
        exact wpAny_mono (app_ok (X := X.blx s3 H3 scope ce fp xe) I10 hL hz r10 fun s11 I11 => ends I11 nx) (fun _ _ z => z) fun _ _ z => exe ▸ z
  exact codeAny_compStart_list whole (T.self X.A 0 _ _ _ at4 whole)
end
end L2
namespace Bp
open PySem PySem.Spec PyProof.Rows L2
open Evl (Ex)
/-! ## texts, as lists of code points -/
abbrev sD (l : List Nat) : D := .str (SX.S l)
def lit (s : String) : List Nat := s.toList.map Char.toNat
theorem lit_S (s : String) : Str.ofString s = SX.S (lit s) := TL.ext_tl (TL.tl_ofString s)
theorem str_S (s : Str) : s = SX.S s.cps.toList := (SX.S_tl s).symm
def cutC (c : Nat) (l : List Nat) : List (List Nat) := TL.spl [c] 0 [] l
theorem cut_none {c : Nat} {p : List Nat} (h : c ∉ p) : cutC c p = [p] := (TL.spl_last1 (S := []) h).trans (by rw [List.nil_append])
theorem cut_app {c : Nat} {p q : List Nat} (h : c ∉ p) : cutC c (p ++ c :: q) = p :: cutC c q := (TL.spl_part1 (S := []) (rest := q) h).trans (by rw [List.nil_append]; rfl)
theorem firstC {c : Nat} : ∀ {l : List Nat}, c ∈ l → ∃ p q, l = p ++ c :: q ∧ c ∉ p
  | x :: l, h => by
    by_cases e : x = c
    · exact ⟨[], l, by rw [e]; rfl, by simp⟩
    · have h : c ∈ l := by
        rcases List.mem_cons.mp h with z | z
        · exact absurd z.symm e
        · exact z
      obtain ⟨p, q, e1, e2⟩ := firstC h
      exact ⟨x :: p, q, by rw [e1]; rfl, fun z => by
        rcases List.mem_cons.mp z with z | z
        · exact e z.symm
        · exact e2 z⟩
/-- cutting at c, by cases -/
theorem cut_ind {c : Nat} {P : List Nat → Prop} (h0 : ∀ p, c ∉ p → P p) (h1 : ∀ p q, c ∉ p → P q → P (p ++ c :: q)) : ∀ l, P l := fun l => by
  obtain ⟨n, hn⟩ : ∃ n, n = l.length := ⟨_, rfl⟩
  induction n using Nat.strongRecOn generalizing l with
  | ind n ih =>
    by_cases h : c ∈ l
    · obtain ⟨p, q, rfl, hp⟩ := firstC h
      exact h1 p q hp (ih q.length (by rw [hn, List.length_append, List.length_cons]; omega) q rfl)
    · exact h0 l h
theorem cut_ne {c : Nat} : ∀ l, cutC c l ≠ [] := cut_ind (fun p hp => by rw [cut_none hp]; simp) fun p q hp _ => by rw [cut_app hp]; simp
theorem cut_len {c : Nat} : ∀ l, (cutC c l).length ≤ l.length + 1 := cut_ind (fun p hp => by rw [cut_none hp]; simp) fun p q hp h => by rw [cut_app hp, List.length_cons, List.length_append, List.length_cons]; omega
theorem cut_free {c : Nat} : ∀ l, ∀ p ∈ cutC c l, c ∉ p := cut_ind (fun p hp => by rw [cut_none hp]; intro x hx; rw [List.mem_singleton.mp hx]; exact hp) fun p q hp h => by
  rw [cut_app hp]; intro x hx
  rcases List.mem_cons.mp hx with z | z
  · rw [z]; exact hp
  · exact h x z
theorem cut_part {c : Nat} : ∀ l, ∀ p ∈ cutC c l, p.length ≤ l.length := cut_ind (fun p hp => by rw [cut_none hp]; intro x hx; rw [List.mem_singleton.mp hx]; exact Nat.le_refl _) fun p q hp h => by
  rw [cut_app hp, List.length_append, List.length_cons]; intro x hx
  rcases List.mem_cons.mp hx with z | z
  · rw [z]; omega
  · have := h x z; omega
theorem split_S (a : List Nat) {c : Nat} (hc : c < 256) : Txt.split (SX.S a) (SX.S [c]) = (cutC c a).map SX.S := by
  refine TL.map_tl_inj ?_
  rw [TL.split_spl _ _ (by show [c] ≠ []; simp) (TL.kind_ok (by show (SX.S [c]).cps.all _ = true; simp [SX.S, hc])), List.map_map]
  show cutC c a = (cutC c a).map fun x => x
  rw [List.map_id']
/-- before and behind the first c -/
def parC (c : Nat) (l : List Nat) : List Nat × List Nat × List Nat := if c ∈ l then (l.takeWhile fun x => !decide (x = c), [c], (l.dropWhile fun x => !decide (x = c)).drop 1) else (l, [], [])
theorem par_app {c : Nat} {p q : List Nat} (h : c ∉ p) : parC c (p ++ c :: q) = (p, [c], q) := by
  unfold parC
  rw [if_pos (by simp)]
  have e : ∀ p : List Nat, c ∉ p → (p ++ c :: q).takeWhile (fun x => !decide (x = c)) = p ∧ (p ++ c :: q).dropWhile (fun x => !decide (x = c)) = c :: q := fun p => by
    induction p with
    | nil => intro _; simp
    | cons x p ih =>
      intro hp
      have hx : ¬ x = c := fun z => hp (by rw [z]; exact List.mem_cons_self)
      have := ih fun z => hp (List.mem_cons_of_mem _ z)
      simp [hx, this.1, this.2]
  rw [(e p h).1, (e p h).2]; rfl
theorem par_no {c : Nat} {p : List Nat} (h : c ∉ p) : parC c p = (p, [], []) := if_neg h
theorem part_S (a : List Nat) (c : Nat) : Txt.partition (SX.S a) (SX.S [c]) = (SX.S (parC c a).1, SX.S (parC c a).2.1, SX.S (parC c a).2.2) := by
  by_cases h : c ∈ a
  · obtain ⟨p, q, rfl, hp⟩ := firstC h
    rw [par_app hp, show SX.S (p ++ c :: q) = SX.S p ++ SX.S [c] ++ SX.S q from by rw [SX.S_cat, SX.S_cat]; simp]
    exact TL.partition_app (y := SX.S [c]) (s := c) (S := []) rfl hp
  · rw [par_no h]
    exact TL.partition_none (y := SX.S [c]) (s := c) (S := []) rfl h
theorem join_S (a : List Nat) (ys : List (List Nat)) : Txt.join (SX.S a) (ys.map SX.S) = SX.S (TL.joinL a ys) := by
  refine TL.ext_tl ?_
  rw [TL.join_eq, TL.tl_join, List.map_map]
  show TL.joinL a (ys.map fun x => x) = TL.joinL a ys
  rw [List.map_id']
theorem eqD_sD (a b : List Nat) : eqD (sD a) (sD b) = decide (a = b) := by
  rw [eqD_str]
  by_cases h : a = b
  · rw [h]; simp
  · rw [decide_eq_false h, decide_eq_false fun z => h (SX.S_inj z)]
/-! ### methods of texts -/
def rSpl : V → List V → Hp → VK → Prop := fun x xs H Q => ∃ a b, x = .str a ∧ xs = [.str b] ∧ (b.length == 0) = false ∧ a.length + 2 ≤ sizeLine ∧ rNewStrs (Txt.split a b) H Q
def rPar : V → List V → Hp → VK → Prop := fun x xs H Q => ∃ a b, x = .str a ∧ xs = [.str b] ∧ (b.length == 0) = false ∧ a.length ≤ sizeLine ∧ ∀ p, H p = none → Q (.ref p) (upd H p (.tup [.str (Txt.partition a b).1, .str (Txt.partition a b).2.1, .str (Txt.partition a b).2.2]))
def rJoi (K : PySem.W.Frag) : V → List V → Hp → VK → Prop := fun x xs H Q => ∃ a p, ∃ ys : List Str, x = .str a ∧ xs = [.ref p] ∧ (SqL K H p (ys.map V.str) ∨ SqT K H p (ys.map V.str)) ∧ (ys.map (·.length)).sum + ys.length * a.length ≤ 16777216 ∧ Q (.str (Txt.join a ys)) H
section
variable {X : Cx} {o e : Expr} {to te : TE} {apos pos : Pos}
theorem split_pe (ho : PE X o to) (he : PE X e te) (h1 : starEach [e] X.env = [(false, eval e X.env)] := by rfl) (h2 : attributeBase o "split" X.env (eval o X.env) = eval o X.env := by rfl) (h3 : (apos.endLine == pos.line) = true := by rfl) : PE X (.Call (.Attribute o "split" apos) [e] [] pos) (tM1 rSpl to te) := pe_split ho he h1 h2 h3
theorem part_pe (ho : PE X o to) (he : PE X e te) (h1 : starEach [e] X.env = [(false, eval e X.env)] := by rfl) (h2 : attributeBase o "partition" X.env (eval o X.env) = eval o X.env := by rfl) (h3 : (apos.endLine == pos.line) = true := by rfl) : PE X (.Call (.Attribute o "partition" apos) [e] [] pos) (tM1 rPar to te) := pe_partition ho he h1 h2 h3
theorem join_pe (K : PySem.W.Frag) (ho : PE X o to) (he : PE X e te) (hK : X.K = K := by rfl) (h1 : starEach [e] X.env = [(false, eval e X.env)] := by rfl) (h2 : attributeBase o "join" X.env (eval o X.env) = eval o X.env := by rfl) (h3 : (apos.endLine == pos.line) = true := by rfl) : PE X (.Call (.Attribute o "join" apos) [e] [] pos) (tM1 (rJoi K) to te) := by
  subst hK; exact pe_join ho he h1 h2 h3
end
def rLenX : List V → Hp → VK → Prop := fun xs H Q => ∃ z, xs = [.str z] ∧ z.length ≤ sizeLine ∧ Q (.int z.length) H
theorem lenX_cr {X : Cx} : CallR X (.builtin "len") rLenX := call_len_str
def rNiC : R2 := fun x y H Q => ∃ (c : Nat) (z : Str), x = .str ⟨#[c]⟩ ∧ y = .str z ∧ Q (.bl (!decide (c ∈ z.cps.toList))) H
theorem niC_op {X : Cx} : OpR X (compareOp .NotIn) rNiC := op_notIn_sign
def rStrI : List V → Hp → VK → Prop := fun xs H Q => ∃ i, xs = [.int i] ∧ i.natAbs.log2 < 1920 ∧ Q (.str (toString i)) H
theorem strI_cr {X : Cx} : CallR X (.type "str") rStrI := call_str_int
def rIntT : List V → Hp → VK → Prop := fun xs H Q => ∃ a n, xs = [.str a] ∧ PySem.intText? a = some n ∧ a.length ≤ 640 ∧ Q (.int n) H
theorem intT_cr {X : Cx} : CallR X (.type "int") rIntT := call_int_str
section
variable {K : PySem.W.Frag} {σ : L2.St} {F H : Hp} {to te ta tb : TE} {a b : List Nat} {c i j : Nat} {ts : TA}
theorem rp_strs {G : Hp} {ys : List (List Nat)} : Rps G ((ys.map SX.S).map V.str) (ys.map sD) := by
  rw [List.map_map]
  induction ys with
  | nil => exact .nil
  | cons y ys ih => exact .cons (.str _) ih
theorem strs_rp {G : Hp} : ∀ {ys : List (List Nat)} {vs : List V}, Rps G vs (ys.map sD) → vs = (ys.map SX.S).map V.str
  | [], vs, h => h.unnil
  | y :: ys, vs, h => by
    obtain ⟨v, us, rfl, h1, h2⟩ := Rps.uncons (d := sD y) (ds := ys.map sD) h
    rw [h1.estr, strs_rp h2]; rfl
theorem el_split (h : ED to σ F (sD a)) (hb : ED tb σ F (sD [c])) (hc : c < 256) (hz : a.length ≤ 99998) : EL (tM1 rSpl to tb) σ F ((cutC c a).map sD) := fun F1 H1 e1 e2 Q q =>
  h F1 H1 e1 e2 _ fun v F2 H2 n2 r2 => ⟨⟨_, r2.estr⟩, hb F2 H2 (e1.trans n2.f) n2.fh _ fun u F3 H3 n3 r3 => ⟨SX.S a, SX.S [c], r2.estr, by rw [r3.estr], rfl, Evl.sz_of (by rw [SX.S_len]; omega), fun p hp => by
    have n := n2.trans n3
    have f0 := Evl.fresh_back n.fh hp
    have h0 : H1 p = none := Evl.fresh_back n.h hp
    exact q p _ _ _ (n.mut h0 f0) f0 h0 upd_same (by rw [split_S _ hc]; exact rp_strs)⟩⟩
theorem ed_split (h : ED to σ F (sD a)) (hb : ED tb σ F (sD [c])) (hc : c < 256) (hz : a.length ≤ 99998) : ED (tM1 rSpl to tb) σ F (.lst ((cutC c a).map sD)) := (el_split h hb hc hz).ed
theorem ed_part (h : ED to σ F (sD a)) (hb : ED tb σ F (sD [c])) (hz : a.length ≤ 100000) : ED (tM1 rPar to tb) σ F (.tup [sD (parC c a).1, sD (parC c a).2.1, sD (parC c a).2.2]) := fun F1 H1 e1 e2 Q q =>
  h F1 H1 e1 e2 _ fun v F2 H2 n2 r2 => ⟨⟨_, r2.estr⟩, hb F2 H2 (e1.trans n2.f) n2.fh _ fun u F3 H3 n3 r3 => ⟨SX.S a, SX.S [c], r2.estr, by rw [r3.estr], rfl, Evl.sz_of (by rw [SX.S_len]; omega), fun p hp => by
    have n := n2.trans n3
    refine q _ _ _ (n.trans (Nx.new n.fh hp)) (Rp.mkT upd_same ?_)
    rw [part_S]
    exact .cons (.str _) (.cons (.str _) (.cons (.str _) .nil))⟩⟩
theorem ed_join {ys : List (List Nat)} (h : ED to σ F (sD a)) (hb : ED tb σ F (.lst (ys.map sD))) (hz : (ys.map List.length).sum + ys.length * a.length ≤ 100000) : ED (tM1 (rJoi K) to tb) σ F (sD (TL.joinL a ys)) := fun F1 H1 e1 e2 Q q =>
  h F1 H1 e1 e2 _ fun v F2 H2 n2 r2 => ⟨⟨_, r2.estr⟩, hb F2 H2 (e1.trans n2.f) n2.fh _ fun u F3 H3 n3 r3 => by
    obtain ⟨p, vs, rfl, hp, hr⟩ := r3.list
    have e : vs = (ys.map SX.S).map V.str := strs_rp hr
    subst e
    have len : ((ys.map SX.S).map (·.length)).sum = (ys.map List.length).sum := by
      rw [List.map_map]
      exact congrArg List.sum (List.map_congr_left fun x _ => SX.S_len x)
    have k : ((ys.map SX.S).map (·.length)).sum + (ys.map SX.S).length * (SX.S a).length ≤ 16777216 := by
      rw [len, List.length_map, SX.S_len]
      omega
    have g := q (.str (SX.S (TL.joinL a ys))) F3 H3 (n2.trans n3) (.str _)
    rw [← join_S] at g
    exact ⟨SX.S a, p, ys.map SX.S, r2.estr, rfl, .inl (Evl.sq_of (n3.fh _ _ hp)), k, g⟩⟩
theorem rd_ixs {k : Int} (h : atI a k = some c) (hz : a.length ≤ 100000) : RD (rIx K) F (sD a) (.int k) (sD [c]) := fun F1 H1 v u _ e2 rv ru Q q => .inr (.inr ⟨SX.S a, k, c, rv.estr, ru.eint, Evl.sz_of (by rw [SX.S_len]; exact hz), h, q _ F1 H1 (Nx.refl e2) (.str _)⟩)
theorem rd_niC : RD rNiC F (sD [c]) (sD a) (.bl (!decide (c ∈ a))) := fun F1 H1 v u _ e2 rv ru Q q => ⟨c, SX.S a, rv.estr, ru.estr, q _ F1 H1 (Nx.refl e2) (.bl _)⟩
theorem rd_addT (h : a.length + b.length ≤ 100000) : RD rAddS F (sD a) (sD b) (sD (a ++ b)) := by
  have := rd_addS (F := F) (x := SX.S a) (y := SX.S b) (by rw [SX.S_len, SX.S_len]; exact h)
  rwa [SX.S_cat] at this
theorem rl_lenS (hz : a.length ≤ 100000) : RL rLenX F [sD a] (.int (a.length : Int)) := fun F1 H1 vs _ e2 rv Q q => by
  obtain ⟨v, us, rfl, h1, h2⟩ := rv.uncons
  obtain rfl := h2.unnil
  refine ⟨SX.S a, by rw [h1.estr], Evl.sz_of (by rw [SX.S_len]; exact hz), ?_⟩
  rw [SX.S_len]
  exact q _ F1 H1 (Nx.refl e2) (.int _)
theorem rl_strI {k : Nat} (hk : k < 100000) : RL rStrI F [.int (k : Int)] (sD (TL.numL k)) := fun F1 H1 vs _ e2 rv Q q => by
  obtain ⟨v, us, rfl, h1, h2⟩ := rv.uncons
  obtain rfl := h2.unnil
  refine ⟨(k : Int), by rw [h1.eint], ?_, ?_⟩
  · rw [Int.natAbs_natCast]
    by_cases h0 : k = 0
    · subst h0; decide
    · exact Nat.lt_trans ((Nat.log2_lt h0).mpr (by omega : k < 2 ^ 17)) (by decide)
  · have es : (toString (k : Int) : Str) = SX.S (TL.numL k) := SX.num_S k
    rw [es]; exact q _ F1 H1 (Nx.refl e2) (.str _)
theorem rl_intT {n : Nat} (hd : a.all (fun c => decide (48 ≤ c) && decide (c ≤ 57)) = true) (hne : a ≠ []) (hz : a.length ≤ 640) : RL rIntT F [sD a] (.int ((NumText.digitsVal a : Nat) : Int)) := fun F1 H1 vs _ e2 rv Q q => by
  obtain ⟨v, us, rfl, h1, h2⟩ := rv.uncons
  obtain rfl := h2.unnil
  exact ⟨SX.S a, _, by rw [h1.estr], SX.int_S hd hne (by omega), by rw [SX.S_len]; exact hz, q _ F1 H1 (Nx.refl e2) (.int _)⟩
end
end Bp
namespace Bp
open PySem PySem.Spec PyProof.Rows L2
open Evl (Ex)
/-! ## what may raise: some data, or the class C -/
def EZ (te : TE) (σ : L2.St) (F : Hp) (E : XK) (C : Addr) (o : Option D) : Prop := ∀ F1 H1, Ex F F1 → Ex F1 H1 → ∀ Q : VK, (∀ d v F2 H2, o = some d → Nx F1 H1 F2 H2 → Rp F2 v d → Q v H2) → (o = none → ∀ H2, Ex H1 H2 → E (.ref C) none H2) → te σ H1 Q
def spZ (R : List D → Option D → Prop) (C : Addr) : Sp := fun vs H Q E => ∃ F ds o, Ex F H ∧ Rps F vs ds ∧ R ds o ∧ (∀ d v F2 H2, o = some d → Nx F H F2 H2 → Rp F2 v d → Q v H2) ∧ (o = none → ∀ H2, Ex H H2 → E (.ref C) none H2)
theorem len_Z {n : Nat} {R : List D → Option D → Prop} {C : Addr} (h : ∀ ds o, R ds o → ds.length = n) : ∀ vs H Q E, spZ R C vs H Q E → vs.length = n := fun vs H Q E ⟨F, ds, o, _, r, hR, _⟩ => r.n.trans (h ds o hR)
section
variable {K : PySem.W.Frag} {σ : L2.St} {F H : Hp} {te ta tb tl : TE} {tas : TA} {a : List Nat} {i j : Nat} {ws : List Nat} {E : XK} {C : Addr} {o o1 o2 : Option D} {d : D} {ds : List D} {R : List D → Option D → Prop} {D0 : Ends} {tz tu : TS} {t : TT}
theorem EZ.is (h : EZ te σ F E C o) (e : o = o1) : EZ te σ F E C o1 := e ▸ h
theorem ez_of (h : ED te σ F d) : EZ te σ F E C (some d) := fun F1 H1 e1 e2 Q q _ => h F1 H1 e1 e2 _ fun v F2 H2 n r => q d v F2 H2 rfl n r
theorem ez_call (h : EA tas σ F ds) (hR : R ds o) : EZ (tCall (spZ R C) [] E tas) σ F E C o := fun F1 H1 e1 e2 Q q x =>
  h F1 H1 e1 e2 _ fun vs F2 H2 n2 r2 => ⟨F2, ds, o, n2.fh, by rw [List.append_nil]; exact r2, hR, fun d v F3 H3 e n3 r3 => q d v F3 H3 e (n2.trans n3) r3, fun e H3 x3 => x e H3 (n2.h.trans x3)⟩
theorem ez_if {b : Bool} (h : ET t σ F b) (h1 : b = true → EZ ta σ F E C o) (h2 : b = false → EZ tb σ F E C o) : EZ (tIf t ta tb) σ F E C o := fun F1 H1 e1 e2 Q q x => h F1 H1 e1 e2 _ fun F2 H2 n2 => by
  cases b with
  | true => exact h1 rfl F2 H2 (e1.trans n2.f) n2.fh Q (fun d v F3 H3 e n3 r3 => q d v F3 H3 e (n2.trans n3) r3) fun e H3 x3 => x e H3 (n2.h.trans x3)
  | false => exact h2 rfl F2 H2 (e1.trans n2.f) n2.fh Q (fun d v F3 H3 e n3 r3 => q d v F3 H3 e (n2.trans n3) r3) fun e H3 x3 => x e H3 (n2.h.trans x3)
theorem ez_tup (h1 : EZ ta σ F E C o1) (h2 : EZ tb σ F E C o2) : EZ (tTup (tCons ta (tCons tb tNil))) σ F E C (o1.bind fun x => o2.map fun y => .tup [x, y]) := fun F1 H1 e1 e2 Q q x =>
  h1 F1 H1 e1 e2 _ (fun d1 v1 F2 H2 e n2 r2 => h2 F2 H2 (e1.trans n2.f) n2.fh _ (fun d2 v2 F3 H3 e' n3 r3 => ⟨Evl.sz_of (by show 2 ≤ 100000; decide), fun p hp => q (.tup [d1, d2]) _ _ _ (by rw [e, e']; rfl) ((n2.trans n3).trans (Nx.new n3.fh hp)) (Rp.mkT upd_same ((Rps.cons (r2.mono n3.f) (.cons r3 .nil)).mono (Ex.new (Evl.fresh_back n3.fh hp))))⟩)
    fun e' H3 x3 => x (by rw [e, e']; rfl) H3 (n2.h.trans x3)) fun e H2 x2 => x (by rw [e]; rfl) H2 x2
theorem mapM_snoc {α β : Type} {f : α → Option β} : ∀ {xs : List α} {x : α}, (xs ++ [x]).mapM f = (xs.mapM f).bind fun ys => (f x).map fun y => ys ++ [y]
  | [], x => by simp [List.mapM_cons]; cases f x <;> rfl
  | y :: xs, x => by
    rw [List.cons_append, List.mapM_cons, List.mapM_cons, mapM_snoc]
    cases f y with
    | none => rfl
    | some b =>
      show (do let r ← (xs.mapM f).bind fun ys => (f x).map fun y => ys ++ [y]; pure (b :: r)) = ((do let r ← xs.mapM f; pure (b :: r)) : Option (List β)).bind fun ys => (f x).map fun y => ys ++ [y]
      cases xs.mapM f with
      | none => rfl
      | some ys => cases f x <;> rfl
theorem mapM_pre {α β : Type} {f : α → Option β} {xs : List α} {n : Nat} (h : (xs.take n).mapM f = none) : xs.mapM f = none := by
  induction xs generalizing n with
  | nil => simp at h
  | cons x xs ih =>
    cases n with
    | zero => simp at h
    | succ n =>
      rw [List.take_succ_cons, List.mapM_cons] at h
      rw [List.mapM_cons]
      cases e : f x with
      | none => rfl
      | some y =>
        rw [e] at h
        have h : (do let r ← (xs.take n).mapM f; pure (y :: r) : Option (List β)) = none := h
        show (do let r ← xs.mapM f; pure (y :: r) : Option (List β)) = none
        cases e2 : (xs.take n).mapM f with
        | none => rw [ih e2]; rfl
        | some ys => rw [e2] at h; cases h
/-- [e for x in xs], e may raise -/
theorem ez_lc {α : Type} {emb : α → D} {xs : List α} {f : α → Option D} (h : ED tl σ F (.lst (xs.map emb))) (hz : xs.length < 50000) (hw : ∀ x, wipe ((wipe σ ws).set j (some x)) ws = wipe σ ws)
    (he : ∀ x v F1, x ∈ xs → Ex F F1 → Rp F1 v (emb x) → EZ te ((wipe σ ws).set j (some v)) F1 E C (f x)) : EZ (tLc (iList K tl) (gName j) tYes te ws) σ F E C ((xs.mapM f).map .lst) := fun F0 H0 e1 e2 Q q x => h F0 H0 e1 e2 _ fun v F1 H1 n1 r1 => by
  obtain ⟨a, vs, rfl, ha, hr⟩ := r1.list
  have hn : vs.length = xs.length := by rw [hr.n, List.length_map]
  refine ⟨a, rfl, ⟨vs, Evl.sq_of (n1.fh _ _ ha)⟩, fun Dl hD => ?_⟩
  refine lc_list (xs := vs) (fun n H' => ∃ ys, (xs.take n).mapM f = some ys ∧ Cw F1 H1 Dl ys H') ⟨[], by simp, Cw.start n1.fh hD⟩ (fun n H' _ p => ?_) (fun n u H' hu p => ⟨hw u, ?_⟩) (fun H' p => ?_)
  · obtain ⟨_, _, c⟩ := p
    obtain ⟨Fi, us, nx, _⟩ := c.ex
    exact Evl.sq_of (nx.fh _ _ (nx.f _ _ ha))
  · obtain ⟨ys, hy, c⟩ := p
    obtain ⟨d, hd, rd⟩ := hr.getv hu
    rw [List.getElem?_map, Option.map_eq_some_iff] at hd
    obtain ⟨y, hy2, rfl⟩ := hd
    obtain ⟨Fi, us, nx, fD, hDl, rs⟩ := c.ex
    have hlt := (List.getElem?_eq_some_iff.mp hy2).1
    have ly : ys.length < 50000 := by
      have h9 : ∀ {zs : List α} {ys : List D}, zs.mapM f = some ys → ys.length = zs.length := fun {zs} => by
        induction zs with
        | nil => intro ys h; simp at h; rw [h]; rfl
        | cons z zs ih =>
          intro ys h
          rw [List.mapM_cons] at h
          cases e : f z with
          | none => rw [e] at h; cases h
          | some b =>
            rw [e] at h
            cases e2 : zs.mapM f with
            | none => rw [e2] at h; cases h
            | some bs => rw [e2] at h; cases h; rw [List.length_cons, List.length_cons, ih e2]
      have := h9 hy
      rw [List.length_take] at this
      omega
    have tk : (xs.take (n + 1)).mapM f = (f y).map fun b => ys ++ [b] := by
      rw [List.take_add_one, hy2]
      show (xs.take n ++ [y]).mapM f = _
      rw [mapM_snoc, hy]; rfl
    refine he y u F1 (List.mem_of_getElem? hy2) (e1.trans n1.f) rd Fi H' nx.f nx.fh _ (fun b v2 F3 H3 eb n3 r3 => ?_) fun en H3 x3 => ?_
    · have f3 := n3.n Dl (by rw [hDl]; exact fun z => nomatch z) fD
      exact ⟨us, n3.h _ _ hDl, Evl.sz_lt (by rw [rs.n]; omega), ys ++ [b], by rw [tk, eb]; rfl, ⟨⟨F3, us ++ [v2], (nx.trans n3).mut c.h0 f3, f3, upd_same, (rs.mono n3.f).snoc r3⟩, c.h0⟩⟩
    · refine x ?_ H3 ((n1.h.trans nx.h).trans x3)
      rw [mapM_pre (n := n + 1) (by rw [tk, en]; rfl)]; rfl
  · obtain ⟨ys, hy, c⟩ := p
    rw [List.take_of_length_le (by omega)] at hy
    obtain ⟨F2, n2, r2⟩ := c.done
    exact q (.lst ys) _ F2 H' (by rw [hy]; rfl) (n1.trans n2) r2
theorem q_asgE (e : Ex F H) (h : EZ te σ F E C o) (x : o = none → ∀ H2, Ex H H2 → E (.ref C) none H2) (k : ∀ d v F1 H1, o = some d → Nx F H F1 H1 → Rp F1 v d → tz D0 (σ.set i (some v)) H1) : tSeq (tAsg te (gName i)) tz D0 σ H := h F H (Ex.refl F) e _ k x
theorem s_retE (e : Ex F H) (h : EZ te σ F E C o) (x : o = none → ∀ H2, Ex H H2 → E (.ref C) none H2) (k : ∀ d v F1 H1, o = some d → Nx F H F1 H1 → Rp F1 v d → D0.rt v H1) : tRet te D0 σ H := h F H (Ex.refl F) e _ k x
/-- *xs, y = .. -/
theorem q_starL (e : Ex F H) (h : ED te σ F (.lst (ds ++ [d]))) (hz : ds.length < 16000) (k : ∀ v u F1 H1, Nx F H F1 H1 → Rp F1 v (.lst ds) → Rp F1 u d → tz D0 ((σ.set i (some v)).set j (some u)) H1) :
    tSeq (tAsg te (gStar K 2 0 (gCons (gName i) (gCons (gName j) gNil)))) tz D0 σ H := h F H (Ex.refl F) e _ fun v F1 H1 n1 r1 => by
  obtain ⟨a, vs, rfl, ha, hr⟩ := r1.list
  have hn : vs.length = ds.length + 1 := by rw [hr.n, List.length_append, List.length_singleton]
  obtain ⟨us, u, rfl⟩ : ∃ us u, vs = us ++ [u] := ⟨vs.dropLast, vs.getLast (by intro z; rw [z] at hn; simp at hn), (List.dropLast_concat_getLast _).symm⟩
  have hl : us.length = ds.length := by rw [List.length_append, List.length_singleton] at hn; omega
  have ru : Rp F1 u d := hr.r us.length u d (by simp) (by rw [hl]; simp)
  have rs : Rps F1 us ds := ⟨hl, fun k w c h1 h2 => hr.r k w c (by rw [List.getElem?_append_left (List.getElem?_eq_some_iff.mp h1).1]; exact h1) (by rw [List.getElem?_append_left (List.getElem?_eq_some_iff.mp h2).1]; exact h2)⟩
  refine ⟨a, us ++ [u], rfl, Evl.sq_of (n1.fh _ _ ha), by omega, by omega, fun p hp => ?_⟩
  rw [show (us ++ [u]).length + 1 - 2 = us.length from by rw [List.length_append, List.length_singleton]; omega, List.take_zero, List.drop_zero, List.drop_left, List.take_left]
  exact ⟨.ref p, [u], rfl, u, [], rfl, rfl, k (.ref p) u _ _ (n1.trans (Nx.new n1.fh hp)) (Rp.mkL upd_same (rs.mono (Ex.new (Evl.fresh_back n1.fh hp)))) (ru.mono (Ex.new (Evl.fresh_back n1.fh hp)))⟩
/-- x, *ys = .. -/
theorem q_starR (e : Ex F H) (h : ED te σ F (.lst (d :: ds))) (hz : ds.length < 16000) (k : ∀ v u F1 H1, Nx F H F1 H1 → Rp F1 v d → Rp F1 u (.lst ds) → tz D0 ((σ.set i (some v)).set j (some u)) H1) :
    tSeq (tAsg te (gStar K 2 1 (gCons (gName i) (gCons (gName j) gNil)))) tz D0 σ H := h F H (Ex.refl F) e _ fun v F1 H1 n1 r1 => by
  obtain ⟨a, vs, rfl, ha, hr⟩ := r1.list
  obtain ⟨x, us, rfl, rx, rs⟩ := hr.uncons
  have hl : us.length = ds.length := rs.n
  refine ⟨a, x :: us, rfl, Evl.sq_of (n1.fh _ _ ha), by rw [List.length_cons]; omega, by rw [List.length_cons]; omega, fun p hp => ?_⟩
  rw [show (x :: us).length + 1 - 2 = us.length from by rw [List.length_cons]; omega, show (x :: us).drop 1 = us from rfl, show (x :: us).take 1 = [x] from rfl, List.drop_length, List.take_length]
  exact ⟨x, [.ref p], rfl, .ref p, [], rfl, rfl, k x (.ref p) _ _ (n1.trans (Nx.new n1.fh hp)) (rx.mono (Ex.new (Evl.fresh_back n1.fh hp))) (Rp.mkL upd_same (rs.mono (Ex.new (Evl.fresh_back n1.fh hp))))⟩
/-- for c in a text -/
theorem q_forT' (e : Ex F H) (h : ED te σ F (sD a))
    (k : ∀ F1 H1, Nx F H F1 H1 → ∃ P : Nat → L2.St → Hp → Prop, P 0 σ H1 ∧ (∀ n c σ' H', a[n]? = some c → P n σ' H' → tu { D0 with nx := P (n + 1), ct := P (n + 1), bk := tz D0 } (σ'.set j (some (.str (SX.S [c])))) H') ∧ (∀ σ' H', P a.length σ' H' → tz D0 σ' H')) :
    tSeq (tFor (iStr te) (gName j) tu) tz D0 σ H := h F H (Ex.refl F) e _ fun v F1 H1 n1 r1 => by
  obtain ⟨P, p0, ps, pd⟩ := k F1 H1 n1
  have hs : (SX.S a).cps.size = a.length := by simp [SX.S]
  refine ⟨SX.S a, r1.estr, for_it (D := { D0 with nx := tz D0 }) walk_str P p0 (fun _ _ _ _ _ => trivial) (fun n x σ' H' H'' hlt p y => ?_) (fun σ' H' p => pd σ' H' (by rw [hs] at p; exact p))⟩
  obtain ⟨rfl, c, hc, rfl⟩ := y
  exact ps n c σ' H'' (by simpa [SX.S] using hc) p
/-- [c for c in a text if f c] -/
theorem ed_lcT {f : Nat → Bool} (h : ED te σ F (sD a)) (hz : a.length < 50000) (hw : ∀ x, wipe ((wipe σ ws).set j (some x)) ws = wipe σ ws)
    (ht : ∀ c F1, c ∈ a → Ex F F1 → ET t ((wipe σ ws).set j (some (.str (SX.S [c])))) F1 (f c)) (hj : ∀ x, ((wipe σ ws).set j (some x))[j]? = some (some x)) : ED (tLc (iStr te) (gName j) t (tVar j) ws) σ F (.lst ((a.filter f).map fun c => sD [c])) := fun F0 H0 e1 e2 Q q => h F0 H0 e1 e2 _ fun v F1 H1 n1 r1 => by
  have hs : (SX.S a).cps.size = a.length := by simp [SX.S]
  refine ⟨SX.S a, r1.estr, fun Dl hD => ?_⟩
  refine lc_it walk_str (fun i H' => Cw F1 H1 Dl (((a.take i).filter f).map fun c => sD [c]) H') (Cw.start n1.fh hD) (fun _ _ _ _ => trivial) (fun n x H' H'' hlt p y => ?_) (fun H' p => ?_)
  · obtain ⟨rfl, c, hc, rfl⟩ := y
    have hc : a[n]? = some c := by simpa [SX.S] using hc
    refine ⟨hw _, Cw.turn p ?_ (ht c F1 (List.mem_of_getElem? hc) (e1.trans n1.f)) (fun _ => ed_var (hj _) (.str _)) fun H'' p' => ?_⟩
    · rw [List.length_map]
      have h1 := List.length_filter_le f (a.take n)
      rw [List.length_take] at h1
      omega
    · rw [take_filter_map hc]; exact p'
  · rw [hs, List.take_of_length_le (Nat.le_refl _)] at p
    obtain ⟨F2, n2, r2⟩ := p.done
    exact q _ F2 H' (n1.trans n2) r2
end
end Bp
namespace Bp
open PySem PySem.Spec PyProof.Rows L2
open Evl (Ex)
/-! ## what a text writes -/
def isDig (c : Nat) : Bool := decide (48 ≤ c) && decide (c ≤ 57)
def numOk (l : List Nat) : Bool := ((decide (1 ≤ l.length) && decide (l.length ≤ 3)) && (decide (l = [48]) || !decide (l.head? = some 48))) && l.all isDig
def numV (l : List Nat) : Option Int := if numOk l = true then some ((NumText.digitsVal l : Nat) : Int) else none
def wayV (l : List Nat) : Option (Int × Int) := (numV (parC 58 l).1).bind fun a => (numV (parC 58 l).2.2).map fun b => (a, b)
def waysV (ws : List (List Nat)) : Option (List (Int × Int)) := ws.mapM wayV
def hdC (c : Nat) (l : List Nat) : List Nat := (cutC c l).headD []
def tlC (c : Nat) (l : List Nat) : List (List Nat) := (cutC c l).tail
def frC (c : Nat) (l : List Nat) : List (List Nat) := (cutC c l).dropLast
def laC (c : Nat) (l : List Nat) : List Nat := (cutC c l).getLastD []
theorem cut_cons (c : Nat) (l : List Nat) : cutC c l = hdC c l :: tlC c l := by
  unfold hdC tlC
  have := cut_ne (c := c) l
  cases e : cutC c l with
  | nil => exact absurd e this
  | cons x xs => rfl
theorem cut_snoc (c : Nat) (l : List Nat) : cutC c l = frC c l ++ [laC c l] := by
  unfold frC laC
  have h := cut_ne (c := c) l
  have e : (cutC c l).getLastD [] = (cutC c l).getLast h := by
    generalize cutC c l = z at h
    cases z with
    | nil => exact absurd rfl h
    | cons x xs => simp [List.getLastD_eq_getLast?, List.getLast?_eq_some_getLast]
  rw [e]
  exact (List.dropLast_concat_getLast h).symm
def rowV (l : List Nat) : Option Rw := (if hdC 32 l = lit "there" then some none else (numV (hdC 32 l)).map some).bind fun k => (waysV (tlC 32 l)).map fun x => (k, x)
def beginV (l : List Nat) : Option (List (Int × Int)) := if hdC 32 l = lit "begin" then waysV (tlC 32 l) else none
def linesV : List (List Nat) → Option Pl
  | [] => none
  | l0 :: ls => (beginV l0).bind fun ws => (ls.mapM rowV).bind fun rows => if isPlan (planD (ws, rows)) 5 = true then some (ws, rows) else none
def readV (t : List Nat) : Option Pl := if laC 10 t = [] then linesV (frC 10 t) else none
def R_rn (ds : List D) (o : Option D) : Prop := ∃ l, ds = [sD l] ∧ l.length ≤ 50000 ∧ o = (numV l).map .int
def R_rw (ds : List D) (o : Option D) : Prop := ∃ l, ds = [sD l] ∧ l.length ≤ 50000 ∧ o = (wayV l).map wayD
def R_rws (ds : List D) (o : Option D) : Prop := ∃ ws, ds = [.lst (ws.map sD)] ∧ ws.length < 16000 ∧ (∀ w ∈ ws, w.length ≤ 15000) ∧ o = (waysV ws).map waysD
def R_rr (ds : List D) (o : Option D) : Prop := ∃ l, ds = [sD l] ∧ l.length ≤ 15000 ∧ o = (rowV l).map rowD
def R_rb (ds : List D) (o : Option D) : Prop := ∃ l, ds = [sD l] ∧ l.length ≤ 15000 ∧ o = (beginV l).map waysD
def R_rd (ds : List D) (o : Option D) : Prop := ∃ t, ds = [sD t] ∧ t.length ≤ 15000 ∧ o = (readV t).map planD
theorem dig_in (c : Nat) : decide (c ∈ lit "0123456789") = isDig c := by
  rw [show lit "0123456789" = [48, 49, 50, 51, 52, 53, 54, 55, 56, 57] from by decide +kernel]
  unfold isDig
  rw [Bool.eq_iff_iff]
  simp
  omega
theorem lit0 : lit "0" = [48] := by decide +kernel
theorem mapM_map {α β γ : Type} {f : α → Option β} {g : β → γ} : ∀ {xs : List α}, (xs.mapM fun x => (f x).map g) = (xs.mapM f).map (·.map g)
  | [] => rfl
  | x :: xs => by
    rw [List.mapM_cons, List.mapM_cons, mapM_map]
    cases f x with
    | none => rfl
    | some y =>
      show (do let r ← (xs.mapM f).map (·.map g); pure (g y :: r)) = ((do let r ← xs.mapM f; pure (y :: r)) : Option (List β)).map (·.map g)
      cases xs.mapM f <;> rfl
theorem mapM_congr' {α β : Type} {f g : α → Option β} : ∀ {xs : List α}, (∀ x ∈ xs, f x = g x) → xs.mapM f = xs.mapM g
  | [], _ => rfl
  | x :: xs, h => by
    rw [List.mapM_cons, List.mapM_cons, h x List.mem_cons_self, mapM_congr' fun y hy => h y (List.mem_cons_of_mem _ hy)]
section
variable {K : PySem.W.Frag} {σ : L2.St} {F H : Hp} {te ta tb : TE} {a b : List Nat}
theorem ed_lit (s : String) : ED (tC (.str (Str.ofString s))) σ F (sD (lit s)) := ED.is (d := .str (Str.ofString s)) ed_str (by rw [lit_S])
theorem ed_neT (h1 : ED ta σ F (sD a)) (h2 : ED tb σ F (sD b)) : ED (tOp rNe ta tb) σ F (.bl (!decide (a = b))) := ED.is (ed_op h1 h2 (z := .bl (!decide (SX.S a = SX.S b))) fun F1 H1 v u _ e2 rv ru Q q => by
  rw [rv.estr, ru.estr]
  exact ⟨rfl, by rw [show decide ((V.str (SX.S a)) = V.str (SX.S b)) = decide (SX.S a = SX.S b) from by simp]; exact q _ F1 H1 (Nx.refl e2) (.bl _)⟩) (by
  by_cases h : a = b
  · rw [h]; simp
  · rw [decide_eq_false h, decide_eq_false fun z => h (SX.S_inj z)])
theorem ed_eqT (h1 : ED ta σ F (sD a)) (h2 : ED tb σ F (sD b)) : ED (tOp rEq ta tb) σ F (.bl (decide (a = b))) := ED.is (ed_op h1 h2 rd_eqS) (by
  by_cases h : a = b
  · rw [h]; simp
  · rw [decide_eq_false h, decide_eq_false fun z => h (SX.S_inj z)])
end
theorem par_len (c : Nat) (l : List Nat) : (parC c l).1.length ≤ l.length ∧ (parC c l).2.2.length ≤ l.length := by
  by_cases h : c ∈ l
  · obtain ⟨p, q, rfl, hp⟩ := firstC h
    rw [par_app hp, List.length_append, List.length_cons]
    exact ⟨by show p.length ≤ _; omega, by show q.length ≤ _; omega⟩
  · rw [par_no h]; exact ⟨Nat.le_refl _, Nat.zero_le _⟩
end Bp
namespace Bp
open PySem PySem.Spec PyProof.Rows L2
open Evl (Ex)
section
variable {K : PySem.W.Frag} {σ : L2.St} {F H : Hp} {te ta tb : TE} {d : D}
def rIsNT : R2 := fun x y H Q => ∃ m n, x = .ty m ∧ y = .ty n ∧ Q (.bl (!decide (m = n))) H
theorem isNT_op {X : Cx} : OpR X (compareOp .IsNot) rIsNT := op_isNotTy
theorem ed_typN {T : String} (h : ED ta σ F d) (no : noObj d = true) : ED (tOp rIsNT (tThenZ ta kTypD) (tC (.ty T))) σ F (.bl (!decide (tyD d = T))) := fun F1 H1 e1 e2 Q q =>
  h F1 H1 e1 e2 _ fun v F2 H2 n2 r2 => by
    have goal : rIsNT (.ty (tyD d)) (.ty T) H2 Q := ⟨_, _, rfl, rfl, q _ F2 H2 n2 (.bl _)⟩
    show kTypD v H2 fun x H1 => rIsNT x (.ty T) H1 Q
    cases r2 with
    | non => exact .inl ⟨_, rfl, goal⟩
    | bl b => exact .inl ⟨_, rfl, goal⟩
    | int i => exact .inl ⟨_, rfl, goal⟩
    | str x => exact .inl ⟨_, rfl, goal⟩
    | lst ha hn hr => exact .inl ⟨"list", by simp only [zTyV, n2.fh _ _ ha], goal⟩
    | tup ha hn hr => exact .inl ⟨"tuple", by simp only [zTyV, n2.fh _ _ ha], goal⟩
    | dct0 ha => exact .inr ⟨_, _, rfl, n2.fh _ _ ha, goal⟩
    | obj _ _ _ _ => cases no
    | scr _ => cases no
end
theorem cut_from {xs : List D} {k : Nat} (h : k ≤ xs.length) : cutL xs (some (k : Int)) none = xs.drop k := by
  unfold cutL
  rw [HT.sIx_nat, show HT.sIx xs.length xs.length none = xs.length from rfl, Nat.min_eq_left h]
  exact List.take_of_length_le (by rw [List.length_drop]; exact Nat.le_refl _)
/-! data without objects, of any length -/
mutual
def pureN : D → Bool
  | .obj _ _ _ => false
  | .scr _ _ => false
  | .lst xs => puresN xs
  | .tup xs => puresN xs
  | _ => true
def puresN : List D → Bool
  | [] => true
  | x :: xs => pureN x && puresN xs
end
theorem puresN_iff : ∀ {xs : List D}, puresN xs = true ↔ ∀ x ∈ xs, pureN x = true
  | [] => by simp [puresN]
  | x :: xs => by rw [puresN, Bool.and_eq_true, puresN_iff]; simp
structure Pv (d : D) : Prop where
  h : pureN d = true
theorem Pv.no {d : D} (h : Pv d) : noObj d = true := by
  have h := h.h
  cases d <;> first | rfl | (simp [pureN] at h; done)
theorem Pv.mem {xs : List D} (h : Pv (.lst xs)) {x : D} (hx : x ∈ xs) : Pv x := by
  have h := h.h
  rw [pureN, puresN_iff] at h
  exact ⟨h x hx⟩
theorem Pv.memT {xs : List D} (h : Pv (.tup xs)) {x : D} (hx : x ∈ xs) : Pv x := by
  have h := h.h
  rw [pureN, puresN_iff] at h
  exact ⟨h x hx⟩
theorem pv_lst {xs : List D} (h : ∀ x ∈ xs, Pv x) : Pv (.lst xs) := ⟨by rw [pureN, puresN_iff]; exact fun x hx => (h x hx).h⟩
theorem pv_p2 {x y : D} (h : Pv x) (k : Pv y) : Pv (.tup [x, y]) := ⟨by rw [pureN, puresN_iff]; simp; exact ⟨h.h, k.h⟩⟩
theorem pv_ways (ws : List (Int × Int)) : Pv (waysD ws) := pv_lst fun x hx => by
  obtain ⟨w, _, rfl⟩ := List.mem_map.mp hx
  exact pv_p2 ⟨by simp [pureN]⟩ ⟨by simp [pureN]⟩
theorem pv_planD (p : Pl) : Pv (planD p) := pv_p2 (pv_ways _) (pv_lst fun x hx => by
  obtain ⟨r, _, rfl⟩ := List.mem_map.mp hx
  exact pv_p2 (by cases r.1 <;> exact ⟨by simp [dpD, pureN]⟩) (pv_ways _))
def R_are_waysN (ds : List D) (d : D) : Prop := ∃ x a b, ds = [x, .int a, .int b] ∧ Pv x ∧ d = .bl (areWays x a b)
def R_is_rowN (ds : List D) (d : D) : Prop := ∃ x n a b, ds = [x, .int n, .int a, .int b] ∧ Pv x ∧ d = .bl (isRow x n a b)
def R_is_planN (ds : List D) (d : D) : Prop := ∃ x n, ds = [x, .int n] ∧ Pv x ∧ d = .bl (isPlan x n)
end Bp
namespace Bp
open PySem PySem.Spec PyProof.Rows L2
open Evl (Ex)
/-! ## the text of a plan -/
def numS (i : Int) : List Nat := TL.numL i.toNat
def wayS (w : Int × Int) : List Nat := 32 :: (numS w.1 ++ 58 :: numS w.2)
def waysS (ws : List (Int × Int)) : List Nat := (ws.map wayS).flatten
def wordS : Option Int → List Nat
  | none => lit "there"
  | some k => numS k
def rowS (r : Rw) : List Nat := wordS r.1 ++ waysS r.2
def planS (p : Pl) : List Nat := (lit "begin" ++ waysS p.1 ++ [10]) ++ (p.2.map fun r => rowS r ++ [10]).flatten
theorem num_len {i : Int} (h0 : 0 ≤ i) (h : i < 1000) : (numS i).length ≤ 3 := TL.numL_len (by decide) (by omega)
theorem num_len1 {i : Int} (h0 : 0 ≤ i) (h : i < 10) : (numS i).length ≤ 1 := TL.numL_len (by decide) (by omega)
theorem way_len {w : Int × Int} (h0 : 0 ≤ w.1) (h1 : w.1 < 10) (h2 : 0 ≤ w.2) (h3 : w.2 < 1000) : (wayS w).length ≤ 6 := by
  unfold wayS
  rw [List.length_cons, List.length_append, List.length_cons]
  have := num_len1 h0 h1
  have := num_len h2 h3
  omega
theorem flat_len {xs : List (List Nat)} {k : Nat} (h : ∀ x ∈ xs, x.length ≤ k) : xs.flatten.length ≤ k * xs.length := by
  induction xs with
  | nil => simp
  | cons x xs ih =>
    have h1 := h x List.mem_cons_self
    have h2 := ih fun y hy => h y (List.mem_cons_of_mem _ hy)
    rw [List.flatten_cons, List.length_append, List.length_cons, Nat.mul_succ]; omega
theorem goodWays_at {a b : Int} {ws : List (Int × Int)} (h : GoodWays a b ws) : ∀ w ∈ ws, 0 ≤ w.1 ∧ w.1 < 10 ∧ a ≤ w.2 ∧ w.2 < b := fun w hw => by
  have h1 := h.1.2 w.1 (List.mem_map.mpr ⟨w, hw, rfl⟩)
  have h2 := h.2 w hw
  exact ⟨h1.1, h1.2, h2.1, h2.2⟩
theorem ways_len {a b : Int} {ws : List (Int × Int)} (h : GoodWays a b ws) (ha : 0 ≤ a) (hb : b ≤ 1000) : (waysS ws).length ≤ 60 := by
  unfold waysS
  have h1 := flat_len (xs := ws.map wayS) (k := 6) fun x hx => by
    obtain ⟨w, hw, rfl⟩ := List.mem_map.mp hx
    have := goodWays_at h w hw
    exact way_len this.1 this.2.1 (by omega) (by omega)
  have := h.len
  rw [List.length_map] at h1
  omega
theorem joinL_nil : ∀ ys : List (List Nat), TL.joinL [] ys = ys.flatten
  | [] => rfl
  | [p] => by simp [TL.joinL]
  | p :: q :: r => by
    show p ++ ([] ++ TL.joinL [] (q :: r)) = _
    rw [List.nil_append, joinL_nil (q :: r)]; rfl
theorem joinL_sp : ∀ (p : List Nat) (ys : List (List Nat)), TL.joinL [32] (p :: ys) = p ++ (ys.map fun y => 32 :: y).flatten
  | p, [] => by simp [TL.joinL]
  | p, q :: r => by
    show p ++ ([32] ++ TL.joinL [32] (q :: r)) = _
    rw [joinL_sp q r]; rfl
theorem row_len {r : Rw} {n i b : Int} (h : GoodRow n i b r) (hi : 0 ≤ i) (hn : n ≤ 10) (hb : b ≤ 1000) : (rowS r).length ≤ 65 := by
  unfold rowS
  rw [List.length_append]
  obtain ⟨k, ws⟩ := r
  cases k with
  | none =>
    have e : ws = [] := h
    rw [e, show wordS none = [116, 104, 101, 114, 101] from by decide +kernel]
    show 5 + (waysS []).length ≤ 65
    rw [show waysS [] = [] from rfl]; decide
  | some k =>
    have := ways_len h.2.2 (by omega) hb
    have : (wordS (some k)).length ≤ 1 := num_len1 h.1 (by have := h.2.1; omega)
    show (wordS (some k)).length + (waysS ws).length ≤ 65
    omega
def R_wways (ds : List D) (d : D) : Prop := ∃ a b ws, ds = [waysD ws] ∧ GoodWays a b ws ∧ 0 ≤ a ∧ b ≤ 1000 ∧ d = sD (waysS ws)
def R_wrow (ds : List D) (d : D) : Prop := ∃ n i b r, ds = [dpD r.1, waysD r.2] ∧ GoodRow n i b r ∧ 0 ≤ i ∧ n ≤ 10 ∧ b ≤ 1000 ∧ d = sD (rowS r)
def R_written (ds : List D) (d : D) : Prop := ∃ p, ds = [planD p] ∧ GoodPlan 5 p ∧ d = sD (planS p)
section
variable {K : PySem.W.Frag} {σ : L2.St} {F H : Hp} {te ta tb : TE} {a b : List Nat} {i j : Nat}
theorem fmt_i {k : Int} {v : V} (hi : σ[i]? = some (some v)) (r : v = .int k) (h0 : 0 ≤ k) (h1 : k < 100000) {Q : VK} {H1 : Hp} (q : Q (.str (SX.S (numS k))) H1) : tFmt (tVar i) σ H1 Q := by
  subst r
  obtain ⟨n, rfl⟩ : ∃ n : Nat, k = (n : Int) := ⟨k.toNat, by omega⟩
  refine ⟨.int (n : Int), hi, .inr ⟨(n : Int), rfl, ?_, ?_⟩⟩
  · rw [Int.natAbs_natCast]
    by_cases h0 : n = 0
    · subst h0; decide
    · exact Nat.lt_trans ((Nat.log2_lt h0).mpr (by omega : n < 2 ^ 17)) (by decide)
  · have es : (toString (n : Int) : Str) = SX.S (numS (n : Int)) := SX.num_S n
    rw [es]; exact q
/-- f' {x}:{y}' -/
theorem ed_wayF {x y : Int} {v u : V} (hi : σ[i]? = some (some v)) (hj : σ[j]? = some (some u)) (rv : v = .int x) (ru : u = .int y) (hx : 0 ≤ x) (hx2 : x < 10) (hy : 0 ≤ y) (hy2 : y < 1000) :
    ED (fun σ H Q => tJs [tC (.str " "), tFmt (tVar i), tC (.str ":"), tFmt (tVar j)] Str.empty σ H fun out H1 => Q (.str out) H1) σ F (sD (wayS (x, y))) := fun F1 H1 e1 e2 Q q => by
  have l1 := num_len1 hx hx2
  have l2 := num_len hy hy2
  have s1 : Str.empty ++ (" " : Str) = SX.S [32] := by rw [show Str.empty = SX.S [] from rfl, show ((" " : Str)) = SX.S [32] from by decide +kernel, SX.S_cat]; rfl
  have s3 : ((":" : Str)) = SX.S [58] := by decide +kernel
  refine ⟨" ", rfl, Evl.sz_of (by rw [s1, SX.S_len]; decide), ?_⟩
  rw [s1]
  refine fmt_i hi rv hx (by omega) ⟨SX.S (numS x), rfl, Evl.sz_of (by rw [SX.S_cat, SX.S_len, List.length_append]; show 1 + _ ≤ _; omega), ?_⟩
  rw [SX.S_cat]
  refine ⟨":", rfl, Evl.sz_of (by rw [s3, SX.S_cat, SX.S_len, List.length_append, List.length_append]; show 1 + _ + 1 ≤ _; omega), ?_⟩
  rw [s3, SX.S_cat]
  refine fmt_i hj ru hy (by omega) ⟨SX.S (numS y), rfl, Evl.sz_of (by rw [SX.S_cat, SX.S_len, List.length_append, List.length_append, List.length_append]; show 1 + _ + 1 + _ ≤ _; omega), ?_⟩
  rw [SX.S_cat]
  show Q (.str (SX.S _)) H1
  have e : [32] ++ numS x ++ [58] ++ numS y = wayS (x, y) := by unfold wayS; simp
  rw [e]
  exact q _ F1 H1 (Nx.refl e2) (.str _)
theorem rl_strT {k : Int} (h0 : 0 ≤ k) (h : k < 100000) : RL rStrI F [.int k] (sD (numS k)) := by
  obtain ⟨n, rfl⟩ : ∃ n : Nat, k = (n : Int) := ⟨k.toNat, by omega⟩
  exact rl_strI (by omega)
end
end Bp
namespace Bp
open PySem PySem.Spec PyProof.Rows L2
open Evl (Ex)
/-- a plan's rows as word and ways, the first one begins -/
def itemsS (p : Pl) : List (List Nat × List (Int × Int)) := (lit "begin", p.1) :: p.2.map fun r => (wordS r.1, r.2)
def lineS (x : List Nat × List (Int × Int)) : List Nat := x.1 ++ waysS x.2 ++ [10]
theorem planS_items (p : Pl) : planS p = ((itemsS p).map lineS).flatten := by
  unfold itemsS planS
  rw [List.map_cons, List.flatten_cons, List.map_map]; rfl
theorem item_ok {p : Pl} (gp : GoodPlan 5 p) : ∀ x ∈ itemsS p, x.1.length ≤ 5 ∧ ∃ a b, GoodWays a b x.2 ∧ 0 ≤ a ∧ b ≤ 1000 := fun x hx => by
  have l3 := gp.l
  rcases List.mem_cons.mp hx with z | z
  · rw [z]; exact ⟨by show (lit "begin").length ≤ 5; decide +kernel, _, _, gp.w, Int.le_refl _, by omega⟩
  · obtain ⟨r, hr, rfl⟩ := List.mem_map.mp z
    obtain ⟨i, hi⟩ := List.mem_iff_getElem?.mp hr
    have g := gp.r i r hi
    obtain ⟨k, ws⟩ := r
    cases k with
    | none =>
      have e : ws = [] := g
      subst e
      exact ⟨by decide +kernel, 0, 0, ⟨⟨List.Pairwise.nil, fun x hx => by cases hx⟩, fun w hw => by cases hw⟩, Int.le_refl _, by decide⟩
    | some k => exact ⟨by have := num_len1 g.1 (show k < 10 by have := g.2.1; omega); show (numS k).length ≤ 5; omega, _, _, g.2.2, by omega, by omega⟩
theorem line_len {p : Pl} (gp : GoodPlan 5 p) : ∀ x ∈ itemsS p, (lineS x).length ≤ 66 := fun x hx => by
  obtain ⟨h1, a, b, h2, h3, h4⟩ := item_ok gp x hx
  have := ways_len h2 h3 h4
  unfold lineS
  rw [List.length_append, List.length_append, List.length_singleton]; omega
def R_lshown (ds : List D) (d : D) : Prop := ∃ p, ds = [planD p] ∧ GoodPlan 5 p ∧ d = sD (planS p)
end Bp
namespace Bp
open PySem PySem.Spec PyProof.Rows L2
open Evl (Ex)
/-! ## the law's own reading of a text -/
def okT (l : List Nat) : Prop := ∀ c ∈ l, c < 128
def lnum (l : List Nat) : Int := match numV l with | some n => n | none => -1
theorem num_pos {l : List Nat} {n : Int} (h : numV l = some n) : 0 ≤ n := by
  unfold numV at h
  split at h
  · cases h; exact Int.natCast_nonneg _
  · cases h
theorem lnum_neg {l : List Nat} : lnum l = -1 ↔ numV l = none := by
  unfold lnum
  cases h : numV l with
  | none => simp
  | some n => have := num_pos h; simp; omega
theorem lnum_some {l : List Nat} {n : Int} (h : numV l = some n) : lnum l = n := by unfold lnum; rw [h]
theorem num_bad {l : List Nat} {c : Nat} (hc : c ∈ l) (hd : isDig c = false) : numV l = none := by
  unfold numV
  rw [if_neg]
  intro z
  unfold numOk at z
  rw [Bool.and_eq_true] at z
  have := List.all_eq_true.mp z.2 c hc
  rw [hd] at this; cases this
def wayL (w : List Nat) : Option (Int × Int) := match cutC 58 w with
  | [a, b] => if lnum a = -1 ∨ lnum b = -1 then none else some (lnum a, lnum b)
  | _ => none
theorem wayL_eq (w : List Nat) : wayL w = wayV w := by
  unfold wayL wayV
  by_cases h : 58 ∈ w
  · obtain ⟨p, q, rfl, hp⟩ := firstC h
    rw [cut_app hp, par_app hp]
    show _ = (numV p).bind fun a => (numV q).map fun b => (a, b)
    by_cases h2 : 58 ∈ q
    · rw [num_bad (l := q) h2 (by decide)]
      obtain ⟨p2, q2, rfl, hp2⟩ := firstC h2
      rw [cut_app hp2, cut_cons 58 q2]
      cases numV p <;> rfl
    · rw [cut_none h2]
      show (if lnum p = -1 ∨ lnum q = -1 then none else some (lnum p, lnum q)) = _
      cases e1 : numV p with
      | none => rw [if_pos (.inl (lnum_neg.mpr e1))]; rfl
      | some a =>
        cases e2 : numV q with
        | none => rw [if_pos (.inr (lnum_neg.mpr e2))]; rfl
        | some b =>
          rw [lnum_some e1, lnum_some e2, if_neg (by have := num_pos e1; have := num_pos e2; omega)]; rfl
  · rw [cut_none h, par_no h]
    show none = (numV w).bind fun a => (numV []).map fun b => (a, b)
    rw [show numV [] = none from rfl]
    cases numV w <;> rfl
def rowL (l : List Nat) : Option Rw := if l = lit "there" then some (none, []) else (numV (hdC 32 l)).bind fun k => (waysV (tlC 32 l)).map fun x => (some k, x)
theorem litT : lit "there" = [116, 104, 101, 114, 101] := by decide +kernel
theorem litB : lit "begin" = [98, 101, 103, 105, 110] := by decide +kernel
theorem num_there : numV (lit "there") = none := by rw [litT]; decide
theorem cut_one {c : Nat} {l : List Nat} (h : tlC c l = []) : hdC c l = l ∧ c ∉ l := by
  by_cases hc : c ∈ l
  · exfalso
    obtain ⟨p, q, rfl, hp⟩ := firstC hc
    unfold tlC at h
    rw [cut_app hp, cut_cons c q] at h
    cases h
  · unfold hdC
    rw [cut_none hc]; exact ⟨rfl, hc⟩
theorem cut_hd {c : Nat} {p : List Nat} (hp : c ∉ p) : hdC c p = p ∧ tlC c p = [] := by unfold hdC tlC; rw [cut_none hp]; exact ⟨rfl, rfl⟩
theorem waysV_nil {ws : List (List Nat)} (h : waysV ws = some []) : ws = [] := by
  cases ws with
  | nil => rfl
  | cons w ws =>
    unfold waysV at h
    rw [List.mapM_cons] at h
    cases e : wayV w with
    | none => rw [e] at h; cases h
    | some a =>
      rw [e] at h
      cases e2 : ws.mapM wayV with
      | none => rw [e2] at h; cases h
      | some b => rw [e2] at h; cases h
/-- a row that the law reads is read so by the program -/
theorem rowL_V {l : List Nat} {r : Rw} (h : rowL l = some r) : rowV l = some r := by
  unfold rowL at h
  unfold rowV
  by_cases e : l = lit "there"
  · rw [if_pos e] at h
    cases h
    have hc : (32 : Nat) ∉ l := by rw [e, litT]; decide
    have ⟨c1, c2⟩ := cut_hd hc
    rw [c1, c2, if_pos e]; rfl
  · rw [if_neg e] at h
    have ne : hdC 32 l ≠ lit "there" := fun z => by rw [z, num_there] at h; cases h
    rw [if_neg ne]
    cases e1 : numV (hdC 32 l) with
    | none => rw [e1] at h; cases h
    | some k =>
      rw [e1] at h
      exact h
theorem rowV_L {l : List Nat} {r : Rw} (h : rowV l = some r) (hr : r.1 = none → r.2 = []) : rowL l = some r := by
  unfold rowV at h
  unfold rowL
  by_cases e : hdC 32 l = lit "there"
  · rw [if_pos e] at h
    have h : (waysV (tlC 32 l)).map (fun x => ((none : Option Int), x)) = some r := h
    rw [Option.map_eq_some_iff] at h
    obtain ⟨x, hx, rfl⟩ := h
    have hx0 : x = [] := hr rfl
    subst hx0
    have ⟨c1, _⟩ := cut_one (waysV_nil hx)
    rw [if_pos (c1 ▸ e)]
  · rw [if_neg e] at h
    have ne : l ≠ lit "there" := fun z => e (by
      have hc : (32 : Nat) ∉ l := by rw [z, litT]; decide
      rw [(cut_hd hc).1]; exact z)
    rw [if_neg ne]
    cases e1 : numV (hdC 32 l) with
    | none => rw [e1] at h; cases h
    | some k => rw [e1] at h; exact h
theorem mapM_mem {α β : Type} {f : α → Option β} : ∀ {xs : List α} {ys : List β}, xs.mapM f = some ys → ys.length = xs.length ∧ ∀ (i : Nat) (x : α), xs[i]? = some x → ∃ y, ys[i]? = some y ∧ f x = some y
  | [], ys, h => by simp at h; subst h; exact ⟨rfl, fun i x z => by simp at z⟩
  | x :: xs, ys, h => by
    rw [List.mapM_cons] at h
    cases e : f x with
    | none => rw [e] at h; cases h
    | some y =>
      rw [e] at h
      cases e2 : xs.mapM f with
      | none => rw [e2] at h; cases h
      | some zs =>
        rw [e2] at h
        cases h
        obtain ⟨h1, h2⟩ := mapM_mem e2
        refine ⟨by rw [List.length_cons, List.length_cons, h1], fun i x' hx => ?_⟩
        cases i with
        | zero => cases hx; exact ⟨y, rfl, e⟩
        | succ i => exact h2 i x' hx
theorem mapM_all {α β : Type} {f : α → Option β} : ∀ {xs : List α}, (∀ x ∈ xs, f x ≠ none) → ∃ ys, xs.mapM f = some ys
  | [], _ => ⟨[], rfl⟩
  | x :: xs, h => by
    obtain ⟨ys, hy⟩ := mapM_all (f := f) (xs := xs) fun y hy => h y (List.mem_cons_of_mem _ hy)
    cases e : f x with
    | none => exact absurd e (h x List.mem_cons_self)
    | some y => exact ⟨y :: ys, by rw [List.mapM_cons, e, hy]; rfl⟩
theorem mapM_of {α β : Type} {f : α → Option β} {xs : List α} {ys : List β} (h1 : ys.length = xs.length) (h2 : ∀ (i : Nat) (x : α), xs[i]? = some x → ∃ y, ys[i]? = some y ∧ f x = some y) : xs.mapM f = some ys := by
  induction xs generalizing ys with
  | nil => rw [List.length_eq_zero_iff.mp h1]; rfl
  | cons x xs ih =>
    cases ys with
    | nil => simp at h1
    | cons y ys =>
      obtain ⟨y', e1, e2⟩ := h2 0 x rfl
      cases e1
      rw [List.mapM_cons, e2, ih (ys := ys) (by simpa using h1) fun i x' hx => h2 (i + 1) x' hx]; rfl
/-- rows read either way make the same plans -/
theorem rows_same {ls : List (List Nat)} {ws : List (Int × Int)} : ((ls.mapM rowV).bind fun rows => if isPlan (planD (ws, rows)) 5 = true then some (ws, rows) else none) = ((ls.mapM rowL).bind fun rows => if isPlan (planD (ws, rows)) 5 = true then some (ws, rows) else none) := by
  cases e : ls.mapM rowL with
  | some rows =>
    obtain ⟨h1, h2⟩ := mapM_mem e
    rw [mapM_of (f := rowV) h1 fun i x hx => by
      obtain ⟨y, hy, hf⟩ := h2 i x hx
      exact ⟨y, hy, rowL_V hf⟩]
  | none =>
    cases e2 : ls.mapM rowV with
    | none => rfl
    | some rows =>
      obtain ⟨h1, h2⟩ := mapM_mem e2
      show (if isPlan (planD (ws, rows)) 5 = true then some (ws, rows) else none) = none
      refine if_neg fun z => ?_
      have gp := isPlan_of.mp z
      have : ls.mapM rowL = some rows := mapM_of h1 fun i x hx => by
        obtain ⟨y, hy, hf⟩ := h2 i x hx
        refine ⟨y, hy, rowV_L hf fun hn => ?_⟩
        have g := gp.r i y hy
        obtain ⟨k, zs⟩ := y
        have hn : k = none := hn
        subst hn
        exact g
      rw [e] at this; cases this
/-- how a text begins -/
theorem begin_iff {l : List Nat} : hdC 32 l = lit "begin" ↔ l = lit "begin" ∨ l.take 6 = lit "begin" ++ [32] := by
  have hb : (32 : Nat) ∉ lit "begin" := by rw [litB]; decide
  have lb : (lit "begin").length = 5 := by rw [litB]; rfl
  constructor
  · intro h
    by_cases hc : 32 ∈ l
    · obtain ⟨p, q, rfl, hp⟩ := firstC hc
      unfold hdC at h
      rw [cut_app hp] at h
      have h : p = lit "begin" := h
      rw [h]
      exact .inr (by rw [List.take_append, lb, List.take_of_length_le (by omega)]; rfl)
    · exact .inl ((cut_hd hc).1 ▸ h)
  · rintro (h | h)
    · rw [h]; exact (cut_hd hb).1
    · have e : l = lit "begin" ++ 32 :: l.drop 6 := by
        have := List.take_append_drop 6 l
        rw [h] at this
        simpa using this.symm
      rw [e]
      unfold hdC
      rw [cut_app hb]; rfl
def optW : Option (List (Int × Int)) → D | none => .non | some ws => waysD ws
def optR : Option Rw → D | none => .non | some r => rowD r
def optP : Option Pl → D | none => .non | some p => planD p
def R_lnum (ds : List D) (d : D) : Prop := ∃ l, ds = [sD l] ∧ l.length ≤ 15000 ∧ okT l ∧ d = .int (lnum l)
def R_lwayso (ds : List D) (d : D) : Prop := ∃ ws, ds = [.lst (ws.map sD)] ∧ ws.length ≤ 15001 ∧ (∀ w ∈ ws, w.length ≤ 15000 ∧ okT w) ∧ d = optW (waysV ws)
def R_lrowo (ds : List D) (d : D) : Prop := ∃ l, ds = [sD l] ∧ l.length ≤ 15000 ∧ okT l ∧ d = optR (rowL l)
def R_lgood (ds : List D) (d : D) : Prop := ∃ ws a b, ds = [waysD ws, .int a, .int b] ∧ (∀ w ∈ ws, 0 ≤ w.1) ∧ ws.length ≤ 15001 ∧ 0 ≤ a ∧ d = .bl (areWays (waysD ws) a b)
def R_lplan (ds : List D) (d : D) : Prop := ∃ t, ds = [sD t] ∧ t.length ≤ 15000 ∧ okT t ∧ d = optP (readV t)
theorem okT_cut {c : Nat} {l : List Nat} (h : okT l) : ∀ p ∈ cutC c l, okT p := by
  revert h
  refine cut_ind (c := c) (P := fun l => okT l → ∀ p ∈ cutC c l, okT p) (fun p hp h => ?_) (fun p q hp ih h => ?_) l
  · rw [cut_none hp]; intro x hx; rw [List.mem_singleton.mp hx]; exact h
  · rw [cut_app hp]; intro x hx
    rcases List.mem_cons.mp hx with z | z
    · rw [z]; exact fun c' hc => h c' (List.mem_append_left _ hc)
    · exact ih (fun c' hc => h c' (List.mem_append_right _ (List.mem_cons_of_mem _ hc))) x z
theorem lay_chr (c : Nat) : Lay (sD [if c < 128 then c else 0]) 0 := by
  refine ⟨?_, ?_⟩
  · show PySem.PyData.strOk (SX.S [if c < 128 then c else 0]) = true
    unfold PySem.PyData.strOk
    simp [SX.S]
    split <;> omega
  · show PyData.depth (.str _) ≤ 0; simp [PyData.depth]
theorem okE_strs {xs : List Nat} (h : okT xs) : okE (.lst (xs.map fun c => sD [c])) = true := by
  have e : (xs.map fun c => sD [c]) = xs.map fun c => sD [if c < 128 then c else 0] := List.map_congr_left fun c hc => by rw [if_pos (h c hc)]
  rw [e]
  exact (lay_lst xs lay_chr).ok
end Bp
namespace Bp
open PySem PySem.Spec PyProof.Rows L2
open Evl (Ex)
theorem eqD_empty {xs : List D} : eqD (.lst xs) (.lst []) = decide (xs = []) := by
  cases xs with
  | nil => rw [decide_eq_true rfl]; exact eqD_li [] []
  | cons x xs =>
    rw [decide_eq_false (by simp)]
    show PyData.eqv (.list (toPys (x :: xs))) (.list (toPys [])) = false
    simp [toPys, PyData.eqv, PyData.eqvAll]
theorem rise_pairs {xs : List Int} (h : ∀ k (h : k + 1 < xs.length), xs[k] < xs[k + 1]) : xs.Pairwise (· < ·) := by
  rw [List.pairwise_iff_getElem]
  intro i j hi hj hij
  obtain ⟨d, rfl⟩ : ∃ d, j = i + 1 + d := ⟨j - (i + 1), by omega⟩
  induction d with
  | zero => exact h i hj
  | succ d ih =>
    have h1 := ih (by omega) (by omega)
    have h2 := h (i + 1 + d) (by omega)
    exact Int.lt_trans h1 h2
/-- what the law asks of the k-th way -/
def wayOk (ws : List (Int × Int)) (a b : Int) (k : Nat) : Prop := ∀ (h : k < ws.length), ws[k].1 ≤ 9 ∧ a ≤ ws[k].2 ∧ ws[k].2 < b ∧ (0 < k → ∀ h2 : k - 1 < ws.length, ws[k - 1].1 < ws[k].1)
theorem ways_iff {ws : List (Int × Int)} {a b : Int} (h0 : ∀ w ∈ ws, 0 ≤ w.1) : GoodWays a b ws ↔ ∀ k, wayOk ws a b k := by
  constructor
  · intro h k hk
    have g := goodWays_at h ws[k] (List.getElem_mem hk)
    refine ⟨by omega, g.2.2.1, g.2.2.2, fun k0 h2 => ?_⟩
    have p := List.pairwise_iff_getElem.mp h.1.1 (k - 1) k (by rw [List.length_map]; exact h2) (by rw [List.length_map]; exact hk) (by omega)
    rwa [List.getElem_map, List.getElem_map] at p
  · intro h
    refine ⟨⟨rise_pairs fun k hk => ?_, fun x hx => ?_⟩, fun w hw => ?_⟩
    · rw [List.length_map] at hk
      have := (h (k + 1) hk).2.2.2 (by omega) (by show k < ws.length; omega)
      rw [List.getElem_map, List.getElem_map]
      exact this
    · obtain ⟨w, hw, rfl⟩ := List.mem_map.mp hx
      obtain ⟨k, hk, e⟩ := List.getElem_of_mem hw
      have := h k hk
      rw [e] at this
      exact ⟨h0 w hw, by omega⟩
    · obtain ⟨k, hk, e⟩ := List.getElem_of_mem hw
      have := h k hk
      rw [e] at this
      exact ⟨this.2.1, this.2.2.1⟩
theorem waysV_at {ws : List (List Nat)} {zs : List (Int × Int)} (h : waysV ws = some zs) : zs.length = ws.length ∧ ∀ w ∈ zs, 0 ≤ w.1 := by
  obtain ⟨h1, h2⟩ := mapM_mem h
  refine ⟨h1, fun w hw => ?_⟩
  obtain ⟨i, hi⟩ := List.mem_iff_getElem?.mp hw
  have hlt : i < ws.length := by rw [← h1]; exact (List.getElem?_eq_some_iff.mp hi).1
  obtain ⟨y, hy, hf⟩ := h2 i _ (List.getElem?_eq_getElem hlt)
  rw [hi] at hy
  cases hy
  unfold wayV at hf
  rw [Option.bind_eq_some_iff] at hf
  obtain ⟨a, ha, hf⟩ := hf
  rw [Option.map_eq_some_iff] at hf
  obtain ⟨b, _, rfl⟩ := hf
  exact num_pos ha
/-- the text that the law reads -/
theorem readV_L (t : List Nat) : readV t = if laC 10 t = [] then match frC 10 t with | [] => none | l0 :: ls => if hdC 32 l0 = lit "begin" then (waysV (tlC 32 l0)).bind fun ws => (ls.mapM rowL).bind fun rows => if isPlan (planD (ws, rows)) 5 = true then some (ws, rows) else none else none else none := by
  unfold readV
  split
  · cases frC 10 t with
    | nil => rfl
    | cons l0 ls =>
      show (beginV l0).bind _ = _
      unfold beginV
      dsimp only
      split
      · cases waysV (tlC 32 l0) with
        | none => rfl
        | some ws => exact rows_same
      · rfl
  · rfl
theorem okE_optR (o : Option Rw) : Lay (optR o) 4 := by
  have hw : ∀ ws : List (Int × Int), Lay (waysD ws) 2 := fun ws => lay_lst (n := 1) ws fun w => ⟨rfl, by show PyData.depth (.tuple [.int w.1, .int w.2]) ≤ 1; simp [PyData.depth, PyData.depthAll]⟩
  cases o with
  | none => exact ⟨rfl, by show PyData.depth .none ≤ 4; simp [PyData.depth]⟩
  | some r =>
    obtain ⟨k, ws⟩ := r
    have h := hw ws
    have hd : Lay (dpD k) 0 := by cases k with | none => exact ⟨rfl, by show PyData.depth .none ≤ 0; simp [PyData.depth]⟩ | some k => exact lay_int k
    refine ⟨?_, ?_⟩
    · show PyData.canLay0 (.tuple [(dpD k).toPy, (waysD ws).toPy]) = true
      simp only [PyData.canLay0, PyData.canLayAll0, h.l, hd.l, Bool.and_self]
    · have h1 := h.d
      have h2 := hd.d
      show PyData.depth (.tuple [(dpD k).toPy, (waysD ws).toPy]) ≤ 4
      simp only [PyData.depth, PyData.depthAll]
      omega
section
variable {K : PySem.W.Frag} {F : Hp}
/-- None in a list of rows and None -/
theorem rd_inNone {xs : List (Option Rw)} : RD (rInD K) F .non (.lst (xs.map optR)) (.bl (decide (none ∈ xs))) := fun F1 H1 v u _ e2 rv ru Q k => by
  have h2 := (lay_lst xs okE_optR).ok
  refine ⟨D.non.toPy, toPys (xs.map optR), dp_of e2 _ v rfl rv, dp_of e2 (.lst (xs.map optR)) u (SeqAt.canLay_of_shaped h2) ru, rfl, h2, ?_⟩
  have e : ∀ xs : List (Option Rw), (toPys (xs.map optR)).any (fun z => PyData.eqv z D.non.toPy) = decide (none ∈ xs) := fun xs => by
    induction xs with
    | nil => simp [toPys]
    | cons x xs ih =>
      show (PyData.eqv (optR x).toPy D.non.toPy || (toPys (xs.map optR)).any fun z => PyData.eqv z D.non.toPy) = _
      rw [ih]
      cases x with
      | none => simp [optR, D.toPy, PyData.eqv]
      | some r => simp [optR, rowD, D.toPy, PyData.eqv]
  rw [e]
  exact k _ F1 H1 (Nx.refl e2) (.bl _)
end
end Bp
namespace Bp
open PySem PySem.Spec PyProof.Rows L2
open Evl (Ex)
section
variable {K : PySem.W.Frag} {σ : L2.St} {F H : Hp} {te : TE} {a : List Nat} {tl th : TO} {lo hi : Option Int}
def cutN (a : List Nat) (lo hi : Option Int) : List Nat := (a.drop (HT.sIx a.length 0 lo)).take (HT.sIx a.length a.length hi - HT.sIx a.length 0 lo)
theorem ed_cutT (h : ED te σ F (sD a)) (h1 : EO tl σ F lo) (h2 : EO th σ F hi) (hz : a.length ≤ 100000) : ED (tSl rSlS te tl th) σ F (sD (cutN a lo hi)) := fun F1 H1 e1 e2 Q q =>
  h F1 H1 e1 e2 _ fun v F2 H2 n2 r2 => h1 F2 H2 (e1.trans n2.f) n2.fh _ fun F3 H3 n3 => h2 F3 H3 ((e1.trans n2.f).trans n3.f) n3.fh _ fun F4 H4 n4 => by
    refine ⟨SX.S a, r2.estr, Evl.sz_of (by rw [SX.S_len]; exact hz), ?_⟩
    have e : cutS (SX.S a) lo hi = SX.S (cutN a lo hi) := by
      unfold cutS cutN
      rw [SX.S_len]
    rw [e]
    exact q _ F4 H4 ((n2.trans n3).trans n4) (.str _)
end
theorem cutN_take (a : List Nat) (k : Nat) : cutN a none (some (k : Int)) = a.take k := by
  unfold cutN
  rw [show HT.sIx a.length 0 none = 0 from rfl, HT.sIx_nat, List.drop_zero, Nat.sub_zero]
  by_cases h : k ≤ a.length
  · rw [Nat.min_eq_left h]
  · rw [Nat.min_eq_right (by omega), List.take_of_length_le (Nat.le_refl _), List.take_of_length_le (by omega)]
theorem cutN_len (a : List Nat) (lo hi : Option Int) : (cutN a lo hi).length ≤ a.length := by
  unfold cutN
  rw [List.length_take, List.length_drop]; omega
theorem cutN_ok {a : List Nat} (h : okT a) (lo hi : Option Int) : okT (cutN a lo hi) := fun c hc => h c (List.mem_of_mem_drop (List.mem_of_mem_take hc))
theorem rowL_at {l : List Nat} {r : Rw} (h : rowL l = some r) : (r.1 = none → r.2 = []) ∧ (∀ k, r.1 = some k → 0 ≤ k) ∧ (∀ w ∈ r.2, 0 ≤ w.1) ∧ r.2.length ≤ l.length + 1 := by
  unfold rowL at h
  split at h
  · cases h
    exact ⟨fun _ => rfl, fun k z => (nomatch z), fun w hw => (nomatch hw), Nat.zero_le _⟩
  · rw [Option.bind_eq_some_iff] at h
    obtain ⟨k, hk, h⟩ := h
    rw [Option.map_eq_some_iff] at h
    obtain ⟨x, hx, rfl⟩ := h
    have ⟨h1, h2⟩ := waysV_at hx
    have cl := cut_len (c := 32) l
    rw [cut_cons 32 l, List.length_cons] at cl
    exact ⟨fun z => (by cases z), fun k' z => (by cases z; exact num_pos hk), h2, by show x.length ≤ _; omega⟩
theorem fr_cases (t : List Nat) : (frC 10 t = [] ∧ hdC 10 t = laC 10 t) ∨ ∃ l0 ls, frC 10 t = l0 :: ls ∧ hdC 10 t = l0 := by
  have h := (cut_cons 10 t).symm.trans (cut_snoc 10 t)
  cases e : frC 10 t with
  | nil => rw [e] at h; exact .inl ⟨rfl, (List.cons.inj h).1⟩
  | cons l0 ls => rw [e] at h; exact .inr ⟨l0, ls, rfl, (List.cons.inj h).1⟩
theorem mid_cut {x z : D} {ys : List D} : cutL (x :: ys ++ [z]) (some 1) (some (-1)) = ys := by
  unfold cutL
  have n : (x :: ys ++ [z]).length = ys.length + 2 := by simp
  have h1 : HT.sIx (x :: ys ++ [z]).length 0 (some 1) = 1 := by
    rw [show (some (1 : Int)) = some ((1 : Nat) : Int) from rfl, HT.sIx_nat, n]; omega
  have h2 : HT.sIx (x :: ys ++ [z]).length (x :: ys ++ [z]).length (some (-1)) = ys.length + 1 := by
    show (if (-1 : Int) < 0 then ((-1 : Int) + ((x :: ys ++ [z]).length : Int)).toNat else min (-1 : Int).toNat (x :: ys ++ [z]).length) = _
    rw [if_pos (show (-1 : Int) < 0 by decide), n]; omega
  rw [h1, h2]
  show ((ys ++ [z]).take (ys.length + 1 - 1)) = ys
  simp
end Bp
namespace Bp
open PySem PySem.Spec PyProof.Rows L2
open Evl (Ex)
/-! ## a text taken so often -/
def mulS (z : Str) (k : Int) : Str := if k < 1 then Str.empty else if (k == 1 || z.length == 0) = true then z else ⟨(List.replicate k.toNat z.cps).foldl (· ++ ·) #[]⟩
def rMulT : R2 := fun x y H Q => ∃ (z : Str) (k : Int), x = .str z ∧ y = .int k ∧ -1000 ≤ k ∧ k ≤ 1000 ∧ z.length ≤ 1000 ∧ Q (.str (mulS z k)) H
theorem foldl_cps : ∀ (n : Nat) (a b : Array Nat), ((List.replicate n a).foldl (· ++ ·) b).toList = b.toList ++ (List.replicate n a.toList).flatten
  | 0, a, b => by simp
  | n + 1, a, b => by
    rw [List.replicate_succ, List.foldl_cons, foldl_cps n a (b ++ a), List.replicate_succ, List.flatten_cons, Array.toList_append, List.append_assoc]
theorem foldl_size (z : Str) (n : Nat) : (⟨(List.replicate n z.cps).foldl (· ++ ·) #[]⟩ : Str).length ≤ z.length * n := by
  show ((List.replicate n z.cps).foldl (· ++ ·) #[]).size ≤ z.cps.size * n
  rw [← Array.length_toList, foldl_cps]
  have := flat_len (xs := List.replicate n z.cps.toList) (k := z.cps.size) fun x hx => by rw [(List.mem_replicate.mp hx).2]; simp
  rw [List.length_replicate] at this
  simpa using this
theorem mulT_op {X : Cx} : OpR X (binaryOp .Mult) rMulT := by
  intro pins s σ H x y v u Q I rx ry h
  obtain ⟨z, k, rfl, rfl, h0, h1, hz, q⟩ := h
  obtain ⟨t, rfl⟩ := rx
  obtain ⟨t', rfl⟩ := ry
  have big : z.length * k.toNat ≤ 1000 * 1000 := Nat.mul_le_mul hz (by omega)
  have hs : sizeLine = 16777216 := sizeLine_eq
  refine P.mul_str ?_ (fun c1 c2 => ?_) (fun c1 c2 => ?_) ?_
  · rw [Bool.or_eq_false_iff]; exact ⟨decide_eq_false (by omega), decide_eq_false (by omega)⟩
  · have k0 : 0 < k := by omega
    have : (1000000 : Int) ≤ (2 ^ 63 - 1) / k := by
      rw [Int.le_ediv_iff_mul_le k0]; omega
    omega
  · show Builtin.Str.tooLong (z.length * k.toNat) = false
    have hs : sizeLine = 16777216 := sizeLine_eq
    unfold Builtin.Str.tooLong
    simp
    omega
  · unfold mulS at q
    by_cases c1 : k < 1
    · rw [if_pos c1] at q ⊢
      exact ⟨Nat.zero_le _, .str Str.empty, H, I.tok _, ⟨_, rfl⟩, q⟩
    · rw [if_neg c1] at q ⊢
      by_cases c2 : (k == 1 || z.length == 0) = true
      · rw [if_pos c2] at q ⊢
        exact ⟨.str z, H, I, ⟨_, rfl⟩, q⟩
      · rw [if_neg c2] at q ⊢
        exact ⟨Nat.le_trans (foldl_size z k.toNat) (by omega), .str _, H, I.tok _, ⟨_, rfl⟩, q⟩
theorem mulS_S (a : List Nat) (k : Int) : ∃ l, mulS (SX.S a) k = SX.S l ∧ l.length ≤ a.length * k.toNat ∧ (okT a → okT l) := by
  unfold mulS
  by_cases c1 : k < 1
  · rw [if_pos c1]; exact ⟨[], rfl, Nat.zero_le _, fun _ c hc => (nomatch hc)⟩
  · rw [if_neg c1]
    by_cases c2 : (k == 1 || (SX.S a).length == 0) = true
    · rw [if_pos c2]
      exact ⟨a, rfl, Nat.le_mul_of_pos_right _ (by omega), fun h => h⟩
    · rw [if_neg c2]
      refine ⟨(List.replicate k.toNat a).flatten, TL.ext_tl ?_, ?_, fun h c hc => ?_⟩
      · show ((List.replicate k.toNat (SX.S a).cps).foldl (· ++ ·) #[]).toList = _
        rw [foldl_cps]
        show [] ++ (List.replicate k.toNat a).flatten = (List.replicate k.toNat a).flatten
        rw [List.nil_append]
      · have := flat_len (xs := List.replicate k.toNat a) (k := a.length) fun x hx => by rw [(List.mem_replicate.mp hx).2]; exact Nat.le_refl _
        rw [List.length_replicate] at this; exact this
      · obtain ⟨x, hx, hc⟩ := List.mem_flatten.mp hc
        rw [(List.mem_replicate.mp hx).2] at hc
        exact h c hc
/-! ## cut and joined -/
theorem cut_sum {c : Nat} : ∀ l, ((cutC c l).map List.length).sum + (cutC c l).length = l.length + 1 := cut_ind (fun p hp => by rw [cut_none hp]; simp) fun p q hp h => by
  rw [cut_app hp, List.map_cons, List.sum_cons, List.length_cons, List.length_append, List.length_cons]; omega
theorem joinL_len {c : Nat} : ∀ ys : List (List Nat), (TL.joinL [c] ys).length ≤ (ys.map List.length).sum + ys.length
  | [] => by simp [TL.joinL]
  | [p] => by simp [TL.joinL]
  | p :: q :: r => by
    show (p ++ ([c] ++ TL.joinL [c] (q :: r))).length ≤ _
    have := joinL_len (c := c) (q :: r)
    rw [List.length_append, List.length_append, List.length_singleton, List.map_cons, List.sum_cons, List.length_cons]; omega
theorem joinL_ok {c : Nat} (hc : c < 128) : ∀ ys : List (List Nat), (∀ y ∈ ys, okT y) → okT (TL.joinL [c] ys)
  | [], _ => fun x hx => by simp [TL.joinL] at hx
  | [p], h => h p List.mem_cons_self
  | p :: q :: r, h => fun x hx => by
    have hx : x ∈ p ++ ([c] ++ TL.joinL [c] (q :: r)) := hx
    rcases List.mem_append.mp hx with z | z
    · exact h p List.mem_cons_self x z
    · rcases List.mem_append.mp z with z | z
      · rw [List.mem_singleton.mp z]; exact hc
      · exact joinL_ok hc (q :: r) (fun y hy => h y (List.mem_cons_of_mem _ hy)) x z
theorem sum_set {ys : List (List Nat)} {i : Nat} {z : List Nat} (h : i < ys.length) : ((ys.set i z).map List.length).sum ≤ (ys.map List.length).sum + z.length := by
  induction ys generalizing i with
  | nil => simp at h
  | cons y ys ih =>
    cases i with
    | zero => simp only [List.set_cons_zero, List.map_cons, List.sum_cons]; omega
    | succ i =>
      have := ih (i := i) (by simpa using h)
      simp only [List.set_cons_succ, List.map_cons, List.sum_cons]; omega
section
variable {K : PySem.W.Frag} {σ : L2.St} {F H : Hp} {te ta tb tj : TE} {D0 : Ends} {tz : TS} {i : Nat}
/-- xs[k] = a text -/
theorem q_setT {p : Addr} {us : List V} {k : Nat} {z : List Nat} (e : Ex F H) (hv : ED te σ F (sD z)) (hi : σ[i]? = some (some (.ref p))) (hj : ED tj σ F (.int (k : Int))) (hp : F p = some (.lst us)) (hk : k < us.length)
    (q : ∀ H2, Ex H H2 → tz D0 σ (upd H2 p (.lst (us.set k (.str (SX.S z)))))) : tSeq (tAsg te (gSub (tVar i) tj rSetL)) tz D0 σ H := hv F H (Ex.refl F) e _ fun u F1 H1 n1 r1 => by
  rw [r1.estr]
  refine ⟨_, hi, hj F1 H1 n1.f n1.fh _ fun y F2 H2 n2 r2 => ?_⟩
  rw [r2.eint]
  refine ⟨p, us, (k : Int), k, rfl, rfl, n2.fh _ _ (n2.f _ _ (n1.f _ _ hp)), ?_, q H2 (n1.h.trans n2.h)⟩
  unfold ixN
  simp; omega
end
def R_kinds (ds : List D) (d : D) : Prop := ∃ p, ds = [planD p] ∧ GoodPlan 5 p ∧ d = .bl true
def R_lref (ds : List D) (d : D) : Prop := ∃ t, ds = [sD t] ∧ t.length ≤ 15000 ∧ readV t = none ∧ d = .bl true
def okCh (ds : List D) : Prop := ∃ t w a c, ds = [sD t, .int w, .int a, .int c] ∧ t.length ≤ 12000 ∧ okT t
def someT (d : D) : Prop := ∃ t, d = sD t ∧ t.length ≤ 13000 ∧ okT t
theorem sum_set1 : ∀ {ys : List (List Nat)} {i : Nat} {c : Nat} (h : i < ys.length), ((ys.set i (c :: ys[i])).map List.length).sum = (ys.map List.length).sum + 1
  | y :: ys, 0, c, _ => by simp only [List.set_cons_zero, List.map_cons, List.sum_cons, List.getElem_cons_zero, List.length_cons]; omega
  | y :: ys, i + 1, c, h => by
    have := sum_set1 (ys := ys) (i := i) (c := c) (by simpa using h)
    simp only [List.set_cons_succ, List.map_cons, List.sum_cons, List.getElem_cons_succ, this]; omega
theorem cutN_drop (a : List Nat) {k : Nat} (h : k ≤ a.length) : cutN a (some (k : Int)) none = a.drop k := by
  unfold cutN
  rw [HT.sIx_nat, show HT.sIx a.length a.length none = a.length from rfl, Nat.min_eq_left h, List.take_of_length_le (by rw [List.length_drop]; exact Nat.le_refl _)]
theorem atI_mod {α : Type} {xs : List α} {i : Int} (h : 0 < xs.length) : ∃ x, atI xs (i % (xs.length : Int)) = some x ∧ x ∈ xs := by
  have a := Int.emod_nonneg i (b := (xs.length : Int)) (by omega)
  have b := Int.emod_lt_of_pos i (show 0 < (xs.length : Int) by omega)
  obtain ⟨m, hm⟩ : ∃ m : Nat, i % (xs.length : Int) = (m : Int) := ⟨(i % (xs.length : Int)).toNat, by omega⟩
  have hl : m < xs.length := by omega
  refine ⟨xs[m], ?_, List.getElem_mem hl⟩
  rw [hm]
  exact atI_nat (List.getElem?_eq_getElem hl)
/-- a short plain text -/
def okD : D → Bool
  | .str s => decide (s.cps.size ≤ 100) && s.cps.all (· < 128)
  | _ => false
theorem okD_some {d : D} (h : okD d = true) : someT d := by
  cases d <;> first | cases h | skip
  rename_i s
  have h : (decide (s.cps.size ≤ 100) && s.cps.all (· < 128)) = true := h
  rw [Bool.and_eq_true, decide_eq_true_eq, Array.all_eq_true'] at h
  exact ⟨s.cps.toList, congrArg D.str (SX.S_tl s).symm, by rw [Array.length_toList]; omega, fun c hc => by simpa using h.2 c (by simpa using hc)⟩
end Bp
namespace Bp
open PySem PySem.Spec PyProof.Rows L2
open Evl (Ex)
theorem num_ok (i : Int) : okT (numS i) := fun c hc => by
  have h := TL.numL_digits i.toNat
  have : 48 ≤ c ∧ c ≤ 57 := h c hc
  omega
theorem okT_cat {x y : List Nat} (hx : okT x) (hy : okT y) : okT (x ++ y) := fun c hc => by
  rcases List.mem_append.mp hc with z | z
  · exact hx c z
  · exact hy c z
theorem okT_flat {xs : List (List Nat)} (h : ∀ x ∈ xs, okT x) : okT xs.flatten := fun c hc => by
  obtain ⟨x, hx, hc⟩ := List.mem_flatten.mp hc
  exact h x hx c hc
theorem ways_ok (ws : List (Int × Int)) : okT (waysS ws) := okT_flat fun x hx => by
  obtain ⟨w, _, rfl⟩ := List.mem_map.mp hx
  intro c hc
  rcases List.mem_cons.mp hc with z | z
  · omega
  · rcases List.mem_append.mp z with z | z
    · exact num_ok _ c z
    · rcases List.mem_cons.mp z with z | z
      · omega
      · exact num_ok _ c z
theorem planS_ok (p : Pl) : okT (planS p) := by
  have nl : okT [10] := fun c hc => by rw [List.mem_singleton.mp hc]; decide
  refine okT_cat (okT_cat (okT_cat (by rw [litB]; unfold okT; decide) (ways_ok _)) nl) (okT_flat fun x hx => ?_)
  obtain ⟨r, _, rfl⟩ := List.mem_map.mp hx
  refine okT_cat (okT_cat ?_ (ways_ok _)) nl
  cases r.1 with
  | none => show okT (lit "there"); rw [litT]; unfold okT; decide
  | some k => exact num_ok k
theorem goodRow_up {n i b b' : Int} {r : Rw} (h : GoodRow n i b r) (hb : b ≤ b') : GoodRow n i b' r := by
  obtain ⟨k, ws⟩ := r
  cases k with
  | none => exact h
  | some k => exact ⟨h.1, h.2.1, h.2.2.1, fun w hw => by have := h.2.2.2 w hw; omega⟩
/-- rows that are there, put behind a plan's rows -/
def padP (ws : List (Int × Int)) (p : Pl) (n : Nat) : Pl := (ws, p.2 ++ List.replicate n (none, []))
theorem pad_ok {ws : List (Int × Int)} {p : Pl} {n : Nat} (gp : GoodPlan 5 p) (h : p.2.length + n ≤ 300) (hw : GoodWays 0 ((p.2.length + n : Nat) : Int) ws) : GoodPlan 5 (padP ws p n) := by
  have e : (padP ws p n).2.length = p.2.length + n := by unfold padP; simp
  refine ⟨by rw [e]; exact h, by rw [e]; exact hw, fun i r hi => ?_⟩
  rw [e]
  have hi : (p.2 ++ List.replicate n (none, []))[i]? = some r := hi
  by_cases lt : i < p.2.length
  · rw [List.getElem?_append_left lt] at hi
    exact goodRow_up (gp.r i r hi) (by omega)
  · rw [List.getElem?_append_right (by omega), List.getElem?_replicate] at hi
    split at hi
    · cases hi; rfl
    · cases hi
theorem rows_len {p : Pl} (gp : GoodPlan 5 p) : (planS p).length ≤ 66 + 66 * p.2.length := by
  have h := flat_len (xs := (itemsS p).map lineS) (k := 66) fun x hx => by
    obtain ⟨y, hy, rfl⟩ := List.mem_map.mp hx
    exact line_len gp y hy
  rw [← planS_items, List.length_map] at h
  have : (itemsS p).length = p.2.length + 1 := by unfold itemsS; rw [List.length_cons, List.length_map]
  omega
theorem pad_len {ws : List (Int × Int)} {p : Pl} {n : Nat} (gp : GoodPlan 5 p) (gq : GoodPlan 5 (padP ws p n)) : (planS (padP ws p n)).length ≤ 66 + 66 * p.2.length + 6 * n := by
  have l3 := gq.l
  have lw := ways_len gq.w (by decide) (by omega)
  have lb : (lit "begin").length = 5 := by decide +kernel
  have l0 := gp.l
  have h1 := flat_len (xs := p.2.map fun r => rowS r ++ [10]) (k := 66) fun x hx => by
    obtain ⟨r, hr, rfl⟩ := List.mem_map.mp hx
    obtain ⟨i, hi⟩ := List.mem_iff_getElem?.mp hr
    have := row_len (gp.r i r hi) (Int.natCast_nonneg i) (by decide) (by omega)
    rw [List.length_append, List.length_singleton]; omega
  have h2 := flat_len (xs := (List.replicate n ((none, []) : Rw)).map fun r => rowS r ++ [10]) (k := 6) fun x hx => by
    obtain ⟨r, hr, rfl⟩ := List.mem_map.mp hx
    rw [(List.mem_replicate.mp hr).2]
    show (rowS (none, []) ++ [10]).length ≤ 6
    decide +kernel
  rw [List.length_map] at h1 h2
  rw [List.length_replicate] at h2
  have lw : (waysS ws).length ≤ 60 := lw
  show ((lit "begin" ++ waysS ws ++ [10]) ++ ((p.2 ++ List.replicate n (none, [])).map fun r => rowS r ++ [10]).flatten).length ≤ _
  rw [List.map_append, List.flatten_append, List.length_append, List.length_append, List.length_append, List.length_append, List.length_singleton]
  omega
section
variable {K : PySem.W.Frag} {F : Hp} {ds : List D} {k : Int}
theorem rd_rep (h : ds.length ≤ 10) (h0 : 0 ≤ k) (h1 : k ≤ 1000) : RD rRep F (.lst ds) (.int k) (.lst (List.replicate k.toNat ds).flatten) := fun F1 H1 v u _ e2 rv ru Q q => by
  obtain ⟨a, vs, rfl, ha, hr⟩ := rv.list
  have hl : vs.length = ds.length := hr.n
  have big : vs.length * k.toNat ≤ 10 * 1000 := Nat.mul_le_mul (by omega) (by omega)
  refine ⟨a, k, vs, rfl, ru.eint, e2 _ _ ha, by omega, by omega, Evl.sz_of (by omega), fun p hp => q _ _ _ (Nx.new e2 hp) (Rp.mkL upd_same (Rps.mono (Ex.new (Evl.fresh_back e2 hp)) ?_))⟩
  generalize k.toNat = n
  induction n with
  | zero => exact .nil
  | succ n ih =>
    rw [List.replicate_succ, List.replicate_succ, List.flatten_cons, List.flatten_cons]
    exact hr.append ih
theorem ed_mulT {σ : L2.St} {ta tb : TE} {a : List Nat} (h1 : ED ta σ F (sD a)) (h2 : ED tb σ F (.int k)) (ha : a.length ≤ 10) (hk : k ≤ 1000 ∧ -1000 ≤ k) (ok : okT a) : EX (tOp rMulT ta tb) σ F fun d => ∃ t, d = sD t ∧ t.length ≤ a.length * k.toNat ∧ okT t := fun F1 H1 e1 e2 Q q =>
  h1 F1 H1 e1 e2 _ fun v F2 H2 n2 r2 => h2 F2 H2 (e1.trans n2.f) n2.fh _ fun u F3 H3 n3 r3 => by
    obtain ⟨l, e, hl, hok⟩ := mulS_S a k
    refine ⟨SX.S a, k, r2.estr, r3.eint, by omega, by omega, by rw [SX.S_len]; omega, ?_⟩
    rw [e]
    exact q (sD l) _ F3 H3 ⟨l, rfl, hl, hok ok⟩ (n2.trans n3) (.str _)
end
end Bp
namespace Bp
open PySem PySem.Spec PyProof.Rows L2
open Evl (Ex)
theorem seen_up (b : Int) : Up 10 (seenOf b) := by
  unfold seenOf upto
  refine ⟨?_, fun x hx => ?_⟩
  · rw [List.pairwise_map]
    exact ((List.pairwise_lt_range).filter _).imp fun h => by omega
  · obtain ⟨k, hk, rfl⟩ := List.mem_map.mp hx
    have := List.mem_range.mp (List.mem_filter.mp hk).1
    omega
theorem readV_good {t : List Nat} {p : Pl} (h : readV t = some p) : GoodPlan 5 p := by
  unfold readV at h
  split at h
  · cases e : frC 10 t with
    | nil => rw [e] at h; cases h
    | cons l0 ls =>
      rw [e] at h
      have h : ((beginV l0).bind fun ws => (ls.mapM rowV).bind fun rows => if isPlan (planD (ws, rows)) 5 = true then some (ws, rows) else none) = some p := h
      rw [Option.bind_eq_some_iff] at h
      obtain ⟨ws, _, h⟩ := h
      rw [Option.bind_eq_some_iff] at h
      obtain ⟨rows, _, h⟩ := h
      split at h
      · cases h
        rename_i hp
        exact isPlan_of.mp hp
      · cases h
  · cases h
section
variable {K : PySem.W.Frag} {σ : L2.St} {F : Hp} {ta tb : TE} {tl : TA} {ds : List D} {P : List D → Prop}
theorem ex_addT {a : List Nat} {m : Nat} (h1 : ED ta σ F (sD a)) (h2 : EX tb σ F fun d => ∃ t, d = sD t ∧ t.length ≤ m ∧ okT t) (hz : a.length + m ≤ 100000) : EX (tOp rAddS ta tb) σ F fun d => ∃ t, d = sD t ∧ t.length ≤ a.length + m ∧ (okT a → okT t) := fun F1 H1 e1 e2 Q q =>
  h1 F1 H1 e1 e2 _ fun v F2 H2 n2 r2 => h2 F2 H2 (e1.trans n2.f) n2.fh _ fun d u F3 H3 hd n3 r3 => by
    obtain ⟨t, rfl, hl, ho⟩ := hd
    exact rd_addT (F := F3) (a := a) (b := t) (by omega) F3 H3 v u (Ex.refl _) n3.fh (r2.mono n3.f) r3 _ fun w F4 H4 n4 r4 => q _ w F4 H4 ⟨a ++ t, rfl, by rw [List.length_append]; omega, fun ok => okT_cat ok ho⟩ ((n2.trans n3).trans n4) r4
end
end Bp
namespace K07
open PySem PySem.Spec PyProof.Rows L2 Bp
open Evl (Ex)
local macro_rules
  | `(tactic| walk_at "ev") => `(tactic| repeat' (first
    | exact ed_int
    | exact ed_bl
    | exact ed_non
    | exact ed_var rfl (by assumption)
    | exact ed_var rfl (Rp.int _)
    | exact rd_addI
    | exact rd_sub
    | exact rd_lt
    | exact rd_le
    | exact rd_gt
    | exact rd_ge
    | exact rd_eqD rfl rfl
    | exact rd_neD rfl rfl
    | (refine rd_mulI (Or.inr ⟨?_, ?_⟩) <;> omega)
    | (refine rd_mulI (Or.inl ⟨?_, ?_⟩) <;> omega)
    | (refine rd_fdiv ⟨?_, ?_⟩ <;> omega)
    | (refine rd_mod ?_; omega)
    | exact rl_max2
    | exact rl_min2
    | exact rl_lenL
    | exact ea_nil
    | with_reducible apply ea_cons
    | with_reducible apply ed_op
    | with_reducible apply ed_cb
    | with_reducible apply ed_lst))
def topS (i : Nat) : Stmt := PySem.Challenge.pw_blindplan_k07_plans_written.main.body.getD i (.Pass ⟨0, 0, 0, 0⟩)
abbrev s_is_whole : Stmt := topS 10
abbrev N_is_whole : List Str := ["value", "end"]
abbrev P_is_whole : List Str := ["value", "end"]
theorem sc_is_whole : FnScope N_is_whole P_is_whole (defScope s_is_whole) := ⟨rfl, rfl, rfl, by decide +kernel, rfl, by decide +kernel, by decide +kernel⟩
abbrev s_is_list : Stmt := topS 11
abbrev N_is_list : List Str := ["value", "least", "most"]
abbrev P_is_list : List Str := ["value", "least", "most"]
theorem sc_is_list : FnScope N_is_list P_is_list (defScope s_is_list) := ⟨rfl, rfl, rfl, by decide +kernel, rfl, by decide +kernel, by decide +kernel⟩
abbrev s_is_rising : Stmt := topS 12
abbrev N_is_rising : List Str := ["value", "end", "lowest", "number"]
abbrev P_is_rising : List Str := ["value", "end"]
theorem sc_is_rising : FnScope N_is_rising P_is_rising (defScope s_is_rising) := ⟨rfl, rfl, rfl, by decide +kernel, rfl, by decide +kernel, by decide +kernel⟩
abbrev s_is_pair : Stmt := topS 13
abbrev N_is_pair : List Str := ["value"]
abbrev P_is_pair : List Str := ["value"]
theorem sc_is_pair : FnScope N_is_pair P_is_pair (defScope s_is_pair) := ⟨rfl, rfl, rfl, by decide +kernel, rfl, by decide +kernel, by decide +kernel⟩
abbrev s_are_ways : Stmt := topS 20
abbrev N_are_ways : List Str := ["ways", "first", "end", "way"]
abbrev P_are_ways : List Str := ["ways", "first", "end"]
theorem sc_are_ways : FnScope N_are_ways P_are_ways (defScope s_are_ways) := ⟨rfl, rfl, rfl, by decide +kernel, rfl, by decide +kernel, by decide +kernel⟩
abbrev s_is_row : Stmt := topS 19
abbrev N_is_row : List Str := ["row", "deeds", "place", "end", "deed", "ways"]
abbrev P_is_row : List Str := ["row", "deeds", "place", "end"]
theorem sc_is_row : FnScope N_is_row P_is_row (defScope s_is_row) := ⟨rfl, rfl, rfl, by decide +kernel, rfl, by decide +kernel, by decide +kernel⟩
abbrev s_is_plan : Stmt := topS 18
abbrev N_is_plan : List Str := ["plan", "deeds", "ways", "rows", "place", "row"]
abbrev P_is_plan : List Str := ["plan", "deeds"]
theorem sc_is_plan : FnScope N_is_plan P_is_plan (defScope s_is_plan) := ⟨rfl, rfl, rfl, by decide +kernel, rfl, by decide +kernel, by decide +kernel⟩
abbrev s_written_ways : Stmt := topS 28
abbrev N_written_ways : List Str := ["ways", "look", "place"]
abbrev P_written_ways : List Str := ["ways"]
theorem sc_written_ways : FnScope N_written_ways P_written_ways (defScope s_written_ways) := ⟨rfl, rfl, rfl, by decide +kernel, rfl, by decide +kernel, by decide +kernel⟩
abbrev s_written_row : Stmt := topS 27
abbrev N_written_row : List Str := ["deed", "ways"]
abbrev P_written_row : List Str := ["deed", "ways"]
theorem sc_written_row : FnScope N_written_row P_written_row (defScope s_written_row) := ⟨rfl, rfl, rfl, by decide +kernel, rfl, by decide +kernel, by decide +kernel⟩
abbrev s_written : Stmt := topS 26
abbrev N_written : List Str := ["plan", "ways", "rows", "lines", "deed", "onward", "line"]
abbrev P_written : List Str := ["plan"]
theorem sc_written : FnScope N_written P_written (defScope s_written) := ⟨rfl, rfl, rfl, by decide +kernel, rfl, by decide +kernel, by decide +kernel⟩
abbrev s_read_number : Stmt := topS 34
abbrev N_read_number : List Str := ["word", "sign"]
abbrev P_read_number : List Str := ["word"]
theorem sc_read_number : FnScope N_read_number P_read_number (defScope s_read_number) := ⟨rfl, rfl, rfl, by decide +kernel, rfl, by decide +kernel, by decide +kernel⟩
abbrev s_read_way : Stmt := topS 33
abbrev N_read_way : List Str := ["word", "look", "_", "place"]
abbrev P_read_way : List Str := ["word"]
theorem sc_read_way : FnScope N_read_way P_read_way (defScope s_read_way) := ⟨rfl, rfl, rfl, by decide +kernel, rfl, by decide +kernel, by decide +kernel⟩
abbrev s_read_ways : Stmt := topS 32
abbrev N_read_ways : List Str := ["words", "word"]
abbrev P_read_ways : List Str := ["words"]
theorem sc_read_ways : FnScope N_read_ways P_read_ways (defScope s_read_ways) := ⟨rfl, rfl, rfl, by decide +kernel, rfl, by decide +kernel, by decide +kernel⟩
abbrev s_read_begin : Stmt := topS 30
abbrev N_read_begin : List Str := ["line", "word", "words"]
abbrev P_read_begin : List Str := ["line"]
theorem sc_read_begin : FnScope N_read_begin P_read_begin (defScope s_read_begin) := ⟨rfl, rfl, rfl, by decide +kernel, rfl, by decide +kernel, by decide +kernel⟩
abbrev s_read_row : Stmt := topS 31
abbrev N_read_row : List Str := ["line", "word", "words", "deed"]
abbrev P_read_row : List Str := ["line"]
theorem sc_read_row : FnScope N_read_row P_read_row (defScope s_read_row) := ⟨rfl, rfl, rfl, by decide +kernel, rfl, by decide +kernel, by decide +kernel⟩
abbrev s_read : Stmt := topS 29
abbrev N_read : List Str := ["text", "lines", "rest", "plan", "line"]
abbrev P_read : List Str := ["text"]
theorem sc_read : FnScope N_read P_read (defScope s_read) := ⟨rfl, rfl, rfl, by decide +kernel, rfl, by decide +kernel, by decide +kernel⟩
abbrev s__law_cell : Stmt := topS 36
abbrev N__law_cell : List Str := ["_law_script", "_law_k"]
abbrev P__law_cell : List Str := ["_law_script", "_law_k"]
theorem sc__law_cell : FnScope N__law_cell P__law_cell (defScope s__law_cell) := ⟨rfl, rfl, rfl, by decide +kernel, rfl, by decide +kernel, by decide +kernel⟩
abbrev s__law_int : Stmt := topS 37
abbrev N__law_int : List Str := ["_law_found"]
abbrev P__law_int : List Str := ["_law_found"]
theorem sc__law_int : FnScope N__law_int P__law_int (defScope s__law_int) := ⟨rfl, rfl, rfl, by decide +kernel, rfl, by decide +kernel, by decide +kernel⟩
abbrev s__law_ways : Stmt := topS 38
abbrev N__law_ways : List Str := ["_law_cell_here", "_law_seen", "_law_at", "_law_wide", "_law_found", "_law_look"]
abbrev P__law_ways : List Str := ["_law_cell_here", "_law_seen", "_law_at", "_law_wide"]
theorem sc__law_ways : FnScope N__law_ways P__law_ways (defScope s__law_ways) := ⟨rfl, rfl, rfl, by decide +kernel, rfl, by decide +kernel, by decide +kernel⟩
abbrev s__law_rows : Stmt := topS 39
abbrev N__law_rows : List Str := ["_law_script", "_law_seen", "_law_deeds", "_law_many", "_law_rows_here", "_law_at", "_law_cell_here"]
abbrev P__law_rows : List Str := ["_law_script", "_law_seen", "_law_deeds"]
theorem sc__law_rows : FnScope N__law_rows P__law_rows (defScope s__law_rows) := ⟨rfl, rfl, rfl, by decide +kernel, rfl, by decide +kernel, by decide +kernel⟩
abbrev s__law_shown : Stmt := topS 40
abbrev N__law_shown : List Str := ["_law_plan", "_law_rows_here", "_law_row", "_law_lists", "_law_text", "_law_word_here", "_law_ways_here", "_law_look", "_law_place"]
abbrev P__law_shown : List Str := ["_law_plan"]
theorem sc__law_shown : FnScope N__law_shown P__law_shown (defScope s__law_shown) := ⟨rfl, rfl, rfl, by decide +kernel, rfl, by decide +kernel, by decide +kernel⟩
abbrev s__law_changed : Stmt := topS 41
abbrev N__law_changed : List Str := ["_law_text", "_law_way", "_law_at", "_law_cell_here", "_law_place", "_law_some", "_law_odd", "_law_pieces"]
abbrev P__law_changed : List Str := ["_law_text", "_law_way", "_law_at", "_law_cell_here"]
theorem sc__law_changed : FnScope N__law_changed P__law_changed (defScope s__law_changed) := ⟨rfl, rfl, rfl, by decide +kernel, rfl, by decide +kernel, by decide +kernel⟩
abbrev s__law_number : Stmt := topS 42
abbrev N__law_number : List Str := ["_law_figures", "_law_figure"]
abbrev P__law_number : List Str := ["_law_figures"]
theorem sc__law_number : FnScope N__law_number P__law_number (defScope s__law_number) := ⟨rfl, rfl, rfl, by decide +kernel, rfl, by decide +kernel, by decide +kernel⟩
abbrev s__law_ways_of : Stmt := topS 43
abbrev N__law_ways_of : List Str := ["_law_words", "_law_found", "_law_word_here", "_law_numbers", "_law_one"]
abbrev P__law_ways_of : List Str := ["_law_words"]
theorem sc__law_ways_of : FnScope N__law_ways_of P__law_ways_of (defScope s__law_ways_of) := ⟨rfl, rfl, rfl, by decide +kernel, rfl, by decide +kernel, by decide +kernel⟩
abbrev s__law_row_of : Stmt := topS 44
abbrev N__law_row_of : List Str := ["_law_line", "_law_words"]
abbrev P__law_row_of : List Str := ["_law_line"]
theorem sc__law_row_of : FnScope N__law_row_of P__law_row_of (defScope s__law_row_of) := ⟨rfl, rfl, rfl, by decide +kernel, rfl, by decide +kernel, by decide +kernel⟩
abbrev s__law_good_ways : Stmt := topS 45
abbrev N__law_good_ways : List Str := ["_law_ways_here", "_law_first", "_law_many", "_law_k"]
abbrev P__law_good_ways : List Str := ["_law_ways_here", "_law_first", "_law_many"]
theorem sc__law_good_ways : FnScope N__law_good_ways P__law_good_ways (defScope s__law_good_ways) := ⟨rfl, rfl, rfl, by decide +kernel, rfl, by decide +kernel, by decide +kernel⟩
abbrev s__law_plan_of : Stmt := topS 46
abbrev N__law_plan_of : List Str := ["_law_text", "_law_lines", "_law_ways_here", "_law_rows_here", "_law_line", "_law_at", "_law_row"]
abbrev P__law_plan_of : List Str := ["_law_text"]
theorem sc__law_plan_of : FnScope N__law_plan_of P__law_plan_of (defScope s__law_plan_of) := ⟨rfl, rfl, rfl, by decide +kernel, rfl, by decide +kernel, by decide +kernel⟩
abbrev s__law_kinds : Stmt := topS 47
abbrev N__law_kinds : List Str := ["_law_plan", "_law_row", "_law_ways_here", "_law_way"]
abbrev P__law_kinds : List Str := ["_law_plan"]
theorem sc__law_kinds : FnScope N__law_kinds P__law_kinds (defScope s__law_kinds) := ⟨rfl, rfl, rfl, by decide +kernel, rfl, by decide +kernel, by decide +kernel⟩
abbrev s__law_word : Stmt := topS 48
abbrev N__law_word : List Str := ["_law_e", "_law_word_here"]
abbrev P__law_word : List Str := ["_law_e"]
theorem sc__law_word : FnScope N__law_word P__law_word (defScope s__law_word) := ⟨rfl, rfl, rfl, by decide +kernel, rfl, by decide +kernel, by decide +kernel⟩
abbrev s__law_refused : Stmt := topS 49
abbrev N__law_refused : List Str := ["_law_text", "_law_e"]
abbrev P__law_refused : List Str := ["_law_text"]
theorem sc__law_refused : FnScope N__law_refused P__law_refused (defScope s__law_refused) := ⟨rfl, rfl, rfl, by decide +kernel, rfl, by decide +kernel, by decide +kernel⟩
abbrev s_law : Stmt := topS 50
abbrev N_law : List Str := ["_law_script", "_law_bits", "_law_seen", "_law_look", "_law_plan", "_law_many", "_law_kept", "_law_row", "_law_text", "_law_way", "_law_due", "_law_found"]
abbrev P_law : List Str := ["_law_script"]
theorem sc_law : FnScope N_law P_law (defScope s_law) := ⟨rfl, rfl, rfl, by decide +kernel, rfl, by decide +kernel, by decide +kernel⟩
structure Txt (K : PySem.W.Frag) (mg : Str → Option Value) (A : Ad) : Prop where
  m_ValueError : mg "ValueError" = none
  m_enumerate : mg "enumerate" = none
  m_int : mg "int" = none
  m_isinstance : mg "isinstance" = none
  m_len : mg "len" = none
  m_list : mg "list" = none
  m_min : mg "min" = none
  m_range : mg "range" = none
  m_str : mg "str" = none
  m_tuple : mg "tuple" = none
  m_type : mg "type" = none
  m_zip : mg "zip" = none
  c_MOST_DEEDS : ∃ t, mg "MOST_DEEDS" = some (.int 5 t)
  c_LOOKS : ∃ t, mg "LOOKS" = some (.int 10 t)
  c_MOST_ROWS : ∃ t, mg "MOST_ROWS" = some (.int 300 t)
  c_BEGIN : ∃ t, mg "BEGIN" = some (.str "begin" t)
  c_THERE : ∃ t, mg "THERE" = some (.str "there" t)
  c_FIGURES : ∃ t, mg "FIGURES" = some (.str "0123456789" t)
  c_MOST_FIGURES : ∃ t, mg "MOST_FIGURES" = some (.int 3 t)
  HouseError : ExcT K mg "HouseError" A.he
  BadHouse : ExcT K mg "BadHouse" A.bh
  BadGuess : ExcT K mg "BadGuess" A.bg
  BadDeed : ExcT K mg "BadDeed" A.bd
  BadPlan : ExcT K mg "BadPlan" A.bp
  BadSteps : ExcT K mg "BadSteps" A.bs
  NoWay : ExcT K mg "NoWay" A.nw
  BadText : ExcT K mg "BadText" A.bt
  q_BadText : Err K A A.bt true false false false false false false true
section
variable {P : Program} {w : World} {K : PySem.W.Frag} {mg : Str → Option Value} {base : Heap} {A : Ad} {LCd LP : Addr}
theorem ok_is_whole {f : Addr} {fd : FuncData} (F : Fun K "is_whole" "is_whole" s_is_whole f fd) (T : Txt K mg A)   : FnOk P w K mg base CX0 1 f fd P_is_whole (spR R_is_whole) := by
  refine F.ok sc_is_whole (len_R fun ds d h => by obtain ⟨x, n, rfl, _⟩ := h; rfl) (fun cdv A0 outer s H vs Q E hr h => ?_)
  have hu := hu64 hr
  obtain ⟨F0, ds, d, e0, r0, ⟨x, n, rfl, no, rfl⟩, q⟩ := h
  obtain ⟨v0, _, rfl, h0, r0⟩ := r0.uncons
  obtain ⟨v1, _, rfl, h1, r0⟩ := r0.uncons
  obtain rfl := r0.unnil
  refine ⟨_, (pss_one (ps_ret (pe_and (pe_cmpR op_isTy' (pe_typD (by rfl) T.m_type (pv 0)) (pe_bltn (v := .ty "int") (by rfl) T.m_int bt_int rfl) (nomark _)) (pe_one (pe_chain op_le op_lt pe_int (pv 0) (pv 1)))))), ?_⟩
  refine s_ret (d := .bl (isWhole x n)) e0 (ED.is (ed_and (b := isWhole x n) (ed_typ (ed_var rfl h0) no) fun ht => ?_) ?_) q
  · obtain ⟨i, rfl⟩ := ty_int (of_decide_eq_true ht)
    exact ed_chain ed_int (ed_var rfl h0) rd_le (fun _ => ed_var rfl h1) fun _ => rd_lt
  · cases x <;> first | (rw [show isWhole _ n = false from rfl, Bool.and_false]) | rfl
theorem ok_is_list {f : Addr} {fd : FuncData} (F : Fun K "is_list" "is_list" s_is_list f fd) (T : Txt K mg A)   : FnOk P w K mg base CX0 1 f fd P_is_list (spR R_is_list) := by
  refine F.ok sc_is_list (len_R fun ds d h => by obtain ⟨x, a, b, rfl, _⟩ := h; rfl) (fun cdv A0 outer s H vs Q E hr h => ?_)
  have hu := hu64 hr
  obtain ⟨F0, ds, d, e0, r0, ⟨x, a, b, rfl, no, rfl⟩, q⟩ := h
  obtain ⟨v0, _, rfl, h0, r0⟩ := r0.uncons
  obtain ⟨v1, _, rfl, h1, r0⟩ := r0.uncons
  obtain ⟨v2, _, rfl, h2, r0⟩ := r0.uncons
  obtain rfl := r0.unnil
  refine ⟨_, (pss_one (ps_ret (pe_and (pe_cmpR op_isTy' (pe_typD (by rfl) T.m_type (pv 0)) (pe_bltn (v := .ty "list") (by rfl) T.m_list bt_list rfl) (nomark _)) (pe_one (pe_chain op_le op_le (pv 1) (pe_callB (len_K K) (by rfl) T.m_len bt_len (pa_cons (pv 0) pa_nil)) (pv 2)))))), ?_⟩
  refine s_ret (d := .bl (isList x a b)) e0 (ED.is (ed_and (b := isList x a b) (ed_typ (ed_var rfl h0) no) fun ht => ?_) ?_) q
  · obtain ⟨i, rfl⟩ := ty_list (of_decide_eq_true ht)
    exact ed_chain (ed_var rfl h1) (ed_cb (ea_cons (ed_var rfl h0) ea_nil) rl_lenL) rd_le (fun _ => ed_var rfl h2) fun _ => rd_le
  · cases x <;> first | (rw [show isList _ a b = false from rfl, Bool.and_false]) | rfl
theorem ok_is_rising {f : Addr} {fd : FuncData} (F : Fun K "is_rising" "is_rising" s_is_rising f fd) (T : Txt K mg A) (c_is_list : Df P w K mg base CX0 1 "is_list" P_is_list (spR R_is_list)) (c_is_whole : Df P w K mg base CX0 1 "is_whole" P_is_whole (spR R_is_whole))  : FnOk P w K mg base CX0 2 f fd P_is_rising (spR R_is_rising) := by
  refine F.ok sc_is_rising (len_R fun ds d h => by obtain ⟨x, n, rfl, _⟩ := h; rfl) (fun cdv A0 outer s H vs Q E hr h => ?_)
  have hu := hu64 hr
  obtain ⟨F0, ds, d, e0, r0, ⟨x, n, rfl, no, rfl⟩, q⟩ := h
  obtain ⟨v0, _, rfl, h0, r0⟩ := r0.uncons
  obtain ⟨v1, _, rfl, h1, r0⟩ := r0.uncons
  obtain rfl := r0.unnil
  have no1 : noObj x = true := by cases x <;> first | rfl | cases no
  refine ⟨_, (pss_cons (ps_if (pt_not (pt_val (pe_df c_is_list hr (by decide) pass0 (pa_cons (pv 0) (pa_cons pe_int (pa_cons (pv 1) pa_nil)))))) 
        (pss_one (ps_ret pe_bl)) pss_nil)
      (pss_cons (ps_set (i := 2) sc_is_rising.nd rfl (by first | exact Or.inl rfl | exact Or.inr rfl) pe_int)
      (pss_cons (ps_for PassesOwn.never rfl (il_K K (pv 0)) (pg_name (i := 3) sc_is_rising.nd rfl (by first | exact Or.inl rfl | exact Or.inr rfl)) 
        (pss_cons (ps_if (PW.pt (pw_or (pt_not (pt_val (pe_df c_is_whole hr (by decide) pass0 (pa_cons (pv 3) (pa_cons (pv 1) pa_nil))))) (pw_or1 (pt_cmpR op_lt (pv 3) (pv 2) (nomark _))))) 
          (pss_one (ps_ret pe_bl)) pss_nil)
        (pss_one (ps_set (i := 2) sc_is_rising.nd rfl (by first | exact Or.inl rfl | exact Or.inr rfl) (pe_op op_addA (pv 3) pe_int)))))
      (pss_one (ps_ret pe_bl))))), ?_⟩
  refine q_when e0 (et_not (et_B (ed_call (ea_cons (ed_var rfl h0) (ea_cons ed_int (ea_cons (ed_var rfl h1) ea_nil))) ⟨x, 0, n, rfl, no1, rfl⟩))) (fun hb H1 n1 => ?_) (fun hb H1 n1 => ?_)
  · refine s_ret (d := .bl (isRising x n)) n1.fh (ED.is ed_bl ?_) fun v F1 H2 n2 r2 => q v F1 H2 (n1.trans n2) r2
    exact (isRising_no (by simpa using hb)).symm ▸ rfl
  · obtain ⟨xs, rfl, _, hl⟩ := isList_yes (show isList x 0 n = true by simpa using hb)
    refine q_int (n := 0) n1.fh ed_int fun H2 n2 => ?_
    have n12 := n1.trans n2
    refine q_forL (ds := xs) n2.fh (ed_var rfl h0) fun F3 H3 n3 => ?_
    have n13 := n12.trans n3
    refine ⟨fun i σ' H' => ∃ lo y, σ' = [some v0, some v1, some (.int lo), y] ∧ Nx F0 H F3 H' ∧ rises n 0 xs = rises n lo (xs.drop i), ⟨0, none, rfl, n13, rfl⟩, fun i σ' H' p => ?_, fun i v d σ' H' hd rd p => ?_, fun σ' H' p => ?_⟩
    · obtain ⟨_, _, _, nx, _⟩ := p; exact nx.fh
    · obtain ⟨lo, y, rfl, nx, hr⟩ := p
      have hx : xs.drop i = d :: xs.drop (i + 1) := by
        obtain ⟨hi, e⟩ := List.getElem?_eq_some_iff.mp hd
        rw [List.drop_eq_getElem_cons hi, e]
      have nod : noObj d = true := by
        have := List.all_eq_true.mp (show xs.all noObj = true from no) d (List.mem_of_getElem? hd)
        exact this
      rw [hx] at hr
      refine q_when (b := (!isWhole d n) || belowD d lo) nx.fh (et_or (et_not (et_B (ed_call (ea_cons (ed_var rfl rd) (ea_cons (ed_var rfl (h1.mono nx.f)) ea_nil)) ⟨d, n, rfl, nod, rfl⟩))) fun hw => ?_) (fun hb H5 n5 => ?_) (fun hb H5 n5 => ?_)
      · have hw : isWhole d n = true := by simpa using hw
        cases d <;> first | cases hw | skip
        exact et_test (ed_op (ed_var rfl rd) (ed_var rfl (.int lo)) rd_lt)
      · refine s_ret (d := .bl (isRising (.lst xs) n)) n5.fh (ED.is ed_bl ?_) fun v F1 H2 n2 r2 => q v F1 H2 ((nx.trans n5).trans n2) r2
        rw [show isRising (.lst xs) n = (decide ((xs.length : Int) ≤ n) && rises n 0 xs) from rfl, hr, rises_bad hb, Bool.and_false]
      · obtain ⟨j, rfl, _, _, _, hj⟩ := rises_good (xs := xs.drop (i + 1)) hb
        obtain rfl := rd.eint
        refine s_int (n := j + 1) n5.fh (ed_op (ed_var (i := 3) rfl (.int j)) ed_int rd_addI) fun H6 n6 => ?_
        exact ⟨j + 1, _, rfl, (nx.trans n5).trans n6, hr.trans hj⟩
    · obtain ⟨lo, y, rfl, nx, hr⟩ := p
      refine s_ret (d := .bl (isRising (.lst xs) n)) nx.fh (ED.is ed_bl ?_) fun v F1 H2 n2 r2 => q v F1 H2 (nx.trans n2) r2
      rw [show isRising (.lst xs) n = (decide ((xs.length : Int) ≤ n) && rises n 0 xs) from rfl, hr, List.drop_length, decide_eq_true hl]; rfl
theorem ok_is_pair {f : Addr} {fd : FuncData} (F : Fun K "is_pair" "is_pair" s_is_pair f fd) (T : Txt K mg A)   : FnOk P w K mg base CX0 1 f fd P_is_pair (spR R_is_pair) := by
  refine F.ok sc_is_pair (len_R fun ds d h => by obtain ⟨_, rfl, _⟩ := h; rfl) (fun cdv A0 outer s H vs Q E hr h => ?_)
  have hu := hu64 hr
  obtain ⟨F0, ds, d, e0, r0, ⟨x, rfl, no, rfl⟩, q⟩ := h
  obtain ⟨v0, _, rfl, h0, r0⟩ := r0.uncons
  obtain rfl := r0.unnil
  refine ⟨_, (pss_one (ps_ret (pe_and (pe_cmpR op_isTy' (pe_typD (by rfl) T.m_type (pv 0)) (pe_bltn (v := .ty "tuple") (by rfl) T.m_tuple bt_tuple rfl) (nomark _)) (pe_one (pe_cmpR (eq_K K hu) (pe_callB (len_K K) (by rfl) T.m_len bt_len (pa_cons (pv 0) pa_nil)) pe_int (nomark _)))))), ?_⟩
  refine s_ret (d := .bl (isPair x)) e0 (ED.is (ed_and (b := isPair x) (ed_typ (ed_var rfl h0) no) fun ht => ?_) ?_) q
  · obtain ⟨xs, rfl⟩ := ty_tup (of_decide_eq_true ht)
    refine ED.is (ed_op (ed_cb (ea_cons (ed_var rfl h0) ea_nil) rl_lenT) ed_int (rd_eqD rfl rfl)) ?_
    rw [eqv_int]
    rw [isPair_len]
  · cases x <;> first | rfl | (rw [show isPair _ = false from rfl, Bool.and_false]) | skip
theorem ok_are_ways {f : Addr} {fd : FuncData} (F : Fun K "are_ways" "are_ways" s_are_ways f fd) (T : Txt K mg A) (c_is_rising : Df P w K mg base CX0 2 "is_rising" P_is_rising (spR R_is_rising)) (c_is_list : Df P w K mg base CX0 1 "is_list" P_is_list (spR R_is_list)) (c_is_pair : Df P w K mg base CX0 1 "is_pair" P_is_pair (spR R_is_pair)) (c_is_whole : Df P w K mg base CX0 1 "is_whole" P_is_whole (spR R_is_whole))  : FnOk P w K mg base CX0 3 f fd P_are_ways (spR R_are_waysN) := by
  refine F.ok sc_are_ways (len_R fun ds d h => by obtain ⟨_, _, _, rfl, _⟩ := h; rfl) (fun cdv A0 outer s H vs Q E hr h => ?_)
  have hu := hu64 hr
  obtain ⟨F0, ds, d, e0, r0, ⟨x, a, b, rfl, pu, rfl⟩, q⟩ := h
  obtain ⟨v0, _, rfl, h0, r0⟩ := r0.uncons
  obtain ⟨v1, _, rfl, h1, r0⟩ := r0.uncons
  obtain ⟨v2, _, rfl, h2, r0⟩ := r0.uncons
  obtain rfl := r0.unnil
  obtain rfl := h1.eint
  obtain rfl := h2.eint
  refine ⟨_, (pss_cons (ps_if (pt_not (pt_val (pe_df c_is_list hr (by decide) pass0 (pa_cons (pv 0) (pa_cons pe_int (pa_cons (pe_glob (v := .int 10) rfl T.c_LOOKS.choose_spec ⟨_, rfl⟩) pa_nil)))))) 
        (pss_one (ps_ret pe_bl)) pss_nil)
      (pss_cons (ps_for PassesOwn.never rfl (il_K K (pv 0)) (pg_name (i := 3) sc_are_ways.nd rfl (by first | exact Or.inl rfl | exact Or.inr rfl)) 
        (pss_one (ps_if (PW.pt (pw_or (pt_not (pt_val (pe_df c_is_pair hr (by decide) pass0 (pa_cons (pv 3) pa_nil)))) (pw_or (pt_not (pt_val (pe_df c_is_whole hr (by decide) pass0 (pa_cons (pe_ix (ix_K K) (pv 3) pe_int (fun _ _ => rfl)) (pa_cons (pv 2) pa_nil))))) (pw_or1 (pt_cmpR op_lt (pe_ix (ix_K K) (pv 3) pe_int (fun _ _ => rfl)) (pv 1) (nomark _)))))) 
          (pss_one (ps_ret pe_bl)) pss_nil)))
      (pss_one (ps_ret (pe_df c_is_rising hr (by decide) pass0 (pa_cons (pe_lc (own := [("way", 3)]) (g := gName 3) (tt := tYes) rfl sc_are_ways.nd (il_K K (pv 0)) (blkOk_by (N := N_are_ways) (sc := defScope s_are_ways) (by decide +kernel)) (fun _ _ _ _ _ => by exact (pg_name (i := 3) sc_are_ways.nd rfl (by first | exact Or.inl rfl | exact Or.inr rfl))) (fun _ _ _ _ _ => by exact pts_nil) (fun _ _ _ _ _ => by exact (pe_ix (ix_K K) (pv 3) pe_int (fun _ _ => rfl)))) (pa_cons (pe_glob (v := .int 10) rfl T.c_LOOKS.choose_spec ⟨_, rfl⟩) pa_nil))))))), ?_⟩
  refine q_when (b := !isList x 0 10) e0 (et_not (et_B (ed_call (ea_cons (ed_var rfl h0) (ea_cons ed_int (ea_cons ed_int ea_nil))) ⟨x, 0, 10, rfl, pu.no, rfl⟩))) (fun hb H1 n1 => ?_) (fun hb H1 n1 => ?_)
  · refine s_ret n1.fh (ED.is (ed_bl (b := false)) ?_) fun v F2 H2 n2 r2 => q v F2 H2 (n1.trans n2) r2
    rw [areWays_no (show isList x 0 10 = false by simpa using hb)]
  obtain ⟨xs, rfl, _, hl⟩ := isList_yes (show isList x 0 10 = true by simpa using hb)
  have hl10 : xs.length ≤ 10 := by omega
  have eA : areWays (.lst xs) a b = (xs.all (goodWay a b) && rises 10 0 (xs.map fstD)) := by
    show (decide (xs.length ≤ 10) && _ && _) = _
    rw [decide_eq_true hl10, Bool.true_and]
  refine q_forL (ds := xs) n1.fh (ed_var rfl h0) fun F3 H3 n3 => ?_
  have n13 := n1.trans n3
  refine ⟨fun i σ' H' => ∃ y, σ' = [some v0, some (.int a), some (.int b), y] ∧ Nx F0 H F3 H' ∧ ∀ d ∈ xs.take i, goodWay a b d = true, ⟨none, rfl, n13, by simp⟩, fun i σ' H' p => ?_, fun i v d σ' H' hd rd p => ?_, fun σ' H' p => ?_⟩
  · obtain ⟨_, _, nx, _⟩ := p; exact nx.fh
  · obtain ⟨y, rfl, nx, ha⟩ := p
    have hm := List.mem_of_getElem? hd
    have pd := pu.mem hm
    refine s_if (b := !goodWay a b d) nx.fh (ET.is (et_or (a := !isPair d) (b := !isWhole (sndD d) b || belowD (sndD d) a) (et_not (et_B (ed_call (ea_cons (ed_var rfl rd) ea_nil) ⟨d, rfl, pd.no, rfl⟩))) fun hp => ?_) ?_) (fun hb H5 n5 => ?_) (fun hb H5 n5 => ?_)
    · obtain ⟨x, y, rfl⟩ := isPair_yes (show isPair d = true by simpa using hp)
      have w1 : ED (tOp (rIx K) (tVar 3) (tC (.int 1))) [some v0, some (.int a), some (.int b), some v] F3 y := ed_op (ed_var rfl rd) ed_int (rd_ixt (at_nat (j := 1) rfl rfl))
      refine et_or (et_not (et_B (ed_call (ea_cons w1 (ea_cons (ed_var rfl (.int _)) ea_nil)) ⟨y, b, rfl, (pd.memT (by simp)).no, rfl⟩))) fun hw => ?_
      have hw : isWhole y b = true := by simpa [sndD] using hw
      cases y <;> first | cases hw | skip
      exact et_test (ed_op w1 (ed_var rfl (.int a)) rd_lt)
    · unfold goodWay
      cases isPair d <;> cases isWhole (sndD d) b <;> cases belowD (sndD d) a <;> rfl
    · refine s_ret (d := .bl (areWays (.lst xs) a b)) n5.fh (ED.is (ed_bl (b := false)) ?_) fun v F1 H2 n2 r2 => q v F1 H2 ((nx.trans n5).trans n2) r2
      rw [eA, show xs.all (goodWay a b) = false from Bool.eq_false_iff.mpr fun z => by
        have := List.all_eq_true.mp z d hm
        rw [this] at hb; cases hb]; rfl
    · refine ⟨_, rfl, nx.trans n5, fun r' hr' => ?_⟩
      rw [List.take_add_one, hd] at hr'
      rcases List.mem_append.mp hr' with z | z
      · exact ha r' z
      · have : r' = d := by simpa using z
        rw [this]; simpa using hb
  · obtain ⟨y, rfl, nx, ha⟩ := p
    rw [List.take_length] at ha
    have pr : ∀ d ∈ xs, ∃ x y, d = .tup [x, y] := fun d hd => by
      have g := ha d hd
      unfold goodWay at g
      exact isPair_yes (Bool.and_eq_true_iff.mp g).1
    have eL := ed_lc (K := K) (σ := [some v0, some (.int a), some (.int b), y]) (F := F3) (emb := fun d => d) (xs := xs) (tl := tVar 0) (j := 3) (ws := [3]) (t := tYes) (te := tOp (rIx K) (tVar 3) (tC (.int 0))) (fun _ => true) fstD (ED.is (ed_var rfl (h0.mono nx.f)) (by rw [List.map_id'])) (by omega) (fun _ => rfl) (fun d v F1 hd e1 rv => et_yes) (fun d v F1 hd e1 rv _ => by
      obtain ⟨x, y, rfl⟩ := pr d hd
      exact ed_op (ed_var rfl rv) ed_int (rd_ixt (at_nat (j := 0) rfl rfl)))
    rw [filter_yes] at eL
    refine s_ret (d := .bl (areWays (.lst xs) a b)) nx.fh (ED.is (ed_call (ea_cons eL (ea_cons ed_int ea_nil)) ⟨_, _, rfl, ?_, rfl⟩) ?_) fun v F1 H2 n2 r2 => q v F1 H2 (nx.trans n2) r2
    · refine List.all_eq_true.mpr fun z hz => ?_
      obtain ⟨d, hd, rfl⟩ := List.mem_map.mp hz
      obtain ⟨x, y, rfl⟩ := pr d hd
      exact ((pu.mem hd).memT (by simp [fstD])).no
    · rw [eA, show xs.all (goodWay a b) = true from List.all_eq_true.mpr ha]
      show D.bl (decide (((xs.map fstD).length : Int) ≤ 10) && rises 10 0 (xs.map fstD)) = _
      rw [List.length_map, decide_eq_true hl]
theorem ok_is_row {f : Addr} {fd : FuncData} (F : Fun K "is_row" "is_row" s_is_row f fd) (T : Txt K mg A) (c_is_pair : Df P w K mg base CX0 1 "is_pair" P_is_pair (spR R_is_pair)) (c_is_list : Df P w K mg base CX0 1 "is_list" P_is_list (spR R_is_list)) (c_is_whole : Df P w K mg base CX0 1 "is_whole" P_is_whole (spR R_is_whole)) (c_are_ways : Df P w K mg base CX0 3 "are_ways" P_are_ways (spR R_are_waysN))  : FnOk P w K mg base CX0 4 f fd P_is_row (spR R_is_rowN) := by
  refine F.ok sc_is_row (len_R fun ds d h => by obtain ⟨_, _, _, _, rfl, _⟩ := h; rfl) (fun cdv A0 outer s H vs Q E hr h => ?_)
  have hu := hu64 hr
  obtain ⟨F0, ds, d, e0, r0, ⟨x, n, a, b, rfl, pu, rfl⟩, q⟩ := h
  obtain ⟨v0, _, rfl, h0, r0⟩ := r0.uncons
  obtain ⟨v1, _, rfl, h1, r0⟩ := r0.uncons
  obtain ⟨v2, _, rfl, h2, r0⟩ := r0.uncons
  obtain ⟨v3, _, rfl, h3, r0⟩ := r0.uncons
  obtain rfl := r0.unnil
  obtain rfl := h1.eint
  obtain rfl := h2.eint
  obtain rfl := h3.eint
  refine ⟨_, (pss_cons (ps_if (pt_not (pt_val (pe_df c_is_pair hr (by decide) pass0 (pa_cons (pv 0) pa_nil)))) 
        (pss_one (ps_ret pe_bl)) pss_nil)
      (pss_cons (ps_asg (pv 0) (pg_tup rfl (pgs_cons (pg_name (i := 4) sc_is_row.nd rfl (by first | exact Or.inl rfl | exact Or.inr rfl)) (pgs_cons (pg_name (i := 5) sc_is_row.nd rfl (by first | exact Or.inl rfl | exact Or.inr rfl)) pgs_nil))))
      (pss_cons (ps_if (pt_cmpR op_isN1 (pv 4) pe_non (nomark _)) 
        (pss_one (ps_ret (pe_df c_is_list hr (by decide) pass0 (pa_cons (pv 5) (pa_cons pe_int (pa_cons pe_int pa_nil)))))) pss_nil)
      (pss_one (ps_ret (pe_and (pe_df c_is_whole hr (by decide) pass0 (pa_cons (pv 4) (pa_cons (pv 1) pa_nil))) (pe_one (pe_df c_are_ways hr (by decide) pass0 (pa_cons (pv 5) (pa_cons (pe_op op_addA (pv 2) pe_int) (pa_cons (pv 3) pa_nil))))))))))), ?_⟩
  refine q_when (b := !isPair x) e0 (et_not (et_B (ed_call (ea_cons (ed_var rfl h0) ea_nil) ⟨x, rfl, pu.no, rfl⟩))) (fun hb H1 n1 => ?_) (fun hb H1 n1 => ?_)
  · refine s_ret n1.fh (ED.is (ed_bl (b := false)) ?_) fun v F2 H2 n2 r2 => q v F2 H2 (n1.trans n2) r2
    unfold isRow
    rw [show isPair x = false by simpa using hb]; rfl
  obtain ⟨dd, w, rfl⟩ := isPair_yes (show isPair x = true by simpa using hb)
  have pd := pu.memT (x := dd) (by simp)
  have pw := pu.memT (x := w) (by simp)
  refine q_tup2 n1.fh (ed_var rfl h0) fun v4 v5 F1 H2 n2 r4 r5 => ?_
  have n12 := n1.trans n2
  refine q_when (b := isNonD dd) n2.fh (et_test (ed_op (ed_var rfl r4) ed_non rd_isN)) (fun hb H3 n3 => ?_) (fun hb H3 n3 => ?_)
  · refine s_ret n3.fh (ED.is (ed_call (ea_cons (ed_var rfl r5) (ea_cons ed_int (ea_cons ed_int ea_nil))) ⟨w, 0, 0, rfl, pw.no, rfl⟩) ?_) fun v F4 H4 n4 r4 => q v F4 H4 ((n12.trans n3).trans n4) r4
    show _ = D.bl (true && if isNonD dd = true then _ else _)
    rw [if_pos hb]; rfl
  · refine s_ret n3.fh (ED.is (ed_and (ed_call (ea_cons (ed_var rfl r4) (ea_cons (ed_var rfl (.int _)) ea_nil)) ⟨dd, n, rfl, pd.no, rfl⟩) fun _ => ed_call (ea_cons (ed_var rfl r5) (ea_cons (ed_op (ed_var rfl (.int _)) ed_int rd_addI) (ea_cons (ed_var rfl (.int _)) ea_nil))) ⟨w, _, _, rfl, pw, rfl⟩) ?_) fun v F4 H4 n4 r4 => q v F4 H4 ((n12.trans n3).trans n4) r4
    show _ = D.bl (true && if isNonD dd = true then _ else _)
    rw [if_neg (by rw [hb]; exact Bool.false_ne_true)]; rfl
theorem ok_is_plan {f : Addr} {fd : FuncData} (F : Fun K "is_plan" "is_plan" s_is_plan f fd) (T : Txt K mg A) (c_is_pair : Df P w K mg base CX0 1 "is_pair" P_is_pair (spR R_is_pair)) (c_is_list : Df P w K mg base CX0 1 "is_list" P_is_list (spR R_is_list)) (c_are_ways : Df P w K mg base CX0 3 "are_ways" P_are_ways (spR R_are_waysN)) (c_is_row : Df P w K mg base CX0 4 "is_row" P_is_row (spR R_is_rowN))  : FnOk P w K mg base CX0 5 f fd P_is_plan (spR R_is_planN) := by
  refine F.ok sc_is_plan (len_R fun ds d h => by obtain ⟨_, _, rfl, _⟩ := h; rfl) (fun cdv A0 outer s H vs Q E hr h => ?_)
  have hu := hu64 hr
  obtain ⟨F0, ds, d, e0, r0, ⟨x, n, rfl, pu, rfl⟩, q⟩ := h
  obtain ⟨v0, _, rfl, h0, r0⟩ := r0.uncons
  obtain ⟨v1, _, rfl, h1, r0⟩ := r0.uncons
  obtain rfl := r0.unnil
  obtain rfl := h1.eint
  refine ⟨_, (pss_cons (ps_if (pt_not (pt_val (pe_df c_is_pair hr (by decide) pass0 (pa_cons (pv 0) pa_nil)))) 
        (pss_one (ps_ret pe_bl)) pss_nil)
      (pss_cons (ps_asg (pv 0) (pg_tup rfl (pgs_cons (pg_name (i := 2) sc_is_plan.nd rfl (by first | exact Or.inl rfl | exact Or.inr rfl)) (pgs_cons (pg_name (i := 3) sc_is_plan.nd rfl (by first | exact Or.inl rfl | exact Or.inr rfl)) pgs_nil))))
      (pss_cons (ps_if (PW.pt (pw_or (pt_not (pt_val (pe_df c_is_list hr (by decide) pass0 (pa_cons (pv 3) (pa_cons pe_int (pa_cons (pe_glob (v := .int 300) rfl T.c_MOST_ROWS.choose_spec ⟨_, rfl⟩) pa_nil)))))) (pw_or1 (pt_not (pt_val (pe_df c_are_ways hr (by decide) pass0 (pa_cons (pv 2) (pa_cons pe_int (pa_cons (pe_callB (len_K K) (by rfl) T.m_len bt_len (pa_cons (pv 3) pa_nil)) pa_nil))))))))) 
        (pss_one (ps_ret pe_bl)) pss_nil)
      (pss_cons (ps_for PassesOwn.never rfl (pi_enum (by rfl) T.m_enumerate (pa_cons (pv 3) pa_nil)) (pg_tup rfl (pgs_cons (pg_name (i := 4) sc_is_plan.nd rfl (by first | exact Or.inl rfl | exact Or.inr rfl)) (pgs_cons (pg_name (i := 5) sc_is_plan.nd rfl (by first | exact Or.inl rfl | exact Or.inr rfl)) pgs_nil))) 
        (pss_one (ps_if (pt_not (pt_val (pe_df c_is_row hr (by decide) pass0 (pa_cons (pv 5) (pa_cons (pv 1) (pa_cons (pv 4) (pa_cons (pe_callB (len_K K) (by rfl) T.m_len bt_len (pa_cons (pv 3) pa_nil)) pa_nil))))))) 
          (pss_one (ps_ret pe_bl)) pss_nil)))
      (pss_one (ps_ret pe_bl)))))), ?_⟩
  refine q_when (b := !isPair x) e0 (et_not (et_B (ed_call (ea_cons (ed_var rfl h0) ea_nil) ⟨x, rfl, pu.no, rfl⟩))) (fun hb H1 n1 => ?_) (fun hb H1 n1 => ?_)
  · refine s_ret n1.fh (ED.is (ed_bl (b := false)) ?_) fun v F2 H2 n2 r2 => q v F2 H2 (n1.trans n2) r2
    rw [isPlan_no (show isPair x = false by simpa using hb)]
  obtain ⟨w, rs, rfl⟩ := isPair_yes (show isPair x = true by simpa using hb)
  have pw := pu.memT (x := w) (by simp)
  have pr := pu.memT (x := rs) (by simp)
  refine q_tup2 n1.fh (ed_var rfl h0) fun v2 v3 F1 H2 n2 r2 r3 => ?_
  have n12 := n1.trans n2
  have fin : isPlan (.tup [w, rs]) n = false → ∀ F' H3, Nx F0 H F' H3 → ∀ v F2 H2, Nx F' H3 F2 H2 → Rp F2 v (.bl false) → Q v H2 := fun z F' H3 n3 v F2 H2 n2 r2 => q v F2 H2 (n3.trans n2) (by rw [z]; exact r2)
  refine q_when (b := !isList rs 0 300 || !areWays w 0 (lenD rs)) n2.fh (et_or (et_not (et_B (ed_call (ea_cons (ed_var rfl r3) (ea_cons ed_int (ea_cons ed_int ea_nil))) ⟨rs, 0, 300, rfl, pr.no, rfl⟩))) fun hl => et_not (et_B ?_)) (fun hb H3 n3 => ?_) (fun hb H3 n3 => ?_)
  · obtain ⟨ys, rfl, _⟩ := isList_yes (show isList rs 0 300 = true by simpa using hl)
    exact ed_call (ea_cons (ed_var rfl r2) (ea_cons ed_int (ea_cons (ed_cb (ea_cons (ed_var rfl r3) ea_nil) rl_lenL) ea_nil))) ⟨w, 0, _, rfl, pw, rfl⟩
  · exact s_ret n3.fh ed_bl (fin (isPlan_no2 hb) _ _ (n12.trans n3))
  have hL : isList rs 0 300 = true := by
    cases h : isList rs 0 300 with
    | true => rfl
    | false => rw [h] at hb; cases hb
  obtain ⟨rs, rfl, _, hl⟩ := isList_yes hL
  have hW : areWays w 0 (rs.length : Int) = true := by
    cases h : areWays w 0 (rs.length : Int) with
    | true => rfl
    | false => rw [show lenD (.lst rs) = (rs.length : Int) from rfl, h, hL] at hb; cases hb
  have eP : isPlan (.tup [w, .lst rs]) n = rowsOk n rs := by
    show (decide (rs.length ≤ 300) && areWays w 0 rs.length && rowsOk n rs) = _
    rw [hW, decide_eq_true (show rs.length ≤ 300 by omega)]; rfl
  refine q_forE (ds := rs) n3.fh (ea_cons (ed_var rfl r3) ea_nil) fun F3 H4 n4 => ?_
  have n14 := (n12.trans n3).trans n4
  refine ⟨fun i σ' H' => ∃ y z, σ' = [some v0, some (.int n), some v2, some v3, y, z] ∧ Nx F0 H F3 H' ∧ ∀ j r, j < i → rs[j]? = some r → isRow r n j rs.length = true, ⟨none, none, rfl, n14, fun j r hj => absurd hj (by omega)⟩, fun i σ' H' p => ?_, fun i v d σ' H' H'' hd rd p e'' => ?_, fun σ' H' p => ?_⟩
  · obtain ⟨_, _, _, nx, _⟩ := p; exact nx.fh
  · obtain ⟨y, z, rfl, nx, ha⟩ := p
    have nx := nx.up e''
    have hm := List.mem_of_getElem? hd
    have pd := pr.mem hm
    refine s_if (b := !isRow d n i rs.length) nx.fh (et_not (et_B (ed_call (ea_cons (ed_var rfl rd) (ea_cons (ed_var rfl (.int _)) (ea_cons (ed_var rfl (.int _)) (ea_cons (ed_cb (ea_cons (ed_var rfl (r3.mono n4.f)) ea_nil) rl_lenL) ea_nil)))) ⟨d, _, _, _, rfl, pd, rfl⟩))) (fun hb H5 n5 => ?_) (fun hb H5 n5 => ?_)
    · refine s_ret n5.fh ed_bl (fin ?_ _ _ (nx.trans n5))
      rw [eP, Bool.eq_false_iff]
      intro y
      rw [rowsOk_iff.mp y i d hd] at hb
      cases hb
    · refine ⟨_, _, rfl, nx.trans n5, fun j r hj hr => ?_⟩
      by_cases e : j = i
      · subst e
        rw [hd] at hr
        obtain rfl := Option.some.inj hr
        simpa using hb
      · exact ha j r (by omega) hr
  · obtain ⟨y, z, rfl, nx, ha⟩ := p
    refine s_ret nx.fh (ED.is (ed_bl (b := true)) ?_) fun v F1 H2 n2 r2 => q v F1 H2 (nx.trans n2) r2
    rw [eP, rowsOk_iff.mpr fun i r hr => ha i r (List.getElem?_eq_some_iff.mp hr).1 hr]
theorem ok_written_ways {f : Addr} {fd : FuncData} (F : Fun K "written_ways" "written_ways" s_written_ways f fd) (T : Txt K mg A)   : FnOk P w K mg base CX0 1 f fd P_written_ways (spR R_wways) := by
  refine F.ok sc_written_ways (len_R fun ds d h => by obtain ⟨_, _, _, rfl, _⟩ := h; rfl) (fun cdv A0 outer s H vs Q E hr h => ?_)
  have hu := hu64 hr
  obtain ⟨F0, ds, d, e0, r0, ⟨a, b, ws, rfl, hw, ha, hb, rfl⟩, q⟩ := h
  obtain ⟨v0, _, rfl, h0, r0⟩ := r0.uncons
  obtain rfl := r0.unnil
  have l10 := hw.len
  refine ⟨_, (pss_one (ps_ret (join_pe K pe_str (pe_lc (own := [("look", 1), ("place", 2)]) (g := gTup K 2 (gCons (gName 1) (gCons (gName 2) gNil))) (tt := tYes) rfl sc_written_ways.nd (il_K K (pv 0)) (blkOk_by (N := N_written_ways) (sc := defScope s_written_ways) (by decide +kernel)) (fun _ _ _ _ _ => by exact (pg_tup rfl (pgs_cons (pg_name (i := 1) sc_written_ways.nd rfl (by first | exact Or.inl rfl | exact Or.inr rfl)) (pgs_cons (pg_name (i := 2) sc_written_ways.nd rfl (by first | exact Or.inl rfl | exact Or.inr rfl)) pgs_nil)))) (fun _ _ _ _ _ => by exact pts_nil) (fun _ _ _ _ _ => by exact (pe_joined (PJ.cons pe_str (PJ.cons (pe_fmt (pv 1)) (PJ.cons pe_str (PJ.cons (pe_fmt (pv 2)) PJ.nil)))))))))), ?_⟩
  have sum : ((ws.map wayS).map List.length).sum ≤ 60 := by
    have := ways_len hw ha hb
    unfold waysS at this
    rwa [List.length_flatten] at this
  refine s_ret e0 (ED.is (ed_join (a := []) (ys := ws.map wayS) (ED.is (ed_lit "") (by rw [show lit "" = [] from rfl])) (ED.is (ed_lcP (emb := wayD) (e1 := fun w : Int × Int => .int w.1) (e2 := fun w : Int × Int => .int w.2) (xs := ws) (fun _ => rfl) (fun _ => true) (fun w => sD (wayS w)) (ed_var rfl h0) (by omega) (fun _ _ => rfl) (fun _ _ _ _ _ _ _ _ => et_yes) (fun w v u F1 hm e1 rv ru _ => by
    have := goodWays_at hw w hm
    exact ed_wayF rfl rfl rv.eint ru.eint this.1 this.2.1 (by omega) (by omega))) (by rw [filter_yes, List.map_map]; rfl)) (by rw [List.length_nil, Nat.mul_zero]; omega)) (by rw [joinL_nil]; rfl)) q
theorem ok_written_row {f : Addr} {fd : FuncData} (F : Fun K "written_row" "written_row" s_written_row f fd) (T : Txt K mg A) (c_written_ways : Df P w K mg base CX0 1 "written_ways" P_written_ways (spR R_wways))  : FnOk P w K mg base CX0 2 f fd P_written_row (spR R_wrow) := by
  refine F.ok sc_written_row (len_R fun ds d h => by obtain ⟨_, _, _, _, rfl, _⟩ := h; rfl) (fun cdv A0 outer s H vs Q E hr h => ?_)
  have hu := hu64 hr
  obtain ⟨F0, ds, d, e0, r0, ⟨n, i, b, r, rfl, gr, hi, hn, hb, rfl⟩, q⟩ := h
  obtain ⟨v0, _, rfl, h0, r0⟩ := r0.uncons
  obtain ⟨v1, _, rfl, h1, r0⟩ := r0.uncons
  obtain rfl := r0.unnil
  obtain ⟨k, ws⟩ := r
  refine ⟨_, (pss_cons (ps_if (pt_cmpR op_isN1 (pv 0) pe_non (nomark _)) 
        (pss_one (ps_ret (pe_glob (v := .str "there") rfl T.c_THERE.choose_spec ⟨_, rfl⟩))) pss_nil)
      (pss_one (ps_ret (pe_op op_addS (pe_callTy strI_cr (by rfl) T.m_str bt_str (pa_cons (pv 0) pa_nil)) (pe_df c_written_ways hr (by decide) pass0 (pa_cons (pv 1) pa_nil)))))), ?_⟩
  cases k with
  | none =>
    have e : ws = [] := gr
    subst e
    refine q_when (b := true) e0 (et_test (ED.is (ed_op (ed_var rfl h0) ed_non rd_isN) rfl)) (fun _ H1 n1 => ?_) (fun hb => nomatch hb)
    exact s_ret n1.fh (ED.is (ed_lit "there") (by unfold rowS; show sD (lit "there") = sD (lit "there" ++ waysS []); rw [show waysS [] = [] from rfl, List.append_nil])) fun v F2 H2 n2 r2 => q v F2 H2 (n1.trans n2) r2
  | some k =>
    obtain rfl := h0.eint
    have l3 := ways_len gr.2.2 (by omega) hb
    have l1 : (numS k).length ≤ 1 := num_len1 gr.1 (by have := gr.2.1; omega)
    refine q_when (b := false) e0 (et_test (ED.is (ed_op (ed_var rfl (.int k)) ed_non rd_isN) rfl)) (fun hb => nomatch hb) (fun _ H1 n1 => ?_)
    exact s_ret n1.fh (ed_op (ed_cb (ea_cons (ed_var rfl (.int k)) ea_nil) (rl_strT gr.1 (by have := gr.2.1; omega))) (ed_call (ea_cons (ed_var rfl h1) ea_nil) ⟨_, _, ws, rfl, gr.2.2, by omega, hb, rfl⟩) (rd_addT (by omega))) fun v F2 H2 n2 r2 => q v F2 H2 (n1.trans n2) r2
theorem ok_written {f : Addr} {fd : FuncData} (F : Fun K "written" "written" s_written f fd) (T : Txt K mg A) (c_written_row : Df P w K mg base CX0 2 "written_row" P_written_row (spR R_wrow)) (c_written_ways : Df P w K mg base CX0 1 "written_ways" P_written_ways (spR R_wways))  : FnOk P w K mg base CX0 3 f fd P_written (spR R_written) := by
  refine F.ok sc_written (len_R fun ds d h => by obtain ⟨_, rfl, _⟩ := h; rfl) (fun cdv A0 outer s H vs Q E hr h => ?_)
  have hu := hu64 hr
  obtain ⟨F0, ds, d, e0, r0, ⟨p, rfl, gp, rfl⟩, q⟩ := h
  obtain ⟨v0, _, rfl, h0, r0⟩ := r0.uncons
  obtain rfl := r0.unnil
  have l3 := gp.l
  have lw := ways_len gp.w (by decide) (by omega)
  have lb : (lit "begin").length = 5 := by decide +kernel
  have lr : ∀ r ∈ p.2, (rowS r).length ≤ 65 := fun r hr => by
    obtain ⟨i, hi⟩ := List.mem_iff_getElem?.mp hr
    exact row_len (gp.r i r hi) (Int.natCast_nonneg i) (by decide) (by omega)
  refine ⟨_, (pss_cons (ps_asg (pv 0) (pg_tup rfl (pgs_cons (pg_name (i := 1) sc_written.nd rfl (by first | exact Or.inl rfl | exact Or.inr rfl)) (pgs_cons (pg_name (i := 2) sc_written.nd rfl (by first | exact Or.inl rfl | exact Or.inr rfl)) pgs_nil))))
      (pss_cons (ps_set (i := 3) sc_written.nd rfl (by first | exact Or.inl rfl | exact Or.inr rfl) (pe_op op_addA (pe_lst (pa_cons (pe_op op_addS (pe_glob (v := .str "begin") rfl T.c_BEGIN.choose_spec ⟨_, rfl⟩) (pe_df c_written_ways hr (by decide) pass0 (pa_cons (pv 1) pa_nil))) pa_nil)) (pe_lc (own := [("deed", 4), ("onward", 5)]) (g := gTup K 2 (gCons (gName 4) (gCons (gName 5) gNil))) (tt := tYes) rfl sc_written.nd (il_K K (pv 2)) (blkOk_by (N := N_written) (sc := defScope s_written) (by decide +kernel)) (fun _ _ _ _ _ => by exact (pg_tup rfl (pgs_cons (pg_name (i := 4) sc_written.nd rfl (by first | exact Or.inl rfl | exact Or.inr rfl)) (pgs_cons (pg_name (i := 5) sc_written.nd rfl (by first | exact Or.inl rfl | exact Or.inr rfl)) pgs_nil)))) (fun _ _ _ _ _ => by exact pts_nil) (fun _ _ _ _ _ => by exact (pe_df c_written_row hr (by decide) pass0 (pa_cons (pv 4) (pa_cons (pv 5) pa_nil)))))))
      (pss_one (ps_ret (join_pe K pe_str (pe_lc (own := [("line", 6)]) (g := gName 6) (tt := tYes) rfl sc_written.nd (il_K K (pv 3)) (blkOk_by (N := N_written) (sc := defScope s_written) (by decide +kernel)) (fun _ _ _ _ _ => by exact (pg_name (i := 6) sc_written.nd rfl (by first | exact Or.inl rfl | exact Or.inr rfl))) (fun _ _ _ _ _ => by exact pts_nil) (fun _ _ _ _ _ => by exact (pe_op op_addS (pv 6) pe_str)))))))), ?_⟩
  refine q_tup2 e0 (ed_var rfl h0) fun v1 v2 F1 H1 n1 h1 h2 => ?_
  have h2 : Rp F1 v2 (.lst (p.2.map rowD)) := h2
  obtain ⟨ls, els⟩ : ∃ ls, ls = (lit "begin" ++ waysS p.1) :: p.2.map rowS := ⟨_, rfl⟩
  refine q_asg (d := .lst (ls.map sD)) n1.fh (ED.is (ed_op (ed_lst (ds := [sD (lit "begin" ++ waysS p.1)]) (ea_cons (ed_op (ed_lit "begin") (ed_call (ea_cons (ed_var rfl h1) ea_nil) ⟨_, _, _, rfl, gp.w, by decide, by omega, rfl⟩) (rd_addT (by omega))) ea_nil) (by show 1 ≤ 100000; decide)) (ed_lcP (emb := rowD) (e1 := fun r : Rw => dpD r.1) (e2 := fun r : Rw => waysD r.2) (xs := p.2) (fun _ => rfl) (fun _ => true) (fun r => sD (rowS r)) (ed_var rfl h2) (by omega) (fun _ _ => rfl) (fun _ _ _ _ _ _ _ _ => et_yes) (fun r v u F3 hm e1 rv ru _ => by
    obtain ⟨i, hi⟩ := List.mem_iff_getElem?.mp hm
    exact ed_call (ea_cons (ed_var rfl rv) (ea_cons (ed_var rfl ru) ea_nil)) ⟨_, _, _, r, rfl, gp.r i r hi, Int.natCast_nonneg i, by decide, by omega, rfl⟩)) (rd_addL (by rw [List.length_map, filter_yes]; show 1 + _ ≤ _; omega))) (by rw [els, filter_yes, List.map_cons, List.map_map]; rfl)) fun v3 F3 H3 n3 h3 => ?_
  have ll : ls.length ≤ 301 := by rw [els, List.length_cons, List.length_map]; omega
  have each : ∀ l ∈ ls, l.length ≤ 65 := fun l hl => by
    rw [els] at hl
    rcases List.mem_cons.mp hl with z | z
    · rw [z, List.length_append]; omega
    · obtain ⟨r, hr, rfl⟩ := List.mem_map.mp z
      exact lr r hr
  have tot := flat_len (xs := ls.map fun l => l ++ [10]) (k := 66) fun x hx => by
    obtain ⟨l, hl, rfl⟩ := List.mem_map.mp hx
    have := each l hl
    rw [List.length_append, List.length_singleton]; omega
  rw [List.length_flatten, List.length_map] at tot
  refine s_ret n3.fh (ED.is (ed_join (a := []) (ys := ls.map fun l => l ++ [10]) (ED.is (ed_lit "") (by rw [show lit "" = [] from rfl])) (ED.is (ed_lc (emb := sD) (xs := ls) (fun _ => true) (fun l => sD (l ++ [10])) (ed_var rfl h3) (by omega) (fun _ => rfl) (fun _ _ _ _ _ _ => et_yes) (fun l v F4 hl e4 rv _ => ed_op (ed_var rfl rv) (ED.is (ed_lit "\n") (by rw [show lit "\n" = [10] from by decide +kernel])) (rd_addT (by have := each l hl; show _ + 1 ≤ _; omega)))) (by rw [filter_yes, List.map_map]; rfl)) (by rw [List.length_nil, Nat.mul_zero]; omega)) (by
    rw [joinL_nil, els, List.map_cons, List.flatten_cons, List.map_map]; rfl)) fun v F4 H4 n4 r4 => q v F4 H4 ((n1.trans n3).trans n4) r4
theorem ok_read_number {f : Addr} {fd : FuncData} (F : Fun K "read_number" "read_number" s_read_number f fd) (T : Txt K mg A)   : FnOk P w K mg base (L2.CX P w) 1 f fd P_read_number (spZ R_rn A.bt) := by
  refine F.okX sc_read_number (len_Z fun ds o h => by obtain ⟨l, rfl, _⟩ := h; rfl) (fun cdv A0 outer s H vs Q E hr h => ?_)
  have hu := hu64 hr
  obtain ⟨F0, ds, o, e0, r0, ⟨l, rfl, hl, rfl⟩, q, x⟩ := h
  obtain ⟨v0, _, rfl, h0, r0⟩ := r0.uncons
  obtain rfl := r0.unnil
  refine ⟨_, (pss_cons (ps_if (PW.pt (pw_or (pt_not (pt_chain op_le op_le pe_int (pe_callB lenX_cr (by rfl) T.m_len bt_len (pa_cons (pv 0) pa_nil)) (pe_glob (v := .int 3) rfl T.c_MOST_FIGURES.choose_spec ⟨_, rfl⟩))) (pw_or1 (PW.pt (pw_and (pt_cmpR op_ne (pv 0) pe_str (nomark _)) (pw_and1 (pt_cmpR op_eq (pe_ix (ix_K K) (pv 0) pe_int (fun _ _ => rfl)) pe_str (nomark _)))))))) 
        (pss_one (ps_raise rfl (takes_of rfl rfl rfl rfl) (pmk_own PySem.F.excBase_ValueError T.BadText.x T.BadText.g T.BadText.k (raises_own T.BadText.s T.BadText.t) rfl))) pss_nil)
      (pss_cons (ps_for (passes_of rfl) rfl (pi_str (pv 0)) (pg_name (i := 1) sc_read_number.nd rfl (by first | exact Or.inl rfl | exact Or.inr rfl)) 
        (pss_one (ps_if (pt_cmpR niC_op (pv 1) (pe_glob (v := .str "0123456789") rfl T.c_FIGURES.choose_spec ⟨_, rfl⟩) (by with_unfolding_all rfl)) 
          (pss_one (ps_raise rfl (takes_of rfl rfl rfl rfl) (pmk_own PySem.F.excBase_ValueError T.BadText.x T.BadText.g T.BadText.k (raises_own T.BadText.s T.BadText.t) rfl))) pss_nil)))
      (pss_one (ps_ret (pe_callTy intT_cr (by rfl) T.m_int bt_int (pa_cons (pv 0) pa_nil)))))), ?_⟩
  have no : numOk l = false → ∀ H2, Ex H H2 → E (.ref A.bt) none H2 := fun z H2 x2 => x (by unfold numV; rw [if_neg (by rw [z]; exact Bool.false_ne_true)]; rfl) H2 x2
  refine q_when (b := !(decide ((1 : Int) ≤ (l.length : Int)) && decide ((l.length : Int) ≤ 3)) || (!decide (l = [48]) && decide (l.head? = some 48))) e0 (et_or (a := !(decide ((1 : Int) ≤ (l.length : Int)) && decide ((l.length : Int) ≤ 3))) (et_not (et_test (ed_chain ed_int (ed_cb (ea_cons (ed_var rfl h0) ea_nil) (rl_lenS (by omega))) rd_le (fun _ => ed_int) fun _ => rd_le))) fun ha => ?_) (fun hb H1 n1 => no ?_ H1 n1.h) (fun hb H1 n1 => ?_)
  · have ha : (decide ((1 : Int) ≤ (l.length : Int)) && decide ((l.length : Int) ≤ 3)) = true := by simpa using ha
    cases l with
    | nil => simp at ha
    | cons c l =>
      refine et_and (a := !decide (c :: l = [48])) (et_test (ED.is (ed_neT (ed_var rfl h0) (ed_lit "0")) (by rw [lit0]))) fun _ => et_test (ED.is (ed_eqT (a := [c]) (ed_op (ed_var rfl h0) ed_int (rd_ixs (show atI (c :: l) ((0 : Nat) : Int) = some c from atI_nat rfl) (by omega))) (ed_lit "0")) (by rw [lit0]; simp))
  · unfold numOk
    rw [Bool.eq_false_iff]
    intro z
    simp only [Bool.and_eq_true, Bool.or_eq_true, Bool.not_eq_true', decide_eq_true_eq, decide_eq_false_iff_not] at z
    obtain ⟨⟨z1, z2⟩, _⟩ := z
    rw [Bool.or_eq_true] at hb
    rcases hb with hb | hb
    · rw [Bool.not_eq_true', Bool.and_eq_false_iff, decide_eq_false_iff_not, decide_eq_false_iff_not] at hb
      omega
    · rw [Bool.and_eq_true, Bool.not_eq_true', decide_eq_false_iff_not, decide_eq_true_eq] at hb
      rcases z2 with z2 | z2
      · exact hb.1 z2
      · exact z2 hb.2
  · have hb : (1 ≤ l.length ∧ l.length ≤ 3) ∧ (l = [48] ∨ l.head? ≠ some 48) := by
      simp only [Bool.or_eq_false_iff, Bool.not_eq_false', Bool.and_eq_true, Bool.and_eq_false_iff, decide_eq_true_eq, decide_eq_false_iff_not] at hb
      exact ⟨by omega, hb.2⟩
    refine q_forT' n1.fh (ed_var rfl h0) fun F2 H2 n2 => ?_
    refine ⟨fun n σ' H' => ∃ y, σ' = [some v0, y] ∧ Ex H H' ∧ ∀ c ∈ l.take n, isDig c = true, ⟨none, rfl, n1.h.trans n2.h, fun c z => by simp at z⟩, fun n c σ' H' hc p => ?_, fun σ' H' p => ?_⟩
    · obtain ⟨y, rfl, x1, all⟩ := p
      refine s_if (b := !isDig c) (e0.trans x1) (et_test (ED.is (ed_op (ed_var rfl (.str (SX.S [c]))) (ed_lit "0123456789") rd_niC) (by rw [dig_in]))) (fun hb H3 n3 => no ?_ H3 (x1.trans n3.h)) (fun hb H3 n3 => ⟨_, rfl, x1.trans n3.h, fun c' hc' => ?_⟩)
      · unfold numOk
        rw [Bool.and_eq_false_iff]; right
        rw [List.all_eq_false]
        exact ⟨c, List.mem_of_getElem? hc, by simpa using hb⟩
      · rw [List.take_add_one, hc] at hc'
        rcases List.mem_append.mp hc' with z | z
        · exact all c' z
        · have : c' = c := by simpa using z
          rw [this]; simpa using hb
    · obtain ⟨y, rfl, x1, all⟩ := p
      rw [List.take_length] at all
      have ok : numOk l = true := by
        unfold numOk
        simp only [Bool.and_eq_true, Bool.or_eq_true, Bool.not_eq_true', decide_eq_true_eq, decide_eq_false_iff_not]
        exact ⟨⟨hb.1, hb.2⟩, List.all_eq_true.mpr all⟩
      have nv : numV l = some ((NumText.digitsVal l : Nat) : Int) := if_pos ok
      refine s_ret (e0.trans x1) (ed_cb (ea_cons (ed_var rfl h0) ea_nil) (rl_intT (a := l) (n := 0) (List.all_eq_true.mpr fun c hc => all c hc) (fun z => by rw [z] at hb; simp at hb) (by omega))) fun v F3 H3 n3 r3 => ?_
      exact q _ v F3 H3 (by rw [nv]; rfl) (((Nx.refl e0).up x1).trans n3) r3
theorem ok_read_way {f : Addr} {fd : FuncData} (F : Fun K "read_way" "read_way" s_read_way f fd) (T : Txt K mg A) (c_read_number : Df P w K mg base (L2.CX P w) 1 "read_number" P_read_number (spZ R_rn A.bt))  : FnOk P w K mg base (L2.CX P w) 2 f fd P_read_way (spZ R_rw A.bt) := by
  refine F.okX sc_read_way (len_Z fun ds o h => by obtain ⟨l, rfl, _⟩ := h; rfl) (fun cdv A0 outer s H vs Q E hr h => ?_)
  have hu := hu64 hr
  obtain ⟨F0, ds, o, e0, r0, ⟨l, rfl, hl, rfl⟩, q, x⟩ := h
  obtain ⟨v0, _, rfl, h0, r0⟩ := r0.uncons
  obtain rfl := r0.unnil
  have pl := par_len 58 l
  refine ⟨_, (pss_cons (ps_asg (part_pe (pv 0) pe_str) (pg_tup rfl (pgs_cons (pg_name (i := 1) sc_read_way.nd rfl (by first | exact Or.inl rfl | exact Or.inr rfl)) (pgs_cons (pg_name (i := 2) sc_read_way.nd rfl (by first | exact Or.inl rfl | exact Or.inr rfl)) (pgs_cons (pg_name (i := 3) sc_read_way.nd rfl (by first | exact Or.inl rfl | exact Or.inr rfl)) pgs_nil)))))
      (pss_one (ps_ret (pe_tup (pa_cons (pe_df c_read_number hr (by decide) (passes_call (takes_of rfl rfl rfl rfl) fun _ _ _ _ h => h) (pa_cons (pv 1) pa_nil)) (pa_cons (pe_df c_read_number hr (by decide) (passes_call (takes_of rfl rfl rfl rfl) fun _ _ _ _ h => h) (pa_cons (pv 3) pa_nil)) pa_nil)))))), ?_⟩
  refine q_tup3 e0 (ED.is (ed_part (c := 58) (ed_var rfl h0) (ED.is (ed_lit ":") (by rw [show lit ":" = [58] from by decide +kernel])) (by omega)) rfl) fun v1 v2 v3 F1 H1 n1 h1 h2 h3 => ?_
  refine s_retE n1.fh (ez_tup (ez_call (ea_cons (ed_var rfl h1) ea_nil) ⟨_, rfl, by omega, rfl⟩) (ez_call (ea_cons (ed_var rfl h3) ea_nil) ⟨_, rfl, by omega, rfl⟩)) (fun z H2 x2 => x ?_ H2 (n1.h.trans x2)) fun d v F2 H2 z n2 r2 => q d v F2 H2 ?_ (n1.trans n2) r2
  · rw [← z]; unfold wayV
    cases numV (parC 58 l).1 <;> first | rfl | (cases numV (parC 58 l).2.2 <;> rfl)
  · rw [← z]; unfold wayV
    cases numV (parC 58 l).1 <;> first | rfl | (cases numV (parC 58 l).2.2 <;> rfl)
theorem ok_read_ways {f : Addr} {fd : FuncData} (F : Fun K "read_ways" "read_ways" s_read_ways f fd) (T : Txt K mg A) (c_read_way : Df P w K mg base (L2.CX P w) 2 "read_way" P_read_way (spZ R_rw A.bt))  : FnOk P w K mg base (L2.CX P w) 3 f fd P_read_ways (spZ R_rws A.bt) := by
  refine F.okX sc_read_ways (len_Z fun ds o h => by obtain ⟨l, rfl, _⟩ := h; rfl) (fun cdv A0 outer s H vs Q E hr h => ?_)
  have hu := hu64 hr
  obtain ⟨F0, ds, o, e0, r0, ⟨ws, rfl, hz, hl, rfl⟩, q, x⟩ := h
  obtain ⟨v0, _, rfl, h0, r0⟩ := r0.uncons
  obtain rfl := r0.unnil
  refine ⟨_, (pss_one (ps_ret (pe_lcX (own := [("word", 1)]) (g := gName 1) (tt := tYes) rfl sc_read_ways.nd rfl rfl (takes_of rfl rfl rfl rfl) (il_K K (pv 0)) (blkOk_by (N := N_read_ways) (sc := defScope s_read_ways) (by decide +kernel)) (fun _ _ _ _ _ _ => by exact (pg_name (i := 1) sc_read_ways.nd rfl (by first | exact Or.inl rfl | exact Or.inr rfl))) (fun _ _ _ _ _ _ => by exact pts_nil) (fun _ _ _ _ _ _ pa => by exact (pe_df c_read_way hr (by decide) pa (pa_cons (pv 1) pa_nil)))))), ?_⟩
  have e : ((ws.mapM fun w => (wayV w).map wayD).map D.lst) = (waysV ws).map waysD := by
    rw [mapM_map]; unfold waysV
    cases ws.mapM wayV <;> rfl
  refine s_retE e0 (EZ.is (ez_lc (f := fun w => (wayV w).map wayD) (ed_var rfl h0) (by omega) (fun _ => rfl) fun w v F1 hw e1 rv => ez_call (ea_cons (ed_var rfl rv) ea_nil) ⟨w, rfl, by have := hl w hw; omega, rfl⟩) e) x fun d v F2 H2 z n2 r2 => q d v F2 H2 z n2 r2
theorem ok_read_begin {f : Addr} {fd : FuncData} (F : Fun K "read_begin" "read_begin" s_read_begin f fd) (T : Txt K mg A) (c_read_ways : Df P w K mg base (L2.CX P w) 3 "read_ways" P_read_ways (spZ R_rws A.bt))  : FnOk P w K mg base (L2.CX P w) 4 f fd P_read_begin (spZ R_rb A.bt) := by
  refine F.okX sc_read_begin (len_Z fun ds o h => by obtain ⟨l, rfl, _⟩ := h; rfl) (fun cdv A0 outer s H vs Q E hr h => ?_)
  have hu := hu64 hr
  obtain ⟨F0, ds, o, e0, r0, ⟨l, rfl, hl, rfl⟩, q, x⟩ := h
  obtain ⟨v0, _, rfl, h0, r0⟩ := r0.uncons
  obtain rfl := r0.unnil
  have cl := cut_len (c := 32) l
  have cp := cut_part (c := 32) l
  have cc := cut_cons 32 l
  rw [cc] at cl cp
  rw [List.length_cons] at cl
  refine ⟨_, (pss_cons (ps_asg (split_pe (pv 0) pe_str) (pg_star (n := 2) (i := 1) rfl (pgs_cons (pg_name (i := 1) sc_read_begin.nd rfl (by first | exact Or.inl rfl | exact Or.inr rfl)) (pgs_starred (pg_name (i := 2) sc_read_begin.nd rfl (by first | exact Or.inl rfl | exact Or.inr rfl)) pgs_nil)) (by decide)))
      (pss_cons (ps_if (pt_cmpR op_ne (pv 1) (pe_glob (v := .str "begin") rfl T.c_BEGIN.choose_spec ⟨_, rfl⟩) (nomark _)) 
        (pss_one (ps_raise rfl (takes_of rfl rfl rfl rfl) (pmk_own PySem.F.excBase_ValueError T.BadText.x T.BadText.g T.BadText.k (raises_own T.BadText.s T.BadText.t) rfl))) pss_nil)
      (pss_one (ps_ret (pe_df c_read_ways hr (by decide) (passes_call (takes_of rfl rfl rfl rfl) fun _ _ _ _ h => h) (pa_cons (pv 2) pa_nil)))))), ?_⟩
  refine q_starR (d := sD (hdC 32 l)) (ds := (tlC 32 l).map sD) e0 (ED.is (ed_split (c := 32) (ed_var rfl h0) (ED.is (ed_lit " ") (by rw [show lit " " = [32] from by decide +kernel])) (by decide) (by omega)) (by rw [cc]; rfl)) (by rw [List.length_map]; omega) fun v1 v2 F1 H1 n1 h1 h2 => ?_
  show tSeq _ _ _ ([some v0, some v1, some v2] : L2.St) _
  refine q_when (b := !decide (hdC 32 l = lit "begin")) n1.fh (et_test (ed_neT (ed_var rfl h1) (ed_lit "begin"))) (fun hb H2 n2 => x ?_ H2 (n1.h.trans n2.h)) (fun hb H2 n2 => ?_)
  · unfold beginV
    rw [if_neg (by simpa using hb)]; rfl
  · have hb : hdC 32 l = lit "begin" := by simpa using hb
    refine s_retE n2.fh (ez_call (ea_cons (ed_var rfl h2) ea_nil) ⟨tlC 32 l, rfl, by omega, fun w hw => by have := cp w (List.mem_cons_of_mem _ hw); omega, rfl⟩) (fun z H3 x3 => x (by unfold beginV; rw [if_pos hb]; exact z) H3 ((n1.h.trans n2.h).trans x3)) fun d v F3 H3 z n3 r3 => q d v F3 H3 (by unfold beginV; rw [if_pos hb]; exact z) ((n1.trans n2).trans n3) r3
theorem ok_read_row {f : Addr} {fd : FuncData} (F : Fun K "read_row" "read_row" s_read_row f fd) (T : Txt K mg A) (c_read_number : Df P w K mg base (L2.CX P w) 1 "read_number" P_read_number (spZ R_rn A.bt)) (c_read_ways : Df P w K mg base (L2.CX P w) 3 "read_ways" P_read_ways (spZ R_rws A.bt))  : FnOk P w K mg base (L2.CX P w) 4 f fd P_read_row (spZ R_rr A.bt) := by
  refine F.okX sc_read_row (len_Z fun ds o h => by obtain ⟨l, rfl, _⟩ := h; rfl) (fun cdv A0 outer s H vs Q E hr h => ?_)
  have hu := hu64 hr
  obtain ⟨F0, ds, o, e0, r0, ⟨l, rfl, hl, rfl⟩, q, x⟩ := h
  obtain ⟨v0, _, rfl, h0, r0⟩ := r0.uncons
  obtain rfl := r0.unnil
  have cl := cut_len (c := 32) l
  have cp := cut_part (c := 32) l
  have cc := cut_cons 32 l
  rw [cc] at cl cp
  rw [List.length_cons] at cl
  refine ⟨_, (pss_cons (ps_asg (split_pe (pv 0) pe_str) (pg_star (n := 2) (i := 1) rfl (pgs_cons (pg_name (i := 1) sc_read_row.nd rfl (by first | exact Or.inl rfl | exact Or.inr rfl)) (pgs_starred (pg_name (i := 2) sc_read_row.nd rfl (by first | exact Or.inl rfl | exact Or.inr rfl)) pgs_nil)) (by decide)))
      (pss_cons (ps_set (i := 3) sc_read_row.nd rfl (by first | exact Or.inl rfl | exact Or.inr rfl) (pe_ifExp (pt_cmpR op_eq (pv 1) (pe_glob (v := .str "there") rfl T.c_THERE.choose_spec ⟨_, rfl⟩) (nomark _)) pe_non (pe_df c_read_number hr (by decide) (passes_call (takes_of rfl rfl rfl rfl) fun _ _ _ _ h => h) (pa_cons (pv 1) pa_nil))))
      (pss_one (ps_ret (pe_tup (pa_cons (pv 3) (pa_cons (pe_df c_read_ways hr (by decide) (passes_call (takes_of rfl rfl rfl rfl) fun _ _ _ _ h => h) (pa_cons (pv 2) pa_nil)) pa_nil))))))), ?_⟩
  refine q_starR (d := sD (hdC 32 l)) (ds := (tlC 32 l).map sD) e0 (ED.is (ed_split (c := 32) (ed_var rfl h0) (ED.is (ed_lit " ") (by rw [show lit " " = [32] from by decide +kernel])) (by decide) (by omega)) (by rw [cc]; rfl)) (by rw [List.length_map]; omega) fun v1 v2 F1 H1 n1 h1 h2 => ?_
  have hd := cp (hdC 32 l) List.mem_cons_self
  show tSeq _ _ _ ([some v0, some v1, some v2, none] : L2.St) _
  refine q_asgE (o := (if hdC 32 l = lit "there" then some none else (numV (hdC 32 l)).map some).map dpD) n1.fh (ez_if (b := decide (hdC 32 l = lit "there")) (et_test (ed_eqT (ed_var rfl h1) (ed_lit "there"))) (fun hb => EZ.is (ez_of ed_non) (by rw [if_pos (of_decide_eq_true hb)]; rfl)) (fun hb => EZ.is (ez_call (ea_cons (ed_var rfl h1) ea_nil) ⟨_, rfl, by omega, rfl⟩) (by rw [if_neg (of_decide_eq_false hb)]; cases numV (hdC 32 l) <;> rfl))) (fun z H2 x2 => x ?_ H2 (n1.h.trans x2)) fun d v3 F2 H2 z n2 h3 => ?_
  · unfold rowV
    rw [Option.map_eq_none_iff] at z
    rw [z]; rfl
  · rw [Option.map_eq_some_iff] at z
    obtain ⟨k, hk, rfl⟩ := z
    show tRet _ _ ([some v0, some v1, some v2, some v3] : L2.St) _
    refine s_retE n2.fh (ez_tup (ez_of (ed_var rfl h3)) (ez_call (ea_cons (ed_var rfl (h2.mono n2.f)) ea_nil) ⟨tlC 32 l, rfl, by omega, fun w hw => by have := cp w (List.mem_cons_of_mem _ hw); omega, rfl⟩)) (fun z H3 x3 => x ?_ H3 ((n1.trans n2).h.trans x3)) fun d v F3 H3 z n3 r3 => q d v F3 H3 ?_ ((n1.trans n2).trans n3) r3
    · rw [← z]; unfold rowV; rw [hk]
      cases waysV (tlC 32 l) <;> rfl
    · rw [← z]; unfold rowV; rw [hk]
      cases waysV (tlC 32 l) <;> rfl
theorem ok_read {f : Addr} {fd : FuncData} (F : Fun K "read" "read" s_read f fd) (T : Txt K mg A) (c_read_begin : Df P w K mg base (L2.CX P w) 4 "read_begin" P_read_begin (spZ R_rb A.bt)) (c_is_plan : Df P w K mg base CX0 5 "is_plan" P_is_plan (spR R_is_planN)) (c_read_row : Df P w K mg base (L2.CX P w) 4 "read_row" P_read_row (spZ R_rr A.bt))  : FnOk P w K mg base (L2.CX P w) 6 f fd P_read (spZ R_rd A.bt) := by
  refine F.okX sc_read (len_Z fun ds o h => by obtain ⟨l, rfl, _⟩ := h; rfl) (fun cdv A0 outer s H vs Q E hr h => ?_)
  have hu := hu64 hr
  obtain ⟨F0, ds, o, e0, r0, ⟨t, rfl, hl, rfl⟩, q, x⟩ := h
  obtain ⟨v0, _, rfl, h0, r0⟩ := r0.uncons
  obtain rfl := r0.unnil
  have cl := cut_len (c := 10) t
  have cp := cut_part (c := 10) t
  have cc := cut_snoc 10 t
  rw [cc] at cl cp
  rw [List.length_append, List.length_singleton] at cl
  refine ⟨_, (pss_cons (ps_if (pt_cmpR isNT_op (pe_typD (by rfl) T.m_type (pv 0)) (pe_bltn (v := .ty "str") (by rfl) T.m_str bt_str rfl) (nomark _)) 
        (pss_one (ps_raise rfl (takes_of rfl rfl rfl rfl) (pmk_own PySem.F.excBase_ValueError T.BadText.x T.BadText.g T.BadText.k (raises_own T.BadText.s T.BadText.t) rfl))) pss_nil)
      (pss_cons (ps_asg (split_pe (pv 0) pe_str) (pg_star (n := 2) (i := 0) rfl (pgs_starred (pg_name (i := 1) sc_read.nd rfl (by first | exact Or.inl rfl | exact Or.inr rfl)) (pgs_cons (pg_name (i := 2) sc_read.nd rfl (by first | exact Or.inl rfl | exact Or.inr rfl)) pgs_nil)) (by decide)))
      (pss_cons (ps_if (PW.pt (pw_or (pt_cmpR (eq_K K hu) (pe_callB (len_K K) (by rfl) T.m_len bt_len (pa_cons (pv 1) pa_nil)) pe_int (nomark _)) (pw_or1 (pt_cmpR op_ne (pv 2) pe_str (nomark _))))) 
        (pss_one (ps_raise rfl (takes_of rfl rfl rfl rfl) (pmk_own PySem.F.excBase_ValueError T.BadText.x T.BadText.g T.BadText.k (raises_own T.BadText.s T.BadText.t) rfl))) pss_nil)
      (pss_cons (ps_set (i := 3) sc_read.nd rfl (by first | exact Or.inl rfl | exact Or.inr rfl) (pe_tup (pa_cons (pe_df c_read_begin hr (by decide) (passes_call (takes_of rfl rfl rfl rfl) fun _ _ _ _ h => h) (pa_cons (pe_ix (ix_K K) (pv 1) pe_int (fun _ _ => rfl)) pa_nil)) (pa_cons (pe_lcX (own := [("line", 4)]) (g := gName 4) (tt := tYes) rfl sc_read.nd rfl rfl (takes_of rfl rfl rfl rfl) (il_K K (pe_slice (sl_K K) (pv 1) (po_some pe_int) po_none)) (blkOk_by (N := N_read) (sc := defScope s_read) (by decide +kernel)) (fun _ _ _ _ _ _ => by exact (pg_name (i := 4) sc_read.nd rfl (by first | exact Or.inl rfl | exact Or.inr rfl))) (fun _ _ _ _ _ _ => by exact pts_nil) (fun _ _ _ _ _ _ pa => by exact (pe_df c_read_row hr (by decide) pa (pa_cons (pv 4) pa_nil)))) pa_nil))))
      (pss_cons (ps_if (pt_not (pt_val (pe_df c_is_plan hr (by decide) pass0 (pa_cons (pv 3) (pa_cons (pe_glob (v := .int 5) rfl T.c_MOST_DEEDS.choose_spec ⟨_, rfl⟩) pa_nil))))) 
        (pss_one (ps_raise rfl (takes_of rfl rfl rfl rfl) (pmk_own PySem.F.excBase_ValueError T.BadText.x T.BadText.g T.BadText.k (raises_own T.BadText.s T.BadText.t) rfl))) pss_nil)
      (pss_one (ps_ret (pv 3)))))))), ?_⟩
  refine q_when (b := false) e0 (et_test (ED.is (ed_typN (T := "str") (ed_var rfl h0) rfl) rfl)) (fun hb => nomatch hb) (fun _ H1 n1 => ?_)
  refine q_starL (ds := (frC 10 t).map sD) (d := sD (laC 10 t)) n1.fh (ED.is (ed_split (c := 10) (ed_var rfl h0) (ED.is (ed_lit "\n") (by rw [show lit "\n" = [10] from by decide +kernel])) (by decide) (by omega)) (by rw [cc, List.map_append]; rfl)) (by rw [List.length_map]; omega) fun v1 v2 F2 H2 n2 h1 h2 => ?_
  have n02 := n1.trans n2
  show tSeq _ _ _ ([some v0, some v1, some v2, none, none] : L2.St) _
  refine q_when (b := decide ((frC 10 t) = []) || !decide (laC 10 t = [])) n2.fh (et_or (a := decide (frC 10 t = [])) (et_test (ED.is (ed_op (ED.is (ed_cb (ea_cons (ed_var rfl h1) ea_nil) rl_lenL) (by rw [List.length_map])) ed_int (rd_eqD rfl rfl)) (by rw [eqv_int]; congr 1; rw [decide_eq_decide]; constructor <;> intro h <;> simpa using h))) fun _ => et_test (ED.is (ed_neT (ed_var rfl h2) (ed_lit "")) (by rw [show lit "" = [] from rfl]))) (fun hb H3 n3 => x ?_ H3 (n02.h.trans n3.h)) (fun hb H3 n3 => ?_)
  · unfold readV
    by_cases h : laC 10 t = []
    · rw [if_pos h]
      have : frC 10 t = [] := by simpa [h] using hb
      rw [this]; rfl
    · rw [if_neg h]; rfl
  · have hb : frC 10 t ≠ [] ∧ laC 10 t = [] := by simpa using hb
    obtain ⟨l0, ls, ef⟩ : ∃ l0 ls, frC 10 t = l0 :: ls := by
      cases e : frC 10 t with
      | nil => exact absurd e hb.1
      | cons a b => exact ⟨a, b, rfl⟩
    have rv : readV t = (beginV l0).bind fun ws => (ls.mapM rowV).bind fun rows => if isPlan (planD (ws, rows)) 5 = true then some (ws, rows) else none := by unfold readV; rw [if_pos hb.2, ef]; rfl
    rw [ef] at h1 cl cp
    rw [List.length_cons] at cl
    have h1' : Rp F2 v1 (.lst (sD l0 :: ls.map sD)) := h1
    have small : ∀ l ∈ l0 :: ls, l.length ≤ 15000 := fun l hl' => by have := cp l (List.mem_append_left _ hl'); omega
    refine q_asgE (o := ((beginV l0).map waysD).bind fun a => ((ls.mapM rowV).map rowsD).map fun b => .tup [a, b]) n3.fh (ez_tup (ez_call (ea_cons (ed_op (ed_var rfl h1') ed_int (rd_ixl (at_nat (j := 0) rfl rfl))) ea_nil) ⟨l0, rfl, small l0 List.mem_cons_self, rfl⟩) (EZ.is (ez_lc (emb := sD) (xs := ls) (f := fun l => (rowV l).map rowD) (ED.is (ed_sl (ed_var rfl h1') (eo_some ed_int) eo_none) (by rw [show (some (1 : Int)) = some ((1 : Nat) : Int) from rfl, cut_from (by simp)]; rfl)) (by omega) (fun _ => rfl) fun l v F3 hl' e3 rv' => ez_call (ea_cons (ed_var rfl rv') ea_nil) ⟨l, rfl, small l (List.mem_cons_of_mem _ hl'), rfl⟩) (by rw [mapM_map]; cases ls.mapM rowV <;> rfl))) (fun z H4 x4 => x ?_ H4 ((n02.h.trans n3.h).trans x4)) fun d v3 F4 H4 z n4 h3 => ?_
    · rw [rv]
      revert z
      cases beginV l0 with
      | none => intro _; rfl
      | some ws => cases ls.mapM rowV with
        | none => intro _; rfl
        | some rows => intro z; cases z
    · obtain ⟨ws, rows, eb, er, rfl⟩ : ∃ ws rows, beginV l0 = some ws ∧ ls.mapM rowV = some rows ∧ d = planD (ws, rows) := by
        revert z
        cases beginV l0 with
        | none => intro z; cases z
        | some ws => cases ls.mapM rowV with
          | none => intro z; cases z
          | some rows => intro z; cases z; exact ⟨ws, rows, rfl, rfl, rfl⟩
      have rv : readV t = if isPlan (planD (ws, rows)) 5 = true then some (ws, rows) else none := by rw [rv, eb, er]; rfl
      have n04 := (n02.trans n3).trans n4
      refine q_when (b := !isPlan (planD (ws, rows)) 5) n4.fh (et_not (et_B (ed_call (ea_cons (ed_var rfl h3) (ea_cons ed_int ea_nil)) ⟨_, _, rfl, pv_planD _, rfl⟩))) (fun hb H5 n5 => x ?_ H5 (n04.h.trans n5.h)) (fun hb H5 n5 => ?_)
      · rw [rv, if_neg (by simpa using hb)]; rfl
      · rw [if_pos (by simpa using hb)] at rv
        exact s_ret n5.fh (ed_var rfl h3) fun v F6 H6 n6 r6 => q _ v F6 H6 (by rw [rv]; rfl) ((n04.trans n5).trans n6) r6
theorem ok__law_cell {f : Addr} {fd : FuncData} (F : Fun K "_law_cell" "_law_cell" s__law_cell f fd) (T : Txt K mg A)   : FnOk P w K mg base CX0 1 f fd P__law_cell (spR (R_cell K)) := by
  refine F.ok sc__law_cell (len_R fun ds d h => by obtain ⟨x, n, rfl, _⟩ := h; rfl) (fun cdv A0 outer s H vs Q E hr h => ?_)
  have hu := hu64 hr
  obtain ⟨F0, ds, d, e0, r0, ⟨ns, k, rfl, hk, rfl⟩, q⟩ := h
  obtain ⟨v0, _, rfl, h0, r0⟩ := r0.uncons
  obtain ⟨v1, _, rfl, h1, r0⟩ := r0.uncons
  obtain rfl := r0.unnil
  refine ⟨_, (pss_one (ps_ret (pe_ix (ix_K K) (pe_op op_addA (pe_slice (sl_K K) (pv 0) (po_some (pv 1)) (po_some (pe_op op_addA (pv 1) pe_int))) (pe_lst (pa_cons pe_int pa_nil))) pe_int (fun _ _ => rfl)))), ?_⟩
  refine s_ret (d := .int (cell ns k)) e0 (ed_op (ed_op (ed_slS (ed_var rfl h0) (eo_some (ed_var rfl h1)) (eo_some (ed_op (ed_var rfl h1) ed_int rd_addI))) (ed_lst (ea_cons ed_int ea_nil) (by decide)) (rd_addL ?_)) ed_int (rd_ixl (cell_at ns hk))) q
  rw [List.length_map]
  have := cutI_len ns hk
  simp; omega
theorem ok__law_int {f : Addr} {fd : FuncData} (F : Fun K "_law_int" "_law_int" s__law_int f fd) (T : Txt K mg A)   : FnOk P w K mg base CX0 1 f fd P__law_int (spR R_int) := by
  refine F.ok sc__law_int (len_R fun ds d h => by obtain ⟨x, rfl, _⟩ := h; rfl) (fun cdv A0 outer s H vs Q E hr h => ?_)
  have hu := hu64 hr
  obtain ⟨F0, ds, d, e0, r0, ⟨x, rfl, no, rfl⟩, q⟩ := h
  obtain ⟨v0, _, rfl, h0, r0⟩ := r0.uncons
  obtain rfl := r0.unnil
  refine ⟨_, (pss_one (ps_ret (pe_and (pe_cmpR op_notBo (pv 0) pe_bl (nomark _)) (pe_and (pe_cmpR op_notBo (pv 0) pe_bl (nomark _)) (pe_one (pe_callB (isi_K K) (by rfl) T.m_isinstance bt_isinstance (pa_cons (pv 0) (pa_cons (pe_bltn (v := .ty "int") (by rfl) T.m_int bt_int rfl) pa_nil)))))))), ?_⟩
  refine s_ret (d := .bl (isIntD x)) e0 (ED.is (ed_and (ed_op (ed_var rfl h0) ed_bl rd_notBo) fun h1 => ed_and (b := isIntD x) (ed_op (ed_var rfl h0) ed_bl rd_notBo) fun h2 => ed_isi (ed_var rfl h0) no ?_) ?_) q
  · cases x <;> first | rfl | (cases no; done) | skip
    rename_i b; cases b <;> simp [isBo] at h1 h2
  · cases x <;> first | rfl | (cases no; done) | skip
    rename_i b; cases b <;> rfl
theorem ok__law_ways {f : Addr} {fd : FuncData} (F : Fun K "_law_ways" "_law_ways" s__law_ways f fd) (T : Txt K mg A)   : FnOk P w K mg base CX0 1 f fd P__law_ways (spR R_ways) := by
  refine F.ok sc__law_ways (len_R fun ds d h => by obtain ⟨_, _, _, _, rfl, _⟩ := h; rfl) (fun cdv A0 outer s H vs Q E hr h => ?_)
  have hu := hu64 hr
  obtain ⟨F0, ds, d, e0, r0, ⟨c, seen, a, w, rfl, rfl⟩, q⟩ := h
  obtain ⟨v0, _, rfl, h0, r0⟩ := r0.uncons
  obtain ⟨v1, _, rfl, h1, r0⟩ := r0.uncons
  obtain ⟨v2, _, rfl, h2, r0⟩ := r0.uncons
  obtain ⟨v3, _, rfl, h3, r0⟩ := r0.uncons
  obtain rfl := r0.unnil
  obtain rfl := h0.eint
  obtain rfl := h2.eint
  obtain rfl := h3.eint
  refine ⟨_, (pss_cons (ps_set (i := 4) sc__law_ways.nd rfl (by first | exact Or.inl rfl | exact Or.inr rfl) (pe_lst pa_nil))
      (pss_cons (ps_for PassesOwn.never rfl (pi_range1 rfl T.m_range (pa_cons pe_int pa_nil)) (pg_name (i := 5) sc__law_ways.nd rfl (by first | exact Or.inl rfl | exact Or.inr rfl)) 
        (pss_one (ps_if (PW.pt (pw_and (pt_cmpR (in_K K) (pv 5) (pv 1) (by with_unfolding_all rfl)) (pw_and (pt_cmpR op_gt (pv 3) pe_int (nomark _)) (pw_and1 (pt_cmpR (ne_K K hu) (pe_op op_mod (pe_op op_fdiv (pv 0) pe_int) pe_int) (pv 5) (nomark _)))))) 
          (pss_one (ps_expr (pe_bm PySem.F.plainAttrs_list PySem.F.slot_list_append PySem.F.type_list_append mt_append (pv 4) (pa_cons (pe_tup (pa_cons (pv 5) (pa_cons (pe_op op_addA (pv 2) (pe_op op_mod (pe_op op_mod (pe_op op_addA (pe_op op_mulA (pv 0) pe_int) (pe_op op_mulA (pv 5) pe_int)) pe_int) (pv 3))) pa_nil))) pa_nil)))) 
          (pss_one (ps_if (PW.pt (pw_and (pt_cmpR op_gt (pv 3) pe_int (nomark _)) (pw_and (pt_cmpR (ni_K K) (pv 5) (pv 1) (by with_unfolding_all rfl)) (pw_and1 (pt_cmpR (eq_K K hu) (pe_op op_mod (pe_op op_addA (pv 0) (pv 5)) pe_int) pe_int (nomark _)))))) 
            (pss_one (ps_expr (pe_bm PySem.F.plainAttrs_list PySem.F.slot_list_append PySem.F.type_list_append mt_append (pv 4) (pa_cons (pe_tup (pa_cons (pv 5) (pa_cons (pe_op op_addA (pv 2) (pe_op op_mod (pe_op op_fdiv (pe_op op_addA (pv 0) (pv 5)) pe_int) (pv 3))) pa_nil))) pa_nil)))) pss_nil)))))
      (pss_one (ps_ret (pv 4))))), ?_⟩
  refine q_new e0 fun p hp => ?_
  have c0 := Cw.start e0 hp
  refine q_forR (n := 10) c0.fz (by walk_at "ev") (by omega) fun H1 n1 => ?_
  refine ⟨fun i σ' H' => ∃ y5, σ' = [some (.int c), some v1, some (.int a), some (.int w), some (.ref p), y5] ∧ Cw F0 H p ((((rng 10).take i).filterMap (wayFor c seen a w)).map wayD) H', ⟨none, rfl, c0.up n1.h⟩, fun i σ' H' hi p' => ?_, fun σ' H' p' => ?_⟩
  · obtain ⟨y5, rfl, cc⟩ := p'
    have hx : (rng 10)[i]? = some (i : Int) := rng_get (by omega)
    have hstep : (((rng 10).take (i + 1)).filterMap (wayFor c seen a w)).map wayD = (((rng 10).take i).filterMap (wayFor c seen a w)).map wayD ++ ((wayFor c seen a w i).toList.map wayD) := by
      rw [List.take_add_one, hx, List.filterMap_append, List.map_append]
      cases h : wayFor c seen a w i <;> simp [h]
    have hll : (((rng 10).take i).filterMap (wayFor c seen a w)).length ≤ 10 := by
      have := List.length_filterMap_le (wayFor c seen a w) ((rng 10).take i)
      rw [List.length_take] at this
      omega
    have fz := cc.fz
    refine s_if (b := decide ((i : Int) ∈ seen) && (decide (0 < w) && !decide (c / 8 % 23 = i))) fz (et_and (et_test (ed_op (ed_var rfl (.int _)) (ed_var rfl h1) rd_in)) fun _ => et_and (et_test (ed_op (ed_var rfl (.int _)) ed_int rd_gt)) fun _ => et_test (ED.is (ed_op (ed_op (ed_op (ed_var rfl (.int _)) ed_int (rd_fdiv ⟨by decide, by decide⟩)) ed_int (rd_mod (by decide))) (ed_var rfl (.int _)) (rd_neD rfl rfl)) (by rw [eqv_int]))) (fun hb H5 n5 => ?_) (fun hb H5 n5 => ?_)
    · simp only [Bool.and_eq_true, decide_eq_true_eq, Bool.not_eq_true', decide_eq_false_iff_not] at hb
      have e : wayFor c seen a w i = some ((i : Int), a + (c * 48271 + (i : Int) * 7919) % 10007 % w) := by unfold wayFor; rw [if_pos hb]
      rw [e] at hstep
      refine Cw.app (cc.up n5.h) (by rw [List.length_map]; omega) rfl (fun F' e' => ed_tup (ds := [.int i, .int (a + (c * 48271 + (i : Int) * 7919) % 10007 % w)]) (ea_cons (ed_var rfl (.int _)) (ea_cons (ed_op (ed_var rfl (.int _)) (ed_op (ed_op (ed_op (ed_op (ed_var rfl (.int _)) ed_int (rd_mulI (Or.inr ⟨by decide, by decide⟩))) (ed_op (ed_var rfl (.int _)) ed_int (rd_mulI (Or.inr ⟨by decide, by decide⟩))) rd_addI) ed_int (rd_mod (by decide))) (ed_var rfl (.int _)) (rd_mod hb.2.1)) rd_addI) ea_nil)) (by show 2 ≤ 100000; decide)) fun H6 c6 => ⟨_, rfl, by rw [hstep]; exact c6⟩
    · have hn : ¬ ((i : Int) ∈ seen ∧ 0 < w ∧ c / 8 % 23 ≠ (i : Int)) := by
        intro ⟨z1, z2, z3⟩
        rw [decide_eq_true z1, decide_eq_true z2, decide_eq_false z3] at hb
        cases hb
      refine s_if (b := decide (0 < w) && (!decide ((i : Int) ∈ seen) && decide ((c + (i : Int)) % 17 = 3))) n5.fh (et_and (et_test (ed_op (ed_var rfl (.int _)) ed_int rd_gt)) fun _ => et_and (et_test (ed_op (ed_var rfl (.int _)) (ed_var rfl h1) rd_notIn)) fun _ => et_test (ED.is (ed_op (ed_op (ed_op (ed_var rfl (.int _)) (ed_var rfl (.int _)) rd_addI) ed_int (rd_mod (by decide))) ed_int (rd_eqD rfl rfl)) (by rw [eqv_int]))) (fun hb H6 n6 => ?_) (fun hb H6 n6 => ?_)
      · simp only [Bool.and_eq_true, decide_eq_true_eq, Bool.not_eq_true', decide_eq_false_iff_not] at hb
        have e : wayFor c seen a w i = some ((i : Int), a + (c + (i : Int)) / 17 % w) := by unfold wayFor; rw [if_neg hn, if_pos hb]
        rw [e] at hstep
        refine Cw.app (cc.up (n5.h.trans n6.h)) (by rw [List.length_map]; omega) rfl (fun F' e' => ed_tup (ds := [.int i, .int (a + (c + (i : Int)) / 17 % w)]) (ea_cons (ed_var rfl (.int _)) (ea_cons (ed_op (ed_var rfl (.int _)) (ed_op (ed_op (ed_op (ed_var rfl (.int _)) (ed_var rfl (.int _)) rd_addI) ed_int (rd_fdiv ⟨by decide, by decide⟩)) (ed_var rfl (.int _)) (rd_mod hb.1)) rd_addI) ea_nil)) (by show 2 ≤ 100000; decide)) fun H7 c7 => ⟨_, rfl, by rw [hstep]; exact c7⟩
      · have hn2 : ¬ (0 < w ∧ (i : Int) ∉ seen ∧ (c + (i : Int)) % 17 = 3) := by
          intro ⟨z1, z2, z3⟩
          rw [decide_eq_true z1, decide_eq_false z2, decide_eq_true z3] at hb
          cases hb
        have e : wayFor c seen a w i = none := by unfold wayFor; rw [if_neg hn, if_neg hn2]
        rw [e] at hstep
        exact ⟨_, rfl, by rw [hstep]; simpa using cc.up (n5.h.trans n6.h)⟩
  · obtain ⟨y5, rfl, cc⟩ := p'
    rw [List.take_of_length_le (by unfold rng; simp)] at cc
    obtain ⟨F9, n9, r9⟩ := cc.done
    exact s_ret n9.fh (ed_var rfl r9) fun v F10 H10 n10 r10 => q v F10 H10 (n9.trans n10) r10
theorem ok__law_rows {f : Addr} {fd : FuncData} (F : Fun K "_law_rows" "_law_rows" s__law_rows f fd) (T : Txt K mg A) (c__law_cell : Df P w K mg base CX0 1 "_law_cell" P__law_cell (spR (R_cell K))) (c__law_ways : Df P w K mg base CX0 1 "_law_ways" P__law_ways (spR R_ways))  : FnOk P w K mg base CX0 2 f fd P__law_rows (spR (R_rows K)) := by
  refine F.ok sc__law_rows (len_R fun ds d h => by obtain ⟨_, _, _, rfl, _⟩ := h; rfl) (fun cdv A0 outer s H vs Q E hr h => ?_)
  have hu := hu64 hr
  obtain ⟨F0, ds, d, e0, r0, ⟨ns, seen, k, rfl, hk, rfl⟩, q⟩ := h
  obtain ⟨v0, _, rfl, h0, r0⟩ := r0.uncons
  obtain ⟨v1, _, rfl, h1, r0⟩ := r0.uncons
  obtain ⟨v2, _, rfl, h2, r0⟩ := r0.uncons
  obtain rfl := r0.unnil
  obtain rfl := h2.eint
  have ⟨m0, m1⟩ := mrows_ok ns
  have hc : ∀ (σ : L2.St) (F' : Hp) (te : TE) (k : Int) (E : XK), Ex F0 F' → σ[0]? = some (some v0) → 0 ≤ k → ED te σ F' (.int k) → ED (tCall (spR (R_cell K)) [] E (tCons (tVar 0) (tCons te tNil))) σ F' (.int (cell ns k)) := fun σ F' te k E e' hσ hk ht => ed_call (ea_cons (ed_var hσ (h0.mono e')) (ea_cons ht ea_nil)) ⟨ns, k, rfl, hk, rfl⟩
  refine ⟨_, (pss_cons (ps_set (i := 3) sc__law_rows.nd rfl (by first | exact Or.inl rfl | exact Or.inr rfl) (pe_op op_mod (pe_df c__law_cell hr (by decide) pass0 (pa_cons (pv 0) (pa_cons pe_int pa_nil))) pe_int))
      (pss_cons (ps_if (pt_cmpR (eq_K K hu) (pe_op op_mod (pe_op op_fdiv (pe_df c__law_cell hr (by decide) pass0 (pa_cons (pv 0) (pa_cons pe_int pa_nil))) pe_int) pe_int) pe_int (nomark _)) 
        (pss_one (ps_set (i := 3) sc__law_rows.nd rfl (by first | exact Or.inl rfl | exact Or.inr rfl) (pe_op op_addA (pv 3) (pe_op op_mod (pe_op op_fdiv (pe_df c__law_cell hr (by decide) pass0 (pa_cons (pv 0) (pa_cons pe_int pa_nil))) pe_int) pe_int)))) pss_nil)
      (pss_cons (ps_set (i := 4) sc__law_rows.nd rfl (by first | exact Or.inl rfl | exact Or.inr rfl) (pe_lst pa_nil))
      (pss_cons (ps_for PassesOwn.never rfl (pi_range1 rfl T.m_range (pa_cons (pv 3) pa_nil)) (pg_name (i := 5) sc__law_rows.nd rfl (by first | exact Or.inl rfl | exact Or.inr rfl)) 
        (pss_cons (ps_set (i := 6) sc__law_rows.nd rfl (by first | exact Or.inl rfl | exact Or.inr rfl) (pe_op op_addA (pe_df c__law_cell hr (by decide) pass0 (pa_cons (pv 0) (pa_cons (pe_op op_addA pe_int (pe_op op_mod (pv 5) pe_int)) pa_nil))) (pe_op op_mulA pe_int (pe_op op_fdiv (pv 5) pe_int))))
        (pss_one (ps_if (PW.pt (pw_or (pt_cmpR (eq_K K hu) (pv 5) (pe_op op_sub (pv 3) pe_int) (nomark _)) (pw_or1 (pt_cmpR (eq_K K hu) (pe_op op_mod (pv 6) pe_int) pe_int (nomark _))))) 
          (pss_one (ps_expr (pe_bm PySem.F.plainAttrs_list PySem.F.slot_list_append PySem.F.type_list_append mt_append (pv 4) (pa_cons (pe_tup (pa_cons pe_non (pa_cons (pe_lst pa_nil) pa_nil))) pa_nil)))) 
          (pss_one (ps_expr (pe_bm PySem.F.plainAttrs_list PySem.F.slot_list_append PySem.F.type_list_append mt_append (pv 4) (pa_cons (pe_tup (pa_cons (pe_op op_mod (pe_op op_fdiv (pv 6) pe_int) (pv 2)) (pa_cons (pe_df c__law_ways hr (by decide) pass0 (pa_cons (pv 6) (pa_cons (pv 1) (pa_cons (pe_op op_addA (pv 5) pe_int) (pa_cons (pe_callB (cl_min2 rfl) (by rfl) T.m_min bt_min (pa_cons pe_int (pa_cons (pe_op op_sub (pe_op op_sub (pv 3) (pv 5)) pe_int) pa_nil))) pa_nil))))) pa_nil))) pa_nil))))))))
      (pss_one (ps_ret (pe_tup (pa_cons (pe_df c__law_ways hr (by decide) pass0 (pa_cons (pe_df c__law_cell hr (by decide) pass0 (pa_cons (pv 0) (pa_cons pe_int pa_nil))) (pa_cons (pv 1) (pa_cons pe_int (pa_cons (pv 3) pa_nil))))) (pa_cons (pv 4) pa_nil))))))))), ?_⟩
  refine q_int (n := cell ns 11 % 10) e0 (ed_op (hc _ _ _ _ _ (Ex.refl _) rfl (by decide) ed_int) ed_int (rd_mod (by decide))) fun H1 n1 => ?_
  refine q_whenInt (n := mrows ns) (b := decide (cell ns 11 / 10 % 8 = 1)) n1.fh (et_test (ED.is (ed_op (ed_op (ed_op (hc _ _ _ _ _ (Ex.refl _) rfl (by decide) ed_int) ed_int (rd_fdiv ⟨by decide, by decide⟩)) ed_int (rd_mod (by decide))) ed_int (rd_eqD rfl rfl)) (by rw [eqv_int]))) (fun hb => ?_) (fun hb => ?_) fun H2 n2 => ?_
  · refine ED.is (ed_op (ed_var rfl (.int _)) (ed_op (ed_op (hc _ _ _ _ _ (Ex.refl _) rfl (by decide) ed_int) ed_int (rd_fdiv ⟨by decide, by decide⟩)) ed_int (rd_mod (by decide))) rd_addI) ?_
    unfold mrows; rw [if_pos (of_decide_eq_true hb)]
  · show some (some _) = _
    unfold mrows; rw [if_neg (of_decide_eq_false hb)]
  have n02 := n1.trans n2
  refine q_new n2.fh fun p hp => ?_
  have c0 := Cw.start n2.fh hp
  have he : EA (tCons (tVar 3) tNil) [some v0, some v1, some (.int k), some (.int (mrows ns)), some (.ref p), none, none] F0 [.int (mrows ns)] := ea_cons (ed_var rfl (.int _)) ea_nil
  refine q_forR (n := mrows ns) c0.fz he (by omega) fun H3 n3 => ?_
  refine ⟨fun i σ' H' => ∃ y5 y6, σ' = [some v0, some v1, some (.int k), some (.int (mrows ns)), some (.ref p), y5, y6] ∧ Cw F0 H2 p (((rng (mrows ns)).take i).map fun j => rowD (rowFor ns seen k j)) H', ⟨none, none, rfl, c0.up n3.h⟩, fun i σ' H' hi p' => ?_, fun σ' H' p' => ?_⟩
  · obtain ⟨y5, y6, rfl, cc⟩ := p'
    have hx : (rng (mrows ns))[i]? = some (i : Int) := rng_get hi
    have hstep := take_map_succ (g := fun j => rowD (rowFor ns seen k j)) hx
    have hll : (((rng (mrows ns)).take i).map fun j => rowD (rowFor ns seen k j)).length < 50000 := by
      rw [List.length_map, List.length_take]; omega
    refine q_int (n := rowCell ns i) cc.fz (ed_op (hc _ _ _ _ _ (Ex.refl _) rfl (by omega) (ed_op ed_int (ed_op (ed_var rfl (.int _)) ed_int (rd_mod (by decide))) rd_addI)) (ed_op ed_int (ed_op (ed_var rfl (.int _)) ed_int (rd_fdiv ⟨by decide, by decide⟩)) (rd_mulI (Or.inl ⟨by decide, by decide⟩))) rd_addI) fun H4 n4 => ?_
    refine s_if (b := decide ((i : Int) = mrows ns - 1) || decide (rowCell ns i % 8 = 1)) n4.fh (et_or (et_test (ED.is (ed_op (ed_var rfl (.int _)) (ed_op (ed_var rfl (.int _)) ed_int rd_sub) (rd_eqD rfl rfl)) (by rw [eqv_int]))) fun _ => et_test (ED.is (ed_op (ed_op (ed_var rfl (.int _)) ed_int (rd_mod (by decide))) ed_int (rd_eqD rfl rfl)) (by rw [eqv_int]))) (fun hb H5 n5 => ?_) (fun hb H5 n5 => ?_)
    · simp only [Bool.or_eq_true, decide_eq_true_eq] at hb
      have e : rowFor ns seen k i = (none, []) := by unfold rowFor; rw [if_pos hb]
      refine Cw.app (cc.up (n4.h.trans n5.h)) hll rfl (fun F' e' => ed_tup (ds := [.non, .lst []]) (ea_cons ed_non (ea_cons (ed_lst ea_nil (by decide)) ea_nil)) (by show 2 ≤ 100000; decide)) fun H6 c6 => ⟨_, _, rfl, by rw [hstep, e]; exact c6⟩
    · have hn : ¬ ((i : Int) = mrows ns - 1 ∨ rowCell ns i % 8 = 1) := by
        intro z
        simp only [Bool.or_eq_false_iff, decide_eq_false_iff_not] at hb
        rcases z with z | z
        · exact hb.1 z
        · exact hb.2 z
      have e : rowFor ns seen k i = (some (rowCell ns i / 184 % k), waysOf (rowCell ns i) seen ((i : Int) + 1) (min3 (mrows ns - (i : Int) - 1))) := by unfold rowFor; rw [if_neg hn]
      refine Cw.app (d := rowD (rowFor ns seen k i)) (cc.up (n4.h.trans n5.h)) hll rfl (fun F' e' => ?_) fun H6 c6 => ⟨_, _, rfl, by rw [hstep]; exact c6⟩
      rw [e]
      refine ed_tup (ds := [.int (rowCell ns i / 184 % k), waysD (waysOf (rowCell ns i) seen ((i : Int) + 1) (min3 (mrows ns - (i : Int) - 1)))]) (ea_cons (ed_op (ed_op (ed_var rfl (.int _)) ed_int (rd_fdiv ⟨by decide, by decide⟩)) (ed_var rfl (.int _)) (rd_mod hk)) (ea_cons (ed_call (ea_cons (ed_var rfl (.int _)) (ea_cons (ed_var rfl (h1.mono e')) (ea_cons (ed_op (ed_var rfl (.int _)) ed_int rd_addI) (ea_cons (ed_cb (ea_cons ed_int (ea_cons (ed_op (ed_op (ed_var rfl (.int _)) (ed_var rfl (.int _)) rd_sub) ed_int rd_sub) ea_nil)) rl_min2) ea_nil)))) ⟨_, _, _, _, rfl, rfl⟩) ea_nil)) (by show 2 ≤ 100000; decide)
  · obtain ⟨y5, y6, rfl, cc⟩ := p'
    rw [List.take_of_length_le (by have := rng_len m0; omega)] at cc
    obtain ⟨F9, n9, r9⟩ := cc.done
    refine s_ret n9.fh (ED.is (ed_tup (ds := [waysD (waysOf (cell ns 12) seen 0 (mrows ns)), .lst ((rng (mrows ns)).map fun j => rowD (rowFor ns seen k j))]) (ea_cons (ed_call (ea_cons (hc _ _ _ _ _ n9.f rfl (by decide) ed_int) (ea_cons (ed_var rfl (h1.mono n9.f)) (ea_cons ed_int (ea_cons (ed_var rfl (.int _)) ea_nil)))) ⟨_, _, _, _, rfl, rfl⟩) (ea_cons (ed_var rfl r9) ea_nil)) (by show 2 ≤ 100000; decide)) ?_) fun v F10 H10 n10 r10 => q v F10 H10 (n02.trans (n9.trans n10)) r10
    unfold planD planOf rowsD
    rw [List.map_map]; rfl
theorem ok__law_shown {f : Addr} {fd : FuncData} (F : Fun K "_law_shown" "_law_shown" s__law_shown f fd) (T : Txt K mg A)   : FnOk P w K mg base CX0 1 f fd P__law_shown (spR R_lshown) := by
  refine F.ok sc__law_shown (len_R fun ds d h => by obtain ⟨_, rfl, _⟩ := h; rfl) (fun cdv A0 outer s H vs Q E hr h => ?_)
  have hu := hu64 hr
  obtain ⟨F0, ds, d, e0, r0, ⟨p, rfl, gp, rfl⟩, q⟩ := h
  obtain ⟨v0, _, rfl, h0, r0⟩ := r0.uncons
  obtain rfl := r0.unnil
  have l3 := gp.l
  have iok := item_ok gp
  have lok := line_len gp
  obtain ⟨xs, exs⟩ : ∃ xs, xs = itemsS p := ⟨_, rfl⟩
  have lx : xs.length = p.2.length + 1 := by rw [exs]; unfold itemsS; rw [List.length_cons, List.length_map]
  refine ⟨_, (pss_cons (ps_set (i := 1) sc__law_shown.nd rfl (by first | exact Or.inl rfl | exact Or.inr rfl) (pe_op op_addA (pe_lst (pa_cons pe_str pa_nil)) (pe_lc (own := [("_law_row", 2)]) (g := gName 2) (tt := tYes) rfl sc__law_shown.nd (il_K K (pe_ix (ix_K K) (pv 0) pe_int (fun _ _ => rfl))) (blkOk_by (N := N__law_shown) (sc := defScope s__law_shown) (by decide +kernel)) (fun _ _ _ _ _ => by exact (pg_name (i := 2) sc__law_shown.nd rfl (by first | exact Or.inl rfl | exact Or.inr rfl))) (fun _ _ _ _ _ => by exact pts_nil) (fun _ _ _ _ _ => by exact (pe_ifExp (pt_cmpR op_isN1 (pe_ix (ix_K K) (pv 2) pe_int (fun _ _ => rfl)) pe_non (nomark _)) pe_str (pe_callTy strI_cr (by rfl) T.m_str bt_str (pa_cons (pe_ix (ix_K K) (pv 2) pe_int (fun _ _ => rfl)) pa_nil)))))))
      (pss_cons (ps_set (i := 3) sc__law_shown.nd rfl (by first | exact Or.inl rfl | exact Or.inr rfl) (pe_op op_addA (pe_lst (pa_cons (pe_ix (ix_K K) (pv 0) pe_int (fun _ _ => rfl)) pa_nil)) (pe_lc (own := [("_law_row", 2)]) (g := gName 2) (tt := tYes) rfl sc__law_shown.nd (il_K K (pe_ix (ix_K K) (pv 0) pe_int (fun _ _ => rfl))) (blkOk_by (N := N__law_shown) (sc := defScope s__law_shown) (by decide +kernel)) (fun _ _ _ _ _ => by exact (pg_name (i := 2) sc__law_shown.nd rfl (by first | exact Or.inl rfl | exact Or.inr rfl))) (fun _ _ _ _ _ => by exact pts_nil) (fun _ _ _ _ _ => by exact (pe_ix (ix_K K) (pv 2) pe_int (fun _ _ => rfl))))))
      (pss_cons (ps_set (i := 4) sc__law_shown.nd rfl (by first | exact Or.inl rfl | exact Or.inr rfl) pe_str)
      (pss_cons (ps_for PassesOwn.never rfl (pi_zip (by rfl) T.m_zip (pa_cons (pv 1) (pa_cons (pv 3) pa_nil))) (pg_tup rfl (pgs_cons (pg_name (i := 5) sc__law_shown.nd rfl (by first | exact Or.inl rfl | exact Or.inr rfl)) (pgs_cons (pg_name (i := 6) sc__law_shown.nd rfl (by first | exact Or.inl rfl | exact Or.inr rfl)) pgs_nil))) 
        (pss_one (ps_set (i := 4) sc__law_shown.nd rfl (by first | exact Or.inl rfl | exact Or.inr rfl) (pe_op op_addS (pe_op op_addS (pv 4) (join_pe K pe_str (pe_op op_addA (pe_lst (pa_cons (pv 5) pa_nil)) (pe_lc (own := [("_law_look", 7), ("_law_place", 8)]) (g := gTup K 2 (gCons (gName 7) (gCons (gName 8) gNil))) (tt := tYes) rfl sc__law_shown.nd (il_K K (pv 6)) (blkOk_by (N := N__law_shown) (sc := defScope s__law_shown) (by decide +kernel)) (fun _ _ _ _ _ => by exact (pg_tup rfl (pgs_cons (pg_name (i := 7) sc__law_shown.nd rfl (by first | exact Or.inl rfl | exact Or.inr rfl)) (pgs_cons (pg_name (i := 8) sc__law_shown.nd rfl (by first | exact Or.inl rfl | exact Or.inr rfl)) pgs_nil)))) (fun _ _ _ _ _ => by exact pts_nil) (fun _ _ _ _ _ => by exact (pe_op op_addS (pe_op op_addS (pe_callTy strI_cr (by rfl) T.m_str bt_str (pa_cons (pv 7) pa_nil)) pe_str) (pe_callTy strI_cr (by rfl) T.m_str bt_str (pa_cons (pv 8) pa_nil)))))))) pe_str))))
      (pss_one (ps_ret (pv 4))))))), ?_⟩
  have rows : ∀ (σ : L2.St) F', Ex F0 F' → σ[0]? = some (some v0) → ED (tOp (rIx K) (tVar 0) (tC (.int 1))) σ F' (.lst (p.2.map rowD)) := fun σ F' e' h => ed_op (ed_var h (h0.mono e')) ed_int (rd_ixt (at_nat (j := 1) rfl rfl))
  refine q_asg (d := .lst (xs.map fun x => sD x.1)) e0 (ED.is (ed_op (ed_lst (ds := [sD (lit "begin")]) (ea_cons (ed_lit "begin") ea_nil) (by show 1 ≤ 100000; decide)) (ed_lc (emb := rowD) (xs := p.2) (fun _ => true) (fun r => sD (wordS r.1)) (rows _ _ (Ex.refl _) rfl) (by omega) (fun _ => rfl) (fun _ _ _ _ _ _ => et_yes) (fun r v F1 hm e1 rv _ => by
    obtain ⟨i, hi⟩ := List.mem_iff_getElem?.mp hm
    have g := gp.r i r hi
    obtain ⟨k, ws⟩ := r
    have i0 : ∀ σ : L2.St, σ[2]? = some (some v) → ED (tOp (rIx K) (tVar 2) (tC (.int 0))) σ F1 (dpD k) := fun σ h => ed_op (ed_var h rv) ed_int (rd_ixt (at_nat (j := 0) rfl rfl))
    cases k with
    | none => exact ed_if (b := true) (et_test (ED.is (ed_op (i0 _ rfl) ed_non rd_isN) rfl)) (fun _ => ed_lit "there") (fun hb => nomatch hb)
    | some k => exact ed_if (b := false) (et_test (ED.is (ed_op (i0 _ rfl) ed_non rd_isN) rfl)) (fun hb => nomatch hb) (fun _ => ed_cb (ea_cons (i0 _ rfl) ea_nil) (rl_strT g.1 (by have := g.2.1; omega))))) (rd_addL (by rw [List.length_map, filter_yes]; show 1 + _ ≤ _; omega))) (by rw [exs, filter_yes]; unfold itemsS; rw [List.map_cons, List.map_map]; rfl)) fun v1 F1 H1 n1 h1 => ?_
  show tSeq _ _ _ ([some v0, some v1, none, none, none, none, none, none, none] : L2.St) _
  refine q_asg (d := .lst (xs.map fun x => waysD x.2)) n1.fh (ED.is (ed_op (ed_lst (ds := [waysD p.1]) (ea_cons (ed_op (ed_var rfl (h0.mono n1.f)) ed_int (rd_ixt (at_nat (j := 0) rfl rfl))) ea_nil) (by show 1 ≤ 100000; decide)) (ed_lc (emb := rowD) (xs := p.2) (fun _ => true) (fun r => waysD r.2) (rows _ _ n1.f rfl) (by omega) (fun _ => rfl) (fun _ _ _ _ _ _ => et_yes) (fun r v F2 hm e2 rv _ => ed_op (ed_var rfl rv) ed_int (rd_ixt (at_nat (j := 1) rfl rfl)))) (rd_addL (by rw [List.length_map, filter_yes]; show 1 + _ ≤ _; omega))) (by rw [exs, filter_yes]; unfold itemsS; rw [List.map_cons, List.map_map]; rfl)) fun v3 F3 H3 n3 h3 => ?_
  have n13 := n1.trans n3
  refine q_asg (d := sD []) n3.fh (ED.is (ed_lit "") (by rw [show lit "" = [] from rfl])) fun v4 F4 H4 n4 h4 => ?_
  rw [h4.estr]
  show tSeq _ _ _ ([some v0, some v1, none, some v3, some (.str (SX.S [])), none, none, none, none] : L2.St) _
  have n14 := n13.trans n4
  refine q_forZ (ds := xs.map fun x => sD x.1) (es := xs.map fun x => waysD x.2) n4.fh (ea_cons (ed_var rfl (h1.mono (n3.f.trans n4.f))) (ea_cons (ed_var rfl (h3.mono n4.f)) ea_nil)) (by rw [List.length_map, List.length_map]) fun F5 H5 n5 => ?_
  refine ⟨fun n σ' H' => ∃ y5 y6, σ' = [some v0, some v1, none, some v3, some (.str (SX.S ((xs.take n).map lineS).flatten)), y5, y6, none, none] ∧ Ex H H' ∧ Ex F5 H', ⟨none, none, by simp, n14.h.trans n5.h, n5.fh⟩, fun n σ' H' p => ?_, fun n v u d d' σ' H' H'' hd hd' rd rd' p x3 => ?_, fun σ' H' p => ?_⟩
  · obtain ⟨_, _, _, _, x⟩ := p; exact x
  · obtain ⟨y5, y6, rfl, x1, x2⟩ := p
    rw [List.getElem?_map, Option.map_eq_some_iff] at hd hd'
    obtain ⟨x, hx, rfl⟩ := hd
    obtain ⟨x', hx', rfl⟩ := hd'
    rw [hx] at hx'
    cases hx'
    have xm : x ∈ itemsS p := exs ▸ List.mem_of_getElem? hx
    obtain ⟨hw1, a, b, hw2, ha, hb⟩ := iok x xm
    have wl := ways_len hw2 ha hb
    have l10 := hw2.len
    have so : ((xs.take n).map lineS).flatten.length ≤ 66 * 301 := by
      have := flat_len (xs := (xs.take n).map lineS) (k := 66) fun y hy => by
        obtain ⟨z, hz, rfl⟩ := List.mem_map.mp hy
        exact lok z (exs ▸ List.mem_of_mem_take hz)
      rw [List.length_map, List.length_take] at this
      omega
    have nxt : ((xs.take (n + 1)).map lineS).flatten = ((xs.take n).map lineS).flatten ++ (x.1 ++ waysS x.2) ++ [10] := by
      rw [List.take_add_one, hx]
      show (List.map lineS (xs.take n ++ [x])).flatten = _
      rw [List.map_append, List.flatten_append]
      simp [lineS]
    have pieces : ((x.2.map fun w => numS w.1 ++ [58] ++ numS w.2).map List.length).sum ≤ 60 := by
      have h9 := wl
      unfold waysS at h9
      rw [List.length_flatten] at h9
      have : ∀ ws : List (Int × Int), ((ws.map fun w => numS w.1 ++ [58] ++ numS w.2).map List.length).sum ≤ ((ws.map wayS).map List.length).sum := fun ws => by
        induction ws with
        | nil => simp
        | cons w ws ih =>
          rw [List.map_cons, List.map_cons, List.map_cons, List.map_cons, List.sum_cons, List.sum_cons]
          have : (numS w.1 ++ [58] ++ numS w.2).length ≤ (wayS w).length := by unfold wayS; simp <;> omega
          omega
      exact Nat.le_trans (this x.2) h9
    refine s_asg (d := sD (((xs.take n).map lineS).flatten ++ (x.1 ++ waysS x.2) ++ [10])) (x2.trans x3) (ed_op (ed_op (ed_var rfl (.str _)) (ED.is (ed_join (a := [32]) (ys := x.1 :: x.2.map fun w => numS w.1 ++ [58] ++ numS w.2) (ED.is (ed_lit " ") (by rw [show lit " " = [32] from by decide +kernel])) (ED.is (ed_op (ed_lst (ds := [sD x.1]) (ea_cons (ed_var rfl rd) ea_nil) (by show 1 ≤ 100000; decide)) (ed_lcP (emb := wayD) (e1 := fun w : Int × Int => .int w.1) (e2 := fun w : Int × Int => .int w.2) (xs := x.2) (fun _ => rfl) (fun _ => true) (fun w => sD (numS w.1 ++ [58] ++ numS w.2)) (ed_var rfl rd') (by omega) (fun _ _ => rfl) (fun _ _ _ _ _ _ _ _ => et_yes) (fun w v u F1 hm e1 rv ru _ => by
      have g := goodWays_at hw2 w hm
      have g1 := num_len1 g.1 g.2.1
      have g2 := num_len (show 0 ≤ w.2 by omega) (show w.2 < 1000 by omega)
      exact ed_op (ed_op (ed_cb (ea_cons (ed_var rfl rv) ea_nil) (rl_strT g.1 (by omega))) (ED.is (ed_lit ":") (by rw [show lit ":" = [58] from by decide +kernel])) (rd_addT (by show _ + 1 ≤ _; omega))) (ed_cb (ea_cons (ed_var rfl ru) ea_nil) (rl_strT (by omega) (by omega))) (rd_addT (by rw [List.length_append]; show _ + 1 + _ ≤ _; omega)))) (rd_addL (by rw [List.length_map, filter_yes]; show 1 + _ ≤ _; omega))) (by rw [filter_yes, List.map_cons, List.map_map]; rfl)) (by rw [List.map_cons, List.sum_cons, List.length_cons, List.length_map, List.length_singleton]; omega)) (by
        rw [joinL_sp, List.map_map]
        have : (x.2.map ((fun y => 32 :: y) ∘ fun w : Int × Int => numS w.1 ++ [58] ++ numS w.2)) = x.2.map wayS := List.map_congr_left fun w _ => by unfold wayS; simp
        rw [this]; rfl)) (rd_addT (by rw [List.length_append]; omega))) (ED.is (ed_lit "\n") (by rw [show lit "\n" = [10] from by decide +kernel])) (rd_addT (by rw [List.length_append, List.length_append]; show _ + 1 ≤ _; omega))) fun v5 F6 H6 n6 r6 => ?_
    rw [r6.estr, ← nxt]
    exact ⟨_, _, rfl, (x1.trans x3).trans n6.h, (x2.trans x3).trans n6.h⟩
  · obtain ⟨y5, y6, rfl, x1, x2⟩ := p
    rw [List.length_map, List.take_length]
    exact s_ret (e0.trans x1) (ED.is (ed_var rfl (.str _)) (by rw [planS_items, exs])) fun v F6 H6 n6 r6 => q v F6 H6 (((Nx.refl e0).up x1).trans n6) r6
theorem ok__law_changed {f : Addr} {fd : FuncData} (F : Fun K "_law_changed" "_law_changed" s__law_changed f fd) (T : Txt K mg A)   : FnOk P w K mg base CX0 1 f fd P__law_changed (spA okCh (fun _ d => someT d)) := by
  refine F.ok sc__law_changed (len_A fun ds h => by obtain ⟨_, _, _, _, rfl, _⟩ := h; rfl) (fun cdv A0 outer s H vs Q E hr h => ?_)
  have hu := hu64 hr
  obtain ⟨F0, ds, e0, r0, ⟨t, w, a, c, rfl, hl, ok⟩, q⟩ := h
  obtain ⟨v0, _, rfl, h0, r0⟩ := r0.uncons
  obtain ⟨v1, _, rfl, h1, r0⟩ := r0.uncons
  obtain ⟨v2, _, rfl, h2, r0⟩ := r0.uncons
  obtain ⟨v3, _, rfl, h3, r0⟩ := r0.uncons
  obtain rfl := r0.unnil
  obtain rfl := h1.eint
  obtain rfl := h2.eint
  obtain rfl := h3.eint
  refine ⟨_, (pss_cons (ps_set (i := 4) sc__law_changed.nd rfl (by first | exact Or.inl rfl | exact Or.inr rfl) (pe_op op_mod (pv 2) (pe_op op_addA (pe_callB lenX_cr (by rfl) T.m_len bt_len (pa_cons (pv 0) pa_nil)) pe_int)))
      (pss_cons (ps_set (i := 5) sc__law_changed.nd rfl (by first | exact Or.inl rfl | exact Or.inr rfl) pe_str)
      (pss_cons (ps_set (i := 5) sc__law_changed.nd rfl (by first | exact Or.inl rfl | exact Or.inr rfl) (pe_op op_addS (pv 5) pe_str))
      (pss_cons (ps_set (i := 6) sc__law_changed.nd rfl (by first | exact Or.inl rfl | exact Or.inr rfl) (pe_lst (pa_cons pe_str (pa_cons pe_str (pa_cons pe_str (pa_cons pe_str (pa_cons pe_str (pa_cons pe_str (pa_cons pe_str (pa_cons pe_str pa_nil))))))))))
      (pss_cons (ps_expr (pe_bm PySem.F.plainAttrs_list PySem.F.slot_list_append PySem.F.type_list_append mt_append (pv 6) (pa_cons pe_str pa_nil)))
      (pss_cons (ps_set (i := 6) sc__law_changed.nd rfl (by first | exact Or.inl rfl | exact Or.inr rfl) (pe_op op_addA (pv 6) (pe_lst (pa_cons pe_str (pa_cons pe_str (pa_cons pe_str (pa_cons pe_str (pa_cons pe_str pa_nil))))))))
      (pss_cons (ps_if (pt_cmpR (eq_K K hu) (pv 1) pe_int (nomark _)) 
        (pss_one (ps_ret (pe_op op_addS (pe_op op_addS (pe_slice sl_str (pv 0) po_none (po_some (pv 4))) (pe_ix (ix_K K) (pv 5) (pe_op op_mod (pv 3) (pe_callB lenX_cr (by rfl) T.m_len bt_len (pa_cons (pv 5) pa_nil))) (fun _ _ => rfl))) (pe_slice sl_str (pv 0) (po_some (pv 4)) po_none)))) pss_nil)
      (pss_cons (ps_if (pt_cmpR (eq_K K hu) (pv 1) pe_int (nomark _)) 
        (pss_one (ps_ret (pe_op op_addS (pe_slice sl_str (pv 0) po_none (po_some (pv 4))) (pe_slice sl_str (pv 0) (po_some (pe_op op_addA (pv 4) pe_int)) po_none)))) pss_nil)
      (pss_cons (ps_if (pt_cmpR (eq_K K hu) (pv 1) pe_int (nomark _)) 
        (pss_one (ps_ret (pe_op op_addS (pe_op op_addS (pe_slice sl_str (pv 0) po_none (po_some (pv 4))) (pe_ix (ix_K K) pe_str (pe_op op_mod (pv 3) pe_int) (fun _ _ => rfl))) (pe_slice sl_str (pv 0) (po_some (pe_op op_addA (pv 4) pe_int)) po_none)))) pss_nil)
      (pss_cons (ps_if (pt_cmpR (eq_K K hu) (pv 1) pe_int (nomark _)) 
        (pss_one (ps_ret (pe_ix (ix_K K) (pv 6) (pe_op op_mod (pv 3) pe_int) (fun _ _ => rfl)))) pss_nil)
      (pss_cons (ps_if (pt_cmpR (eq_K K hu) (pv 1) pe_int (nomark _)) 
        (pss_cons (ps_set (i := 7) sc__law_changed.nd rfl (by first | exact Or.inl rfl | exact Or.inr rfl) (split_pe (pv 0) (pe_ix (ix_K K) (pe_lst (pa_cons pe_str (pa_cons pe_str pa_nil))) (pe_op op_mod (pv 3) pe_int) (fun _ _ => rfl))))
        (pss_cons (ps_asg (pe_op op_addS pe_str (pe_ix (ix_K K) (pv 7) (pe_op op_mod (pv 2) (pe_callB (len_K K) (by rfl) T.m_len bt_len (pa_cons (pv 7) pa_nil))) (fun _ _ => rfl))) (pg_sub (pv 7) (pe_op op_mod (pv 2) (pe_callB (len_K K) (by rfl) T.m_len bt_len (pa_cons (pv 7) pa_nil))) set_list))
        (pss_one (ps_ret (join_pe K (pe_ix (ix_K K) (pe_lst (pa_cons pe_str (pa_cons pe_str pa_nil))) (pe_op op_mod (pv 3) pe_int) (fun _ _ => rfl)) (pv 7)))))) pss_nil)
      (pss_one (ps_ret (pv 0)))))))))))))), ?_⟩
  obtain ⟨k, ek⟩ : ∃ k : Nat, a % ((t.length : Int) + 1) = (k : Int) := ⟨(a % ((t.length : Int) + 1)).toNat, by have := Int.emod_nonneg a (b := (t.length : Int) + 1) (by omega); omega⟩
  have kl : k ≤ t.length := by have := Int.emod_lt_of_pos a (show 0 < (t.length : Int) + 1 by omega); omega
  refine q_int (n := (k : Int)) e0 (ED.is (ed_op (ed_var rfl (.int a)) (ed_op (ed_cb (ea_cons (ed_var rfl h0) ea_nil) (rl_lenS (by omega))) ed_int rd_addI) (rd_mod (by omega))) (by rw [ek])) fun H1 n1 => ?_
  refine q_asg n1.fh (ed_lit _) fun v5 F2 H2 n2 h5 => ?_
  refine q_asg n2.fh (ed_op (ed_var rfl h5) (ed_lit _) (rd_addT (by decide +kernel))) fun v5 F3 H3 n3 h5 => ?_
  have n13 := (n1.trans n2).trans n3
  obtain ⟨sm, h5, sml, smk⟩ : ∃ sm, Rp F3 v5 (sD sm) ∧ (0 < sm.length ∧ sm.length ≤ 200) ∧ okT sm := ⟨_, h5, by decide +kernel, by unfold okT; decide +kernel⟩
  show tSeq _ _ _ ([some v0, some (.int w), some (.int a), some (.int c), some (.int (k : Int)), some v5, none, none] : L2.St) _
  refine q_lstD n3.fh (ea_cons (ed_lit _) (ea_cons (ed_lit _) (ea_cons (ed_lit _) (ea_cons (ed_lit _) (ea_cons (ed_lit _) (ea_cons (ed_lit _) (ea_cons (ed_lit _) (ea_cons (ed_lit _) ea_nil)))))))) (by show 8 ≤ 100000; decide) fun vs F4 H4 n4 r4 p hp => ?_
  have nA := n13.trans n4
  have p0 : H p = none := Evl.fresh_back nA.h hp
  have f4 : F4 p = none := Evl.fresh_back nA.fh hp
  have ln : vs.length = 8 := r4.n
  refine q_app (l := p) (vs := vs) (nA.fh.trans (Ex.new hp)) f4 rfl upd_same (by omega) (ed_lit _) fun v F5 H5 n5 f5 r5 => ?_
  have nE := (((nA.mut p0 f4).trans n5).mut p0 f5 (o := .lst (vs ++ [v]))).freeze p0 f5 upd_same
  have h6 : Rp (upd F5 p (.lst (vs ++ [v]))) (.ref p) (.lst _) := Rp.mkL upd_same (((r4.mono n5.f).snoc r5).mono (Ex.new f5))
  have e45 : Ex F3 (upd F5 p (.lst (vs ++ [v]))) := (n4.f.trans n5.f).trans (Ex.new f5)
  refine q_asg nE.fh (ed_op (ed_var rfl h6) (ed_lst (ea_cons (ed_lit _) (ea_cons (ed_lit _) (ea_cons (ed_lit _) (ea_cons (ed_lit _) (ea_cons (ed_lit _) ea_nil))))) (by show 5 ≤ 100000; decide)) (rd_addL (by show 9 + 5 ≤ 100000; decide))) fun v6 F7 H7 n7 h6 => ?_
  obtain ⟨od, h6, odl, odk⟩ : ∃ od, Rp F7 v6 (.lst od) ∧ od.length = 14 ∧ od.all okD = true := ⟨_, h6, rfl, by decide +kernel⟩
  have n17 := nE.trans n7
  have h5 := h5.mono (e45.trans n7.f)
  have h0 := h0.mono n17.f
  have e7 := n17.fh
  clear n1 n2 n3 n4 n5 n7 nA nE n13 r4 r5 f4 f5 e45
  show tSeq _ _ _ ([some v0, some (.int w), some (.int a), some (.int c), some (.int (k : Int)), some v5, some v6, none] : L2.St) _
  have c1 : ∀ (σ : L2.St) F', Ex F7 F' → σ[0]? = some (some v0) → σ[4]? = some (some (.int (k : Int))) → ED (tSl rSlS (tVar 0) tNoPart (tPart (tVar 4))) σ F' (sD (t.take k)) := fun σ F' e' h h' => ED.is (ed_cutT (ed_var h (h0.mono e')) eo_none (eo_some (ed_var h' (.int _))) (by omega)) (by rw [cutN_take])
  have way : ∀ (σ : L2.St) F' (m : Int), σ[1]? = some (some (.int w)) → ET (tTest (tOp (rEqD K) (tVar 1) (tC (.int m)))) σ F' (decide (w = m)) := fun σ F' m h => et_test (ED.is (ed_op (ed_var h (.int w)) ed_int (rd_eqD rfl rfl)) (by rw [eqv_int]))
  have okt : ∀ j, okT (t.take j) := fun j c hc => ok c (List.mem_of_mem_take hc)
  have okd : ∀ j, okT (t.drop j) := fun j c hc => ok c (List.mem_of_mem_drop hc)
  have cat : ∀ {x y : List Nat}, okT x → okT y → okT (x ++ y) := fun hx hy c hc => by
    rcases List.mem_append.mp hc with z | z
    · exact hx c z
    · exact hy c z
  have one : ∀ {x : Nat} {xs : List Nat}, okT xs → x ∈ xs → okT [x] := fun h hx c hc => by rw [List.mem_singleton.mp hc]; exact h _ hx
  refine q_when e7 (way _ _ 1 rfl) (fun hb H8 n8 => ?_) (fun hb H8 n8 => ?_)
  · obtain ⟨ch, hch, hcm⟩ := atI_mod (xs := sm) (i := c) sml.1
    refine s_ret n8.fh (ed_op (ed_op (c1 _ _ (Ex.refl _) rfl rfl) (ed_op (ed_var rfl h5) (ed_op (ed_var rfl (.int c)) (ed_cb (ea_cons (ed_var rfl h5) ea_nil) (rl_lenS (by omega))) (rd_mod (by omega))) (rd_ixs hch (by omega))) (rd_addT (by rw [List.length_take]; show _ + 1 ≤ _; omega))) (ED.is (ed_cutT (ed_var rfl h0) (eo_some (ed_var rfl (.int (k : Int)))) eo_none (by omega)) (by rw [cutN_drop _ kl])) (rd_addT (by rw [List.length_append, List.length_take, List.length_drop]; show _ + 1 + _ ≤ _; omega))) fun v F9 H9 n9 r9 => q _ v F9 H9 ⟨_, rfl, ?_, cat (cat (okt _) (one smk hcm)) (okd _)⟩ ((n17.trans n8).trans n9) r9
    rw [List.length_append, List.length_append, List.length_take, List.length_drop]; show _ + 1 + _ ≤ _; omega
  have n18 := n17.trans n8
  have dr : ∀ (σ : L2.St) F', Ex F7 F' → σ[0]? = some (some v0) → σ[4]? = some (some (.int (k : Int))) → ED (tSl rSlS (tVar 0) (tPart (tOp rAddA (tVar 4) (tC (.int 1)))) tNoPart) σ F' (sD (t.drop (k + 1))) := fun σ F' e' h h' => ED.is (ed_cutT (lo := some ((k : Int) + 1)) (ed_var h (h0.mono e')) (eo_some (ed_op (ed_var h' (.int _)) ed_int rd_addI)) eo_none (by omega)) (by
    by_cases kk : k + 1 ≤ t.length
    · rw [show (some ((k : Int) + 1)) = some ((k + 1 : Nat) : Int) from by congr 1, cutN_drop _ kk]
    · rw [show (some ((k : Int) + 1)) = some ((k + 1 : Nat) : Int) from by congr 1]
      unfold cutN
      rw [HT.sIx_nat, show HT.sIx t.length t.length none = t.length from rfl, Nat.min_eq_right (by omega), List.drop_eq_nil_of_le (Nat.le_refl _), List.drop_eq_nil_of_le (show t.length ≤ k + 1 by omega), List.take_nil])
  refine q_when n8.fh (way _ _ 2 rfl) (fun hb H9 n9 => ?_) (fun hb H9 n9 => ?_)
  · refine s_ret n9.fh (ed_op (c1 _ _ (Ex.refl _) rfl rfl) (dr _ _ (Ex.refl _) rfl rfl) (rd_addT (by rw [List.length_take, List.length_drop]; omega))) fun v F9 H9 n10 r9 => q _ v F9 H9 ⟨_, rfl, ?_, cat (okt _) (okd _)⟩ ((n18.trans n9).trans n10) r9
    rw [List.length_append, List.length_take, List.length_drop]; omega
  have n19 := n18.trans n9
  refine q_when n9.fh (way _ _ 3 rfl) (fun hb H10 n10 => ?_) (fun hb H10 n10 => ?_)
  · obtain ⟨ch, hch, hcm⟩ := atI_mod (xs := lit "0123456789: ") (i := c) (by decide +kernel)
    have l12 : (lit "0123456789: ").length = 12 := by decide +kernel
    rw [l12] at hch
    refine s_ret n10.fh (ed_op (ed_op (c1 _ _ (Ex.refl _) rfl rfl) (ed_op (ed_lit "0123456789: ") (ed_op (ed_var rfl (.int c)) ed_int (rd_mod (by decide))) (rd_ixs hch (by omega))) (rd_addT (by rw [List.length_take]; show _ + 1 ≤ _; omega))) (dr _ _ (Ex.refl _) rfl rfl) (rd_addT (by rw [List.length_append, List.length_take, List.length_drop]; show _ + 1 + _ ≤ _; omega))) fun v F9 H9 n11 r9 => q _ v F9 H9 ⟨_, rfl, ?_, cat (cat (okt _) (one (xs := lit "0123456789: ") (by unfold okT; decide +kernel) hcm)) (okd _)⟩ ((n19.trans n10).trans n11) r9
    rw [List.length_append, List.length_append, List.length_take, List.length_drop]; show _ + 1 + _ ≤ _; omega
  have n20 := n19.trans n10
  refine q_when n10.fh (way _ _ 4 rfl) (fun hb H11 n11 => ?_) (fun hb H11 n11 => ?_)
  · obtain ⟨dx, ax, mx⟩ := at_mem (ds := od) (i := c) (n := 14) (by omega) (by decide)
    exact s_ret n11.fh (ed_op (ed_var rfl h6) (ed_op (ed_var rfl (.int c)) ed_int (rd_mod (by decide))) (rd_ixl ax)) fun v F9 H9 n12 r9 => q _ v F9 H9 (okD_some (List.all_eq_true.mp odk dx mx)) ((n20.trans n11).trans n12) r9
  have n21 := n20.trans n11
  refine q_when n11.fh (way _ _ 5 rfl) (fun hb H12 n12 => ?_) (fun hb H12 n12 => ?_)
  · obtain ⟨dx, ax, mx⟩ := at_mem (ds := [sD [58], sD [32]]) (i := c) (n := 2) rfl (by decide)
    obtain ⟨sc, hsc, rfl⟩ : ∃ sc, (sc = 58 ∨ sc = 32) ∧ dx = sD [sc] := by
      simp only [List.mem_cons, List.not_mem_nil, or_false] at mx
      rcases mx with rfl | rfl
      · exact ⟨58, .inl rfl, rfl⟩
      · exact ⟨32, .inr rfl, rfl⟩
    have s128 : sc < 128 := by omega
    have n22 := n21.trans n12
    have ct := cut_sum (c := sc) t
    have cn := cut_ne (c := sc) t
    have cp := cut_part (c := sc) t
    have ck := okT_cut (c := sc) ok
    have cpos : 0 < (cutC sc t).length := List.length_pos_iff.mpr cn
    have sep58 : ∀ σ F', ED (tC (.str (Str.ofString ":"))) σ F' (sD [58]) := fun σ F' => ED.is (ed_lit ":") (by rw [show lit ":" = [58] from by decide +kernel])
    have sep32 : ∀ σ F', ED (tC (.str (Str.ofString " "))) σ F' (sD [32]) := fun σ F' => ED.is (ed_lit " ") (by rw [show lit " " = [32] from by decide +kernel])
    refine q_asgL n12.fh (el_split (c := sc) (a := t) (ed_var rfl h0) (ed_op (ed_lst (ds := [sD [58], sD [32]]) (ea_cons (sep58 _ _) (ea_cons (sep32 _ _) ea_nil)) (by show 2 ≤ 100000; decide)) (ed_op (ed_var rfl (.int c)) ed_int (rd_mod (by decide))) (rd_ixl ax)) (by omega) (by omega)) fun pp us F13 H13 n13 fp hp0 hpl rs => ?_
    have eus : us = ((cutC sc t).map SX.S).map V.str := strs_rp rs
    have lus : us.length = (cutC sc t).length := by rw [eus, List.length_map, List.length_map]
    have n23 := n22.trans n13
    have h0p : H pp = none := Evl.fresh_back n22.h hp0
    obtain ⟨j, ej⟩ : ∃ j : Nat, a % ((cutC sc t).length : Int) = (j : Int) := ⟨(a % ((cutC sc t).length : Int)).toNat, by have := Int.emod_nonneg a (b := ((cutC sc t).length : Int)) (by omega); omega⟩
    have jl : j < (cutC sc t).length := by have := Int.emod_lt_of_pos a (show 0 < ((cutC sc t).length : Int) by omega); omega
    have eFz : Ex (upd F13 pp (.lst us)) H13 := fun b o hb2 => by
      by_cases z : b = pp
      · subst z; rw [upd_same] at hb2; rw [hpl]; exact hb2
      · rw [upd_ne z] at hb2; exact n13.fh _ _ hb2
    have hpc : Rp (upd F13 pp (.lst us)) (.ref pp) (.lst ((cutC sc t).map sD)) := Rp.mkL upd_same (rs.mono (Ex.new fp))
    show tSeq _ _ _ ([some v0, some (.int w), some (.int a), some (.int c), some (.int (k : Int)), some v5, some v6, some (.ref pp)] : L2.St) _
    have gj : ((cutC sc t).map sD)[j]? = some (sD (cutC sc t)[j]) := by rw [List.getElem?_map, List.getElem?_eq_getElem jl]; rfl
    have pj : (cutC sc t)[j].length ≤ t.length := cp _ (List.getElem_mem jl)
    refine q_setT (F := upd F13 pp (.lst us)) (k := j) (z := 48 :: (cutC sc t)[j]) eFz (ED.is (ed_op (ED.is (ed_lit "0") (by rw [lit0])) (ed_op (ed_var rfl hpc) (ED.is (ed_op (ed_var rfl (.int a)) (ED.is (ed_cb (ea_cons (ed_var rfl hpc) ea_nil) rl_lenL) (by rw [List.length_map])) (rd_mod (by omega))) (by rw [ej])) (rd_ixl (at_nat (j := j) rfl gj))) (rd_addT (by show 1 + _ ≤ _; omega))) rfl) rfl (ED.is (ed_op (ed_var rfl (.int a)) (ED.is (ed_cb (ea_cons (ed_var rfl hpc) ea_nil) rl_lenL) (by rw [List.length_map])) (rd_mod (by omega))) (by rw [ej])) upd_same (by omega) fun H14 x14 => ?_
    obtain ⟨ys, eys⟩ : ∃ ys, ys = (cutC sc t).set j (48 :: (cutC sc t)[j]) := ⟨_, rfl⟩
    have eset : us.set j (.str (SX.S (48 :: (cutC sc t)[j]))) = (ys.map SX.S).map V.str := by rw [eys, eus, List.map_set, List.map_set]
    rw [eset]
    have nF := ((n23.up x14).mut (o := .lst ((ys.map SX.S).map V.str)) h0p fp).freeze h0p fp upd_same
    have hys : Rp (upd F13 pp (.lst ((ys.map SX.S).map V.str))) (.ref pp) (.lst (ys.map sD)) := Rp.mkL upd_same rp_strs
    have su := sum_set1 (ys := cutC sc t) (i := j) (c := 48) jl
    rw [← eys] at su
    have yl : ys.length = (cutC sc t).length := by rw [eys, List.length_set]
    have jn := joinL_len (c := sc) ys
    have okys : ∀ y ∈ ys, okT y := fun y hy => by
      rw [eys] at hy
      rcases List.mem_or_eq_of_mem_set hy with z | z
      · exact ck y z
      · rw [z]
        intro c' hc'
        rcases List.mem_cons.mp hc' with z | z
        · omega
        · exact ck _ (List.getElem_mem jl) c' z
    exact s_ret nF.fh (ed_join (a := [sc]) (ys := ys) (ed_op (ed_lst (ds := [sD [58], sD [32]]) (ea_cons (sep58 _ _) (ea_cons (sep32 _ _) ea_nil)) (by show 2 ≤ 100000; decide)) (ed_op (ed_var rfl (.int c)) ed_int (rd_mod (by decide))) (rd_ixl ax)) (ed_var rfl hys) (by rw [List.length_singleton, Nat.mul_one]; omega)) fun v F15 H15 n15 r15 => q _ v F15 H15 ⟨_, rfl, by omega, joinL_ok s128 ys okys⟩ (nF.trans n15) r15
  · exact s_ret n12.fh (ed_var rfl h0) fun v F9 H9 n13 r9 => q _ v F9 H9 ⟨t, rfl, by omega, ok⟩ ((n21.trans n12).trans n13) r9
theorem ok__law_number {f : Addr} {fd : FuncData} (F : Fun K "_law_number" "_law_number" s__law_number f fd) (T : Txt K mg A)   : FnOk P w K mg base CX0 1 f fd P__law_number (spR R_lnum) := by
  refine F.ok sc__law_number (len_R fun ds d h => by obtain ⟨_, rfl, _⟩ := h; rfl) (fun cdv A0 outer s H vs Q E hr h => ?_)
  have hu := hu64 hr
  obtain ⟨F0, ds, d, e0, r0, ⟨l, rfl, hl, ok, rfl⟩, q⟩ := h
  obtain ⟨v0, _, rfl, h0, r0⟩ := r0.uncons
  obtain rfl := r0.unnil
  refine ⟨_, (pss_cons (ps_if (PW.pt (pw_or (pt_not (pt_chain op_le op_le pe_int (pe_callB lenX_cr (by rfl) T.m_len bt_len (pa_cons (pv 0) pa_nil)) pe_int)) (pw_or1 (PW.pt (pw_and (pt_cmpR op_gt (pe_callB lenX_cr (by rfl) T.m_len bt_len (pa_cons (pv 0) pa_nil)) pe_int (nomark _)) (pw_and1 (pt_cmpR op_eq (pe_ix (ix_K K) (pv 0) pe_int (fun _ _ => rfl)) pe_str (nomark _)))))))) 
        (pss_one (ps_ret (pe_un un_neg pe_int))) pss_nil)
      (pss_cons (ps_if (pt_cmpR (ne_K K hu) (pe_lc (own := [("_law_figure", 1)]) (g := gName 1) rfl sc__law_number.nd (pi_str (pv 0)) (blkOk_by (N := N__law_number) (sc := defScope s__law_number) (by decide +kernel)) (fun _ _ _ _ _ => by exact (pg_name (i := 1) sc__law_number.nd rfl (by first | exact Or.inl rfl | exact Or.inr rfl))) (fun _ _ _ _ _ => by exact (pts_one (pt_cmpR niC_op (pv 1) pe_str (by with_unfolding_all rfl)))) (fun _ _ _ _ _ => by exact (pv 1))) (pe_lst pa_nil) (nomark _)) 
        (pss_one (ps_ret (pe_un un_neg pe_int))) pss_nil)
      (pss_one (ps_ret (pe_callTy intT_cr (by rfl) T.m_int bt_int (pa_cons (pv 0) pa_nil)))))), ?_⟩
  have no : numOk l = false → lnum l = -1 := fun z => lnum_neg.mpr (by unfold numV; rw [if_neg (by rw [z]; exact Bool.false_ne_true)])
  refine q_when (b := !(decide ((1 : Int) ≤ (l.length : Int)) && decide ((l.length : Int) ≤ 3)) || (decide ((l.length : Int) > 1) && decide (l.head? = some 48))) e0 (et_or (a := !(decide ((1 : Int) ≤ (l.length : Int)) && decide ((l.length : Int) ≤ 3))) (et_not (et_test (ed_chain ed_int (ed_cb (ea_cons (ed_var rfl h0) ea_nil) (rl_lenS (by omega))) rd_le (fun _ => ed_int) fun _ => rd_le))) fun ha => ?_) (fun hb H1 n1 => ?_) (fun hb H1 n1 => ?_)
  · have ha : (decide ((1 : Int) ≤ (l.length : Int)) && decide ((l.length : Int) ≤ 3)) = true := by simpa using ha
    cases l with
    | nil => simp at ha
    | cons c l =>
      refine et_and (a := decide (((c :: l).length : Int) > 1)) (et_test (ed_op (ed_cb (ea_cons (ed_var rfl h0) ea_nil) (rl_lenS (by omega))) ed_int rd_gt)) fun _ => et_test (ED.is (ed_eqT (a := [c]) (ed_op (ed_var rfl h0) ed_int (rd_ixs (show atI (c :: l) ((0 : Nat) : Int) = some c from atI_nat rfl) (by omega))) (ed_lit "0")) (by rw [lit0]; simp))
  · refine s_ret (d := .int (lnum l)) n1.fh (ED.is (ed_neg ed_int) (by
      rw [no]
      rw [Bool.eq_false_iff]
      intro z
      unfold numOk at z
      simp only [Bool.and_eq_true, Bool.or_eq_true, Bool.not_eq_true', decide_eq_true_eq, decide_eq_false_iff_not] at z
      obtain ⟨⟨z1, z2⟩, _⟩ := z
      rw [Bool.or_eq_true] at hb
      rcases hb with hb | hb
      · rw [Bool.not_eq_true', Bool.and_eq_false_iff, decide_eq_false_iff_not, decide_eq_false_iff_not] at hb
        omega
      · rw [Bool.and_eq_true, decide_eq_true_eq, decide_eq_true_eq] at hb
        rcases z2 with z2 | z2
        · rw [z2] at hb; simp at hb
        · exact z2 hb.2)) fun v F2 H2 n2 r2 => q v F2 H2 (n1.trans n2) r2
  · have hb : (1 ≤ l.length ∧ l.length ≤ 3) ∧ (l = [48] ∨ l.head? ≠ some 48) := by
      rw [Bool.or_eq_false_iff, Bool.not_eq_false', Bool.and_eq_true, decide_eq_true_eq, decide_eq_true_eq, Bool.and_eq_false_iff, decide_eq_false_iff_not, decide_eq_false_iff_not] at hb
      refine ⟨by omega, ?_⟩
      rcases hb.2 with z | z
      · cases l with
        | nil => simp at hb
        | cons c l =>
          cases l with
          | nil =>
            by_cases e : c = 48
            · exact .inl (by rw [e])
            · exact .inr (by simpa using e)
          | cons c2 l => simp only [List.length_cons] at z; omega
      · exact .inr z
    refine q_when (b := !decide ((l.filter fun c => !isDig c) = [])) n1.fh (et_test (ED.is (ed_op (ed_lcT (f := fun c => !isDig c) (ed_var rfl h0) (by omega) (fun _ => rfl) (fun c F1 hc e1 => et_test (ED.is (ed_op (ed_var rfl (.str (SX.S [c]))) (ed_lit "0123456789") rd_niC) (by rw [dig_in]))) (fun _ => rfl)) (ed_lst ea_nil (by decide)) (rd_neD (okE_strs fun c hc => ok c (List.mem_filter.mp hc).1) okE_nil)) (by rw [eqD_empty]; simp))) (fun hb2 H2 n2 => ?_) (fun hb2 H2 n2 => ?_)
    · refine s_ret (d := .int (lnum l)) n2.fh (ED.is (ed_neg ed_int) (by
        rw [no]
        unfold numOk
        rw [Bool.and_eq_false_iff]; right
        rw [List.all_eq_false]
        rw [Bool.not_eq_true', decide_eq_false_iff_not] at hb2
        obtain ⟨c, hc⟩ := List.exists_mem_of_ne_nil _ hb2
        rw [List.mem_filter] at hc
        exact ⟨c, hc.1, by simpa using hc.2⟩)) fun v F2 H3 n3 r2 => q v F2 H3 ((n1.trans n2).trans n3) r2
    · have all : ∀ c ∈ l, isDig c = true := fun c hc => by
        rw [Bool.not_eq_false', decide_eq_true_eq, List.filter_eq_nil_iff] at hb2
        have := hb2 c hc
        simpa using this
      have okn : numOk l = true := by
        unfold numOk
        simp only [Bool.and_eq_true, Bool.or_eq_true, Bool.not_eq_true', decide_eq_true_eq, decide_eq_false_iff_not]
        exact ⟨⟨hb.1, hb.2⟩, List.all_eq_true.mpr all⟩
      have nv : numV l = some ((NumText.digitsVal l : Nat) : Int) := if_pos okn
      refine s_ret n2.fh (ED.is (ed_cb (ea_cons (ed_var rfl h0) ea_nil) (rl_intT (a := l) (n := 0) (List.all_eq_true.mpr fun c hc => all c hc) (fun z => by rw [z] at hb; simp at hb) (by omega))) (by rw [lnum_some nv])) fun v F3 H3 n3 r3 => q v F3 H3 ((n1.trans n2).trans n3) r3
theorem ok__law_ways_of {f : Addr} {fd : FuncData} (F : Fun K "_law_ways_of" "_law_ways_of" s__law_ways_of f fd) (T : Txt K mg A) (c__law_number : Df P w K mg base CX0 1 "_law_number" P__law_number (spR R_lnum))  : FnOk P w K mg base CX0 2 f fd P__law_ways_of (spR R_lwayso) := by
  refine F.ok sc__law_ways_of (len_R fun ds d h => by obtain ⟨_, rfl, _⟩ := h; rfl) (fun cdv A0 outer s H vs Q E hr h => ?_)
  have hu := hu64 hr
  obtain ⟨F0, ds, d, e0, r0, ⟨ws, rfl, hz, hl, rfl⟩, q⟩ := h
  obtain ⟨v0, _, rfl, h0, r0⟩ := r0.uncons
  obtain rfl := r0.unnil
  obtain ⟨a, vs, rfl, ha, rvs⟩ := h0.list
  have hn : vs.length = ws.length := by rw [rvs.n, List.length_map]
  refine ⟨_, (pss_cons (ps_set (i := 1) sc__law_ways_of.nd rfl (by first | exact Or.inl rfl | exact Or.inr rfl) (pe_lst pa_nil))
      (pss_cons (ps_for PassesOwn.never rfl (il_K K (pv 0)) (pg_name (i := 2) sc__law_ways_of.nd rfl (by first | exact Or.inl rfl | exact Or.inr rfl)) 
        (pss_cons (ps_setLc (i := 3) (own := [("_law_one", 4)]) (g := gName 4) (tt := tYes) rfl sc__law_ways_of.nd rfl rfl (sw_true rfl rfl rfl (by decide +kernel)) (il_K K (split_pe (pv 2) pe_str)) (blkOk_by (N := N__law_ways_of) (sc := defScope s__law_ways_of) (by decide +kernel)) (fun _ _ _ _ _ => by exact (pg_name (i := 4) sc__law_ways_of.nd rfl (by first | exact Or.inl rfl | exact Or.inr rfl))) (fun _ _ _ _ _ => by exact pts_nil) (fun _ _ _ _ _ => by exact (pe_df c__law_number hr (by decide) pass0 (pa_cons (pv 4) pa_nil))))
        (pss_cons (ps_if (PW.pt (pw_or (pt_cmpR (ne_K K hu) (pe_callB (len_K K) (by rfl) T.m_len bt_len (pa_cons (pv 3) pa_nil)) pe_int (nomark _)) (pw_or1 (pt_cmpR (in_K K) (pe_un un_neg pe_int) (pv 3) (by with_unfolding_all rfl))))) 
          (pss_one (ps_ret pe_non)) pss_nil)
        (pss_one (ps_expr (pe_bm PySem.F.plainAttrs_list PySem.F.slot_list_append PySem.F.type_list_append mt_append (pv 1) (pa_cons (pe_tup (pa_cons (pe_ix (ix_K K) (pv 3) pe_int (fun _ _ => rfl)) (pa_cons (pe_ix (ix_K K) (pv 3) pe_int (fun _ _ => rfl)) pa_nil))) pa_nil)))))))
      (pss_one (ps_ret (pv 1))))), ?_⟩
  refine q_new e0 fun p hp => ?_
  have c0 := Cw.start e0 hp
  show tSeq _ _ _ ([some (.ref a), some (.ref p), none, none, none] : L2.St) _
  refine q_forLV (a := a) (xs := vs) rfl (c0.fz _ _ ha) (fun n σ' H' => ∃ y2 y3 zs, σ' = [some (.ref a), some (.ref p), y2, y3, none] ∧ (ws.take n).mapM wayV = some zs ∧ Cw F0 H p (zs.map wayD) H') ⟨none, none, [], rfl, by simp, c0⟩ (fun n σ' H' c => ?_) (fun n v σ' H' hv c => ?_) (fun σ' H' c => ?_)
  · obtain ⟨_, _, _, _, _, c⟩ := c; exact c.fz _ _ ha
  · obtain ⟨y2, y3, zs, rfl, hm, cc⟩ := c
    obtain ⟨d, hd, rd⟩ := rvs.getv hv
    rw [List.getElem?_map, Option.map_eq_some_iff] at hd
    obtain ⟨w, hw, rfl⟩ := hd
    have wm := List.mem_of_getElem? hw
    have ⟨wl, wo⟩ := hl w wm
    have hlt := (List.getElem?_eq_some_iff.mp hw).1
    have cl := cut_len (c := 58) w
    have cp := cut_part (c := 58) w
    have co := okT_cut (c := 58) wo
    have fz := cc.fz
    have tk : (ws.take (n + 1)).mapM wayV = (wayV w).map fun b => zs ++ [b] := by
      rw [List.take_add_one, hw]
      show (ws.take n ++ [w]).mapM wayV = _
      rw [mapM_snoc, hm]; rfl
    have zl : zs.length ≤ 15001 := by have := (mapM_mem hm).1; rw [List.length_take] at this; omega
    obtain ⟨Fi, us, nx, fD, hDl, rs⟩ := cc.ex
    refine q_asg (F := Fi) (d := li ((cutC 58 w).map lnum)) nx.fh (ED.is (ed_lc (emb := sD) (xs := cutC 58 w) (fun _ => true) (fun x => .int (lnum x)) (ed_split (c := 58) (ed_var rfl (rd.mono nx.f)) (ED.is (ed_lit ":") (by rw [show lit ":" = [58] from by decide +kernel])) (by decide) (by omega)) (by omega) (fun _ => rfl) (fun _ _ _ _ _ _ => et_yes) (fun x v F1 hx e1 rv _ => ed_call (ea_cons (ed_var rfl rv) ea_nil) ⟨x, rfl, by have := cp x hx; omega, co x hx, rfl⟩)) (by rw [filter_yes]; unfold li; rw [List.map_map]; rfl)) fun v3 F1 H1 n1 h3 => ?_
    have n01 := nx.trans n1
    have f1 := n1.n p (by rw [hDl]; exact fun z => nomatch z) fD
    have k1 := n1.h _ _ hDl
    have rs1 := rs.mono n1.f
    show tSeq _ _ _ ([some (.ref a), some (.ref p), some v, some v3, none] : L2.St) _
    have wv := wayL_eq w
    refine q_when (b := !decide ((cutC 58 w).length = 2) || decide ((-1 : Int) ∈ (cutC 58 w).map lnum)) n1.fh (et_or (a := !decide ((cutC 58 w).length = 2)) (et_test (ED.is (ed_op (ED.is (ed_cb (ea_cons (ed_var rfl h3) ea_nil) rl_lenL) (by rw [List.length_map, List.length_map])) ed_int (rd_neD rfl rfl)) (by rw [eqv_int]; congr 2; rw [decide_eq_decide]; omega))) fun _ => et_test (ed_op (ed_neg ed_int) (ed_var rfl h3) rd_in)) (fun hb H2 n2 => ?_) (fun hb H2 n2 => ?_)
    · refine s_ret (d := optW (waysV ws)) n2.fh (ED.is ed_non ?_) fun v F3 H3 n3 r3 => q v F3 H3 ((n01.trans n2).trans n3) r3
      have : wayV w = none := by
        rw [← wv]; unfold wayL
        rw [Bool.or_eq_true] at hb
        cases e : cutC 58 w with
        | nil => rfl
        | cons x xs => cases xs with
          | nil => rfl
          | cons y ys => cases ys with
            | nil =>
              rw [e] at hb
              refine if_pos ?_
              rcases hb with hb | hb
              · simp at hb
              · have := of_decide_eq_true hb
                simp only [List.map_cons, List.map_nil, List.mem_cons, List.not_mem_nil, or_false] at this
                omega
            | cons z zs => rfl
      have : waysV ws = none := mapM_pre (n := n + 1) (by rw [tk, this]; rfl)
      rw [this]; rfl
    · rw [Bool.or_eq_false_iff, Bool.not_eq_false', decide_eq_true_eq, decide_eq_false_iff_not] at hb
      obtain ⟨x, y, e⟩ : ∃ x y, cutC 58 w = [x, y] := by
        cases e : cutC 58 w with
        | nil => rw [e] at hb; simp at hb
        | cons x xs => cases xs with
          | nil => rw [e] at hb; simp at hb
          | cons y ys => cases ys with
            | nil => exact ⟨x, y, rfl⟩
            | cons z zs => rw [e] at hb; simp at hb
      rw [e] at hb h3
      have hne : ¬ (lnum x = -1 ∨ lnum y = -1) := fun z => hb.2 (by
        simp only [List.map_cons, List.map_nil, List.mem_cons, List.not_mem_nil, or_false]
        omega)
      have wv : wayV w = some (lnum x, lnum y) := by rw [← wv]; unfold wayL; rw [e]; exact if_neg hne
      have k2 := n2.h _ _ k1
      refine s_app n2.fh f1 rfl k2 (by rw [rs.n, List.length_map]; omega) (ed_tup (ds := [.int (lnum x), .int (lnum y)]) (ea_cons (ed_op (ed_var rfl h3) ed_int (rd_ixl (at_nat (j := 0) rfl rfl))) (ea_cons (ed_op (ed_var rfl h3) ed_int (rd_ixl (at_nat (j := 1) rfl rfl))) ea_nil)) (by show 2 ≤ 100000; decide)) fun v4 F4 H4 n4 f4 r4 => ⟨_, _, zs ++ [(lnum x, lnum y)], rfl, by rw [tk, wv]; rfl, ⟨⟨F4, us ++ [v4], ((n01.trans n2).trans n4).mut cc.h0 f4, f4, upd_same, by rw [List.map_append]; exact (rs1.mono n4.f).snoc r4⟩, cc.h0⟩⟩
  · obtain ⟨y2, y3, zs, rfl, hm, cc⟩ := c
    rw [List.take_of_length_le (by omega)] at hm
    obtain ⟨F9, n9, r9⟩ := cc.done
    exact s_ret n9.fh (ED.is (ed_var rfl r9) (by show _ = optW (ws.mapM wayV); rw [hm]; rfl)) fun v F10 H10 n10 r10 => q v F10 H10 (n9.trans n10) r10
theorem ok__law_row_of {f : Addr} {fd : FuncData} (F : Fun K "_law_row_of" "_law_row_of" s__law_row_of f fd) (T : Txt K mg A) (c__law_number : Df P w K mg base CX0 1 "_law_number" P__law_number (spR R_lnum)) (c__law_ways_of : Df P w K mg base CX0 2 "_law_ways_of" P__law_ways_of (spR R_lwayso))  : FnOk P w K mg base CX0 3 f fd P__law_row_of (spR R_lrowo) := by
  refine F.ok sc__law_row_of (len_R fun ds d h => by obtain ⟨_, rfl, _⟩ := h; rfl) (fun cdv A0 outer s H vs Q E hr h => ?_)
  have hu := hu64 hr
  obtain ⟨F0, ds, d, e0, r0, ⟨l, rfl, hl, ok, rfl⟩, q⟩ := h
  obtain ⟨v0, _, rfl, h0, r0⟩ := r0.uncons
  obtain rfl := r0.unnil
  have cl := cut_len (c := 32) l
  have cp := cut_part (c := 32) l
  have co := okT_cut (c := 32) ok
  have cc := cut_cons 32 l
  rw [cc] at cl cp co
  rw [List.length_cons] at cl
  refine ⟨_, (pss_cons (ps_set (i := 1) sc__law_row_of.nd rfl (by first | exact Or.inl rfl | exact Or.inr rfl) (split_pe (pv 0) pe_str))
      (pss_cons (ps_if (pt_cmpR op_eq (pv 0) pe_str (nomark _)) 
        (pss_one (ps_ret (pe_tup (pa_cons pe_non (pa_cons (pe_lst pa_nil) pa_nil))))) pss_nil)
      (pss_cons (ps_if (PW.pt (pw_or (pt_cmpR op_lt (pe_df c__law_number hr (by decide) pass0 (pa_cons (pe_ix (ix_K K) (pv 1) pe_int (fun _ _ => rfl)) pa_nil)) pe_int (nomark _)) (pw_or1 (pt_cmpR op_isN1 (pe_df c__law_ways_of hr (by decide) pass0 (pa_cons (pe_slice (sl_K K) (pv 1) (po_some pe_int) po_none) pa_nil)) pe_non (nomark _))))) 
        (pss_one (ps_ret pe_non)) pss_nil)
      (pss_one (ps_ret (pe_tup (pa_cons (pe_df c__law_number hr (by decide) pass0 (pa_cons (pe_ix (ix_K K) (pv 1) pe_int (fun _ _ => rfl)) pa_nil)) (pa_cons (pe_df c__law_ways_of hr (by decide) pass0 (pa_cons (pe_slice (sl_K K) (pv 1) (po_some pe_int) po_none) pa_nil)) pa_nil)))))))), ?_⟩
  refine q_asg (d := .lst (sD (hdC 32 l) :: (tlC 32 l).map sD)) e0 (ED.is (ed_split (c := 32) (ed_var rfl h0) (ED.is (ed_lit " ") (by rw [show lit " " = [32] from by decide +kernel])) (by decide) (by omega)) (by rw [cc]; rfl)) fun v1 F1 H1 n1 h1 => ?_
  have h0' := h0.mono n1.f
  have num : ∀ σ : L2.St, σ[1]? = some (some v1) → ED (tCall (spR R_lnum) [] E (tCons (tOp (rIx K) (tVar 1) (tC (.int 0))) tNil)) σ F1 (.int (lnum (hdC 32 l))) := fun σ h => ed_call (ea_cons (ed_op (ed_var h h1) ed_int (rd_ixl (at_nat (j := 0) rfl rfl))) ea_nil) ⟨_, rfl, by have := cp _ List.mem_cons_self; omega, co _ List.mem_cons_self, rfl⟩
  have ways : ∀ σ : L2.St, σ[1]? = some (some v1) → ED (tCall (spR R_lwayso) [] E (tCons (tSl (rSlL K) (tVar 1) (tPart (tC (.int 1))) tNoPart) tNil)) σ F1 (optW (waysV (tlC 32 l))) := fun σ h => ed_call (ea_cons (ED.is (d' := .lst ((tlC 32 l).map sD)) (ed_sl (ed_var h h1) (eo_some ed_int) eo_none) (by rw [show (some (1 : Int)) = some ((1 : Nat) : Int) from rfl, cut_from (by simp)]; rfl)) ea_nil) ⟨_, rfl, by omega, fun w hw => ⟨by have := cp w (List.mem_cons_of_mem _ hw); omega, co w (List.mem_cons_of_mem _ hw)⟩, rfl⟩
  refine q_when (b := decide (l = lit "there")) n1.fh (et_test (ed_eqT (ed_var rfl h0') (ed_lit "there"))) (fun hb H2 n2 => ?_) (fun hb H2 n2 => ?_)
  · have hb := of_decide_eq_true hb
    exact s_ret n2.fh (ED.is (ed_tup (ds := [.non, .lst []]) (ea_cons ed_non (ea_cons (ed_lst ea_nil (by decide)) ea_nil)) (by show 2 ≤ 100000; decide)) (by unfold rowL; rw [if_pos hb]; rfl)) fun v F3 H3 n3 r3 => q v F3 H3 ((n1.trans n2).trans n3) r3
  · have hb := of_decide_eq_false hb
    have rl : rowL l = (numV (hdC 32 l)).bind fun k => (waysV (tlC 32 l)).map fun x => (some k, x) := if_neg hb
    have lt : ∀ n, numV (hdC 32 l) = some n → ¬ lnum (hdC 32 l) < 0 := fun n h => by have := num_pos h; rw [lnum_some h]; omega
    refine q_when (b := decide (lnum (hdC 32 l) < 0) || isNonD (optW (waysV (tlC 32 l)))) n2.fh (et_or (et_test (ed_op (num _ rfl) ed_int rd_lt)) fun _ => et_test (ed_op (ways _ rfl) ed_non rd_isN)) (fun hb2 H3 n3 => ?_) (fun hb2 H3 n3 => ?_)
    · refine s_ret n3.fh (ED.is ed_non ?_) fun v F4 H4 n4 r4 => q v F4 H4 (((n1.trans n2).trans n3).trans n4) r4
      rw [rl]
      cases e1 : numV (hdC 32 l) with
      | none => rfl
      | some k =>
        cases e2 : waysV (tlC 32 l) with
        | none => rfl
        | some x =>
          rw [e2, decide_eq_false (lt k e1)] at hb2
          cases hb2
    · obtain ⟨k, e1⟩ : ∃ k, numV (hdC 32 l) = some k := by
        cases e1 : numV (hdC 32 l) with
        | none => rw [lnum_neg.mpr e1] at hb2; cases hb2
        | some k => exact ⟨k, rfl⟩
      obtain ⟨x, e2⟩ : ∃ x, waysV (tlC 32 l) = some x := by
        cases e2 : waysV (tlC 32 l) with
        | none => rw [e2, Bool.or_eq_false_iff] at hb2; cases hb2.2
        | some x => exact ⟨x, rfl⟩
      refine s_ret n3.fh (ED.is (ed_tup (ds := [.int k, waysD x]) (ea_cons (ED.is (num _ rfl) (by rw [lnum_some e1])) (ea_cons (ED.is (ways _ rfl) (by rw [e2]; rfl)) ea_nil)) (by show 2 ≤ 100000; decide)) (by rw [rl, e1, e2]; rfl)) fun v F4 H4 n4 r4 => q v F4 H4 (((n1.trans n2).trans n3).trans n4) r4
theorem ok__law_good_ways {f : Addr} {fd : FuncData} (F : Fun K "_law_good_ways" "_law_good_ways" s__law_good_ways f fd) (T : Txt K mg A)   : FnOk P w K mg base CX0 1 f fd P__law_good_ways (spR R_lgood) := by
  refine F.ok sc__law_good_ways (len_R fun ds d h => by obtain ⟨_, _, _, rfl, _⟩ := h; rfl) (fun cdv A0 outer s H vs Q E hr h => ?_)
  have hu := hu64 hr
  obtain ⟨F0, ds, d, e0, r0, ⟨ws, a, b, rfl, w0, wl, ha, rfl⟩, q⟩ := h
  obtain ⟨v0, _, rfl, h0, r0⟩ := r0.uncons
  obtain ⟨v1, _, rfl, h1, r0⟩ := r0.uncons
  obtain ⟨v2, _, rfl, h2, r0⟩ := r0.uncons
  obtain rfl := r0.unnil
  obtain rfl := h1.eint
  obtain rfl := h2.eint
  have iff1 := ways_iff (a := a) (b := b) w0
  refine ⟨_, (pss_cons (ps_for PassesOwn.never rfl (pi_range1 rfl T.m_range (pa_cons (pe_callB (len_K K) (by rfl) T.m_len bt_len (pa_cons (pv 0) pa_nil)) pa_nil)) (pg_name (i := 3) sc__law_good_ways.nd rfl (by first | exact Or.inl rfl | exact Or.inr rfl)) 
        (pss_one (ps_if (PW.pt (pw_or (pt_cmpR op_gt (pe_ix (ix_K K) (pe_ix (ix_K K) (pv 0) (pv 3) (fun _ _ => rfl)) pe_int (fun _ _ => rfl)) pe_int (nomark _)) (pw_or (pt_not (pt_chain op_le op_lt (pv 1) (pe_ix (ix_K K) (pe_ix (ix_K K) (pv 0) (pv 3) (fun _ _ => rfl)) pe_int (fun _ _ => rfl)) (pv 2))) (pw_or1 (PW.pt (pw_and (pt_cmpR op_gt (pv 3) pe_int (nomark _)) (pw_and1 (pt_cmpR op_le (pe_ix (ix_K K) (pe_ix (ix_K K) (pv 0) (pv 3) (fun _ _ => rfl)) pe_int (fun _ _ => rfl)) (pe_ix (ix_K K) (pe_ix (ix_K K) (pv 0) (pe_op op_sub (pv 3) pe_int) (fun _ _ => rfl)) pe_int (fun _ _ => rfl)) (nomark _))))))))) 
          (pss_one (ps_ret pe_bl)) pss_nil)))
      (pss_one (ps_ret pe_bl))), ?_⟩
  have at_ : ∀ (σ : L2.St) (F' : Hp) (te : TE) (k : Nat) (hk : k < ws.length), Ex F0 F' → σ[0]? = some (some v0) → ED te σ F' (.int (k : Int)) → ED (tOp (rIx K) (tVar 0) te) σ F' (wayD ws[k]) := fun σ F' te k hk e' hσ ht => ed_op (ed_var hσ (h0.mono e')) ht (rd_ixl (at_nat (j := k) rfl (by rw [List.getElem?_map, List.getElem?_eq_getElem hk]; rfl)))
  refine q_forR (n := (ws.length : Int)) e0 (ea_cons (ED.is (ed_cb (ea_cons (ed_var rfl h0) ea_nil) rl_lenL) (by rw [List.length_map])) ea_nil) (by omega) fun H1 n1 => ?_
  refine ⟨fun i σ' H' => ∃ y, σ' = [some v0, some (.int a), some (.int b), y] ∧ Ex H H' ∧ ∀ k < i, wayOk ws a b k, ⟨none, rfl, n1.h, fun k hk => by omega⟩, fun i σ' H' hi p => ?_, fun σ' H' p => ?_⟩
  · obtain ⟨y, rfl, x1, all⟩ := p
    have hi' : i < ws.length := by omega
    have e1 := e0.trans x1
    have i0 : ∀ (F' : Hp), Ex F0 F' → ED (tOp (rIx K) (tOp (rIx K) (tVar 0) (tVar 3)) (tC (.int 0))) [some v0, some (.int a), some (.int b), some (.int (i : Int))] F' (.int ws[i].1) := fun F' e' => ed_op (at_ _ _ _ i hi' e' rfl (ed_var rfl (.int _))) ed_int (rd_ixt (at_nat (j := 0) rfl rfl))
    have i1 : ∀ (F' : Hp), Ex F0 F' → ED (tOp (rIx K) (tOp (rIx K) (tVar 0) (tVar 3)) (tC (.int 1))) [some v0, some (.int a), some (.int b), some (.int (i : Int))] F' (.int ws[i].2) := fun F' e' => ed_op (at_ _ _ _ i hi' e' rfl (ed_var rfl (.int _))) ed_int (rd_ixt (at_nat (j := 1) rfl rfl))
    by_cases i0' : i = 0
    · subst i0'
      refine s_if (b := decide (ws[0].1 > 9) || (!(decide (a ≤ ws[0].2) && decide (ws[0].2 < b)) || false)) e1 (et_or (et_test (ed_op (i0 _ (Ex.refl _)) ed_int rd_gt)) fun _ => et_or (et_not (et_test (ed_chain (ed_var rfl (.int a)) (i1 _ (Ex.refl _)) rd_le (fun _ => ed_var rfl (.int b)) fun _ => rd_lt))) fun _ => ET.is (et_and (a := false) (b := false) (et_test (ED.is (ed_op (ed_var rfl (.int _)) ed_int rd_gt) rfl)) fun z => nomatch z) rfl) (fun hb H3 n3 => ?_) (fun hb H3 n3 => ⟨_, rfl, x1.trans n3.h, fun k hk => ?_⟩)
      · refine s_ret n3.fh (ED.is (ed_bl (b := false)) ?_) fun v F4 H4 n4 r4 => q v F4 H4 ((((Nx.refl e0).up x1).trans n3).trans n4) r4
        rw [show areWays (waysD ws) a b = false from Bool.eq_false_iff.mpr fun z => by
          have := iff1.mp ((areWays_of ha).mp z) 0 hi'
          rw [decide_eq_false (by omega), decide_eq_true this.2.1, decide_eq_true this.2.2.1] at hb
          cases hb]
      · have : k = 0 := by omega
        subst this
        intro h9
        rw [Bool.or_eq_false_iff, Bool.or_eq_false_iff, decide_eq_false_iff_not, Bool.not_eq_false', Bool.and_eq_true, decide_eq_true_eq, decide_eq_true_eq] at hb
        exact ⟨by omega, hb.2.1.1, hb.2.1.2, fun z => by omega⟩
    · have hj : i - 1 < ws.length := by omega
      have j0 : ∀ (F' : Hp), Ex F0 F' → ED (tOp (rIx K) (tOp (rIx K) (tVar 0) (tOp (rI0 fun i j => .int (i - j)) (tVar 3) (tC (.int 1)))) (tC (.int 0))) [some v0, some (.int a), some (.int b), some (.int (i : Int))] F' (.int ws[i - 1].1) := fun F' e' => ed_op (at_ _ _ _ (i - 1) hj e' rfl (ED.is (ed_op (ed_var rfl (.int _)) ed_int rd_sub) (by congr 1; omega))) ed_int (rd_ixt (at_nat (j := 0) rfl rfl))
      refine s_if (b := decide (ws[i].1 > 9) || (!(decide (a ≤ ws[i].2) && decide (ws[i].2 < b)) || decide (ws[i].1 ≤ ws[i - 1].1))) e1 (et_or (et_test (ed_op (i0 _ (Ex.refl _)) ed_int rd_gt)) fun _ => et_or (et_not (et_test (ed_chain (ed_var rfl (.int a)) (i1 _ (Ex.refl _)) rd_le (fun _ => ed_var rfl (.int b)) fun _ => rd_lt))) fun _ => ET.is (et_and (a := true) (et_test (ED.is (ed_op (ed_var rfl (.int _)) ed_int rd_gt) (by rw [decide_eq_true (by omega)]))) fun _ => et_test (ed_op (i0 _ (Ex.refl _)) (ed_op (ed_op (ed_var rfl h0) (ed_op (ed_var rfl (.int _)) ed_int rd_sub) (rd_ixl (at_nat (j := i - 1) (by omega) (by rw [List.getElem?_map, List.getElem?_eq_getElem hj]; rfl)))) ed_int (rd_ixt (at_nat (j := 0) rfl rfl))) rd_le)) (by simp)) (fun hb H3 n3 => ?_) (fun hb H3 n3 => ⟨_, rfl, x1.trans n3.h, fun k hk => ?_⟩)
      · refine s_ret n3.fh (ED.is (ed_bl (b := false)) ?_) fun v F4 H4 n4 r4 => q v F4 H4 ((((Nx.refl e0).up x1).trans n3).trans n4) r4
        rw [show areWays (waysD ws) a b = false from Bool.eq_false_iff.mpr fun z => by
          have := iff1.mp ((areWays_of ha).mp z) i hi'
          have h4 := this.2.2.2 (by omega) hj
          rw [decide_eq_false (by omega), decide_eq_true this.2.1, decide_eq_true this.2.2.1, decide_eq_false (by omega)] at hb
          cases hb]
      · by_cases e : k < i
        · exact all k e
        · have : k = i := by omega
          subst this
          intro h9
          rw [Bool.or_eq_false_iff, Bool.or_eq_false_iff, decide_eq_false_iff_not, Bool.not_eq_false', Bool.and_eq_true, decide_eq_true_eq, decide_eq_true_eq, decide_eq_false_iff_not] at hb
          exact ⟨by omega, hb.2.1.1, hb.2.1.2, fun _ h2 => by omega⟩
  · obtain ⟨y, rfl, x1, all⟩ := p
    refine s_ret (e0.trans x1) (ED.is (ed_bl (b := true)) ?_) fun v F4 H4 n4 r4 => q v F4 H4 (((Nx.refl e0).up x1).trans n4) r4
    rw [show areWays (waysD ws) a b = true from (areWays_of ha).mpr (iff1.mpr fun k => by
      by_cases e : k < ws.length
      · exact all k (by omega)
      · exact fun h9 => absurd h9 e)]
theorem ok__law_plan_of {f : Addr} {fd : FuncData} (F : Fun K "_law_plan_of" "_law_plan_of" s__law_plan_of f fd) (T : Txt K mg A) (c__law_ways_of : Df P w K mg base CX0 2 "_law_ways_of" P__law_ways_of (spR R_lwayso)) (c__law_row_of : Df P w K mg base CX0 3 "_law_row_of" P__law_row_of (spR R_lrowo)) (c__law_good_ways : Df P w K mg base CX0 1 "_law_good_ways" P__law_good_ways (spR R_lgood))  : FnOk P w K mg base CX0 4 f fd P__law_plan_of (spR R_lplan) := by
  refine F.ok sc__law_plan_of (len_R fun ds d h => by obtain ⟨_, rfl, _⟩ := h; rfl) (fun cdv A0 outer s H vs Q E hr h => ?_)
  have hu := hu64 hr
  obtain ⟨F0, ds, d, e0, r0, ⟨t, rfl, hl, ok, rfl⟩, q⟩ := h
  obtain ⟨v0, _, rfl, h0, r0⟩ := r0.uncons
  obtain rfl := r0.unnil
  have cl := cut_len (c := 10) t
  have cp := cut_part (c := 10) t
  have co := okT_cut (c := 10) ok
  have cc := cut_cons 10 t
  have cs := cut_snoc 10 t
  have rV := readV_L t
  refine ⟨_, (pss_cons (ps_set (i := 1) sc__law_plan_of.nd rfl (by first | exact Or.inl rfl | exact Or.inr rfl) (split_pe (pv 0) pe_str))
      (pss_cons (ps_if (PW.pt (pw_or (pt_cmpR op_ne (pe_ix (ix_K K) (pv 1) (pe_un un_neg pe_int) (fun _ _ => rfl)) pe_str (nomark _)) (pw_or1 (PW.pt (pw_and (pt_cmpR op_ne (pe_ix (ix_K K) (pv 1) pe_int (fun _ _ => rfl)) pe_str (nomark _)) (pw_and1 (pt_cmpR op_ne (pe_slice sl_str (pe_ix (ix_K K) (pv 1) pe_int (fun _ _ => rfl)) po_none (po_some pe_int)) pe_str (nomark _)))))))) 
        (pss_one (ps_ret pe_non)) pss_nil)
      (pss_cons (ps_set (i := 2) sc__law_plan_of.nd rfl (by first | exact Or.inl rfl | exact Or.inr rfl) (pe_df c__law_ways_of hr (by decide) pass0 (pa_cons (pe_slice (sl_K K) (split_pe (pe_ix (ix_K K) (pv 1) pe_int (fun _ _ => rfl)) pe_str) (po_some pe_int) po_none) pa_nil)))
      (pss_cons (ps_setLc (i := 3) (own := [("_law_line", 4)]) (g := gName 4) (tt := tYes) rfl sc__law_plan_of.nd rfl rfl (sw_true rfl rfl rfl (by decide +kernel)) (il_K K (pe_slice (sl_K K) (pv 1) (po_some pe_int) (po_some (pe_un un_neg pe_int)))) (blkOk_by (N := N__law_plan_of) (sc := defScope s__law_plan_of) (by decide +kernel)) (fun _ _ _ _ _ => by exact (pg_name (i := 4) sc__law_plan_of.nd rfl (by first | exact Or.inl rfl | exact Or.inr rfl))) (fun _ _ _ _ _ => by exact pts_nil) (fun _ _ _ _ _ => by exact (pe_df c__law_row_of hr (by decide) pass0 (pa_cons (pv 4) pa_nil))))
      (pss_cons (ps_if (PW.pt (pw_or (pt_cmpR op_isN1 (pv 2) pe_non (nomark _)) (pw_or (pt_cmpR (inD_K K (hu65 hr)) pe_non (pv 3) (by with_unfolding_all rfl)) (pw_or (pt_cmpR op_gt (pe_callB (len_K K) (by rfl) T.m_len bt_len (pa_cons (pv 3) pa_nil)) pe_int (nomark _)) (pw_or1 (pt_not (pt_val (pe_df c__law_good_ways hr (by decide) pass0 (pa_cons (pv 2) (pa_cons pe_int (pa_cons (pe_callB (len_K K) (by rfl) T.m_len bt_len (pa_cons (pv 3) pa_nil)) pa_nil))))))))))) 
        (pss_one (ps_ret pe_non)) pss_nil)
      (pss_cons (ps_for PassesOwn.never rfl (pi_enum (by rfl) T.m_enumerate (pa_cons (pv 3) pa_nil)) (pg_tup rfl (pgs_cons (pg_name (i := 5) sc__law_plan_of.nd rfl (by first | exact Or.inl rfl | exact Or.inr rfl)) (pgs_cons (pg_name (i := 6) sc__law_plan_of.nd rfl (by first | exact Or.inl rfl | exact Or.inr rfl)) pgs_nil))) 
        (pss_one (ps_if (PW.pt (pw_and (pt_cmpR op_notN1 (pe_ix (ix_K K) (pv 6) pe_int (fun _ _ => rfl)) pe_non (nomark _)) (pw_and1 (PW.pt (pw_or (pt_cmpR op_gt (pe_ix (ix_K K) (pv 6) pe_int (fun _ _ => rfl)) pe_int (nomark _)) (pw_or1 (pt_not (pt_val (pe_df c__law_good_ways hr (by decide) pass0 (pa_cons (pe_ix (ix_K K) (pv 6) pe_int (fun _ _ => rfl)) (pa_cons (pe_op op_addA (pv 5) pe_int) (pa_cons (pe_callB (len_K K) (by rfl) T.m_len bt_len (pa_cons (pv 3) pa_nil)) pa_nil)))))))))))) 
          (pss_one (ps_ret pe_non)) pss_nil)))
      (pss_one (ps_ret (pe_tup (pa_cons (pv 2) (pa_cons (pv 3) pa_nil))))))))))), ?_⟩
  refine q_asg (d := .lst ((cutC 10 t).map sD)) e0 (ed_split (c := 10) (ed_var rfl h0) (ED.is (ed_lit "\n") (by rw [show lit "\n" = [10] from by decide +kernel])) (by decide) (by omega)) fun v1 F1 H1 n1 h1 => ?_
  have h1s : Rp F1 v1 (.lst ((frC 10 t).map sD ++ [sD (laC 10 t)])) := by rw [cs, List.map_append] at h1; exact h1
  have h1c : Rp F1 v1 (.lst (sD (hdC 10 t) :: (tlC 10 t).map sD)) := by rw [cc] at h1; exact h1
  have hd15 : (hdC 10 t).length ≤ 15000 := by have := cp (hdC 10 t) (by rw [cc]; exact List.mem_cons_self); omega
  have first : ∀ (σ : L2.St) F', Ex F1 F' → σ[1]? = some (some v1) → ED (tOp (rIx K) (tVar 1) (tC (.int 0))) σ F' (sD (hdC 10 t)) := fun σ F' e' h => ed_op (ed_var h (h1c.mono e')) ed_int (rd_ixl (at_nat (j := 0) rfl rfl))
  show tSeq _ _ _ ([some v0, some v1, none, none, none, none, none] : L2.St) _
  refine q_when (b := !decide (laC 10 t = []) || (!decide (hdC 10 t = lit "begin") && !decide ((hdC 10 t).take 6 = lit "begin" ++ [32]))) n1.fh (et_or (et_test (ED.is (ed_neT (b := lit "") (ed_op (ed_var rfl h1s) (ed_neg ed_int) (rd_ixl (atI_last _ _))) (ed_lit "")) (by rw [show lit "" = [] from rfl]))) fun _ => et_and (et_test (ed_neT (first _ _ (Ex.refl _) rfl) (ed_lit "begin"))) fun _ => et_test (ED.is (ed_neT (b := lit "begin ") (ED.is (ed_cutT (first _ _ (Ex.refl _) rfl) eo_none (eo_some ed_int) (by omega)) (by rw [show (some (6 : Int)) = some ((6 : Nat) : Int) from rfl, cutN_take])) (ed_lit "begin ")) (by rw [show lit "begin " = lit "begin" ++ [32] from by decide +kernel]))) (fun hb H2 n2 => ?_) (fun hb H2 n2 => ?_)
  · refine s_ret n2.fh (ED.is ed_non ?_) fun v F3 H3 n3 r3 => q v F3 H3 ((n1.trans n2).trans n3) r3
    have : readV t = none := by
      rw [rV]
      by_cases hla : laC 10 t = []
      · rw [if_pos hla]
        rw [decide_eq_true hla, Bool.not_true, Bool.false_or, Bool.and_eq_true, Bool.not_eq_true', Bool.not_eq_true', decide_eq_false_iff_not, decide_eq_false_iff_not] at hb
        rcases fr_cases t with ⟨e1, _⟩ | ⟨l0, ls, e1, e2⟩
        · rw [e1]
        · rw [e1]
          rw [e2] at hb
          exact if_neg fun z => by
            rcases begin_iff.mp z with z | z
            · exact hb.1 z
            · exact hb.2 z
      · rw [if_neg hla]
    rw [this]; rfl
  rw [Bool.or_eq_false_iff, Bool.not_eq_false', decide_eq_true_eq, Bool.and_eq_false_iff, Bool.not_eq_false', Bool.not_eq_false', decide_eq_true_eq, decide_eq_true_eq] at hb
  obtain ⟨hla, hbeg⟩ := hb
  obtain ⟨l0, ls, e1, e2⟩ : ∃ l0 ls, frC 10 t = l0 :: ls ∧ hdC 10 t = l0 := by
    rcases fr_cases t with ⟨e1, e2⟩ | h
    · rw [e2, hla] at hbeg
      rcases hbeg with z | z
      · rw [litB] at z; cases z
      · rw [litB] at z; cases z
    · exact h
  rw [e2] at hbeg
  have hbg : hdC 32 l0 = lit "begin" := begin_iff.mpr hbeg
  rw [hla, e1] at rV
  have rV : readV t = (waysV (tlC 32 l0)).bind fun ws => (ls.mapM rowL).bind fun rows => if isPlan (planD (ws, rows)) 5 = true then some (ws, rows) else none := by
    rw [rV, if_pos rfl]
    exact if_pos hbg
  have mem : ∀ l ∈ l0 :: ls, l.length ≤ 15000 ∧ okT l := fun l hl' => by
    have hm : l ∈ cutC 10 t := by rw [cs, e1]; exact List.mem_append_left _ hl'
    exact ⟨by have := cp l hm; omega, co l hm⟩
  have lsl : ls.length ≤ 15000 := by rw [cs, e1, List.length_append, List.length_cons, List.length_singleton] at cl; omega
  have ⟨m1, m2⟩ := mem l0 List.mem_cons_self
  have cl0 := cut_len (c := 32) l0
  have cp0 := cut_part (c := 32) l0
  have co0 := okT_cut (c := 32) m2
  have cc0 := cut_cons 32 l0
  rw [cc0] at cl0 cp0 co0
  rw [List.length_cons] at cl0
  refine q_asg (d := optW (waysV (tlC 32 l0))) n2.fh (ed_call (ea_cons (ED.is (d' := .lst ((tlC 32 l0).map sD)) (ed_sl (ED.is (ed_split (c := 32) (first _ _ (Ex.refl _) rfl) (ED.is (ed_lit " ") (by rw [show lit " " = [32] from by decide +kernel])) (by decide) (by omega)) (by rw [e2, cc0]; try rfl)) (eo_some ed_int) eo_none) (by rw [show (some (1 : Int)) = some ((1 : Nat) : Int) from rfl, cut_from (by simp)]; try rfl)) ea_nil) ⟨_, rfl, by omega, fun w hw => ⟨by have := cp0 w (List.mem_cons_of_mem _ hw); omega, co0 w (List.mem_cons_of_mem _ hw)⟩, rfl⟩) fun v2 F3 H3 n3 h2 => ?_
  have n13 := (n1.trans n2).trans n3
  have h1m : Rp F3 v1 (.lst (sD l0 :: ls.map sD ++ [sD (laC 10 t)])) := by
    have := h1s.mono n3.f
    rw [e1] at this; exact this
  refine q_asg (d := .lst ((ls.map rowL).map optR)) n3.fh (ED.is (ed_lc (emb := sD) (xs := ls) (fun _ => true) (fun l => optR (rowL l)) (ED.is (ed_sl (ed_var rfl h1m) (eo_some ed_int) (eo_some (ed_neg ed_int))) (by rw [mid_cut])) (by omega) (fun _ => rfl) (fun _ _ _ _ _ _ => et_yes) (fun l v F4 hl' e4 rv _ => ed_call (ea_cons (ed_var rfl rv) ea_nil) ⟨l, rfl, (mem l (List.mem_cons_of_mem _ hl')).1, (mem l (List.mem_cons_of_mem _ hl')).2, rfl⟩)) (by rw [filter_yes, List.map_map]; rfl)) fun v3 F4 H4 n4 h3 => ?_
  have n14 := n13.trans n4
  have h2 := h2.mono n4.f
  show tSeq _ _ _ ([some v0, some v1, some v2, some v3, none, none, none] : L2.St) _
  have lenR : ∀ (σ : L2.St) F', Ex F4 F' → σ[3]? = some (some v3) → ED (tCB (rLenS' K) (tCons (tVar 3) tNil)) σ F' (.int (ls.length : Int)) := fun σ F' e' h => ED.is (ed_cb (ea_cons (ed_var h (h3.mono e')) ea_nil) rl_lenL) (by rw [List.length_map, List.length_map])
  -- what is asked before the rows
  cases ew : waysV (tlC 32 l0) with
  | none =>
    rw [ew] at h2
    refine q_when (b := true) n4.fh (ET.is (et_or (a := true) (b := true) (et_test (ED.is (ed_op (ed_var rfl h2) ed_non rd_isN) rfl)) fun z => nomatch z) rfl) (fun _ H5 n5 => ?_) (fun hb => nomatch hb)
    refine s_ret n5.fh (ED.is ed_non ?_) fun v F6 H6 n6 r6 => q v F6 H6 ((n14.trans n5).trans n6) r6
    rw [rV, ew]; rfl
  | some ws =>
    rw [ew] at h2 rV
    have ⟨wl, w0⟩ := waysV_at ew
    have h2 : Rp F4 v2 (waysD ws) := h2
    refine q_when (b := false || (decide (none ∈ ls.map rowL) || (decide ((ls.length : Int) > 300) || !areWays (waysD ws) 0 ls.length))) n4.fh (et_or (et_test (ED.is (ed_op (ed_var rfl h2) ed_non rd_isN) rfl)) fun _ => et_or (et_test (ed_op ed_non (ed_var rfl h3) rd_inNone)) fun _ => et_or (et_test (ed_op (lenR _ _ (Ex.refl _) rfl) ed_int rd_gt)) fun _ => et_not (et_B (ed_call (ea_cons (ed_var rfl h2) (ea_cons ed_int (ea_cons (lenR _ _ (Ex.refl _) rfl) ea_nil))) ⟨ws, 0, _, rfl, w0, by omega, by decide, rfl⟩))) (fun hb H5 n5 => ?_) (fun hb H5 n5 => ?_)
    · refine s_ret n5.fh (ED.is ed_non ?_) fun v F6 H6 n6 r6 => q v F6 H6 ((n14.trans n5).trans n6) r6
      have : readV t = none := by
        rw [rV]
        show ((ls.mapM rowL).bind fun rows => if isPlan (planD (ws, rows)) 5 = true then some (ws, rows) else none) = none
        cases er : ls.mapM rowL with
        | none => rfl
        | some rows =>
          obtain ⟨r1, r2⟩ := mapM_mem er
          refine if_neg fun z => ?_
          have gp := isPlan_of.mp z
          have g1 : rows.length ≤ 300 := gp.l
          have g2 : GoodWays 0 rows.length ws := gp.w
          rw [Bool.false_or, Bool.or_eq_true, Bool.or_eq_true, decide_eq_true_eq, decide_eq_true_eq, Bool.not_eq_true'] at hb
          rcases hb with hb | hb | hb
          · obtain ⟨l, hl', e⟩ := List.mem_map.mp hb
            obtain ⟨i, hi⟩ := List.mem_iff_getElem?.mp hl'
            obtain ⟨y, _, hy⟩ := r2 i l hi
            rw [e] at hy; cases hy
          · omega
          · rw [show ((ls.length : Nat) : Int) = (rows.length : Int) from by rw [r1], (areWays_of (Int.le_refl 0)).mpr g2] at hb; cases hb
      rw [this]; rfl
    · rw [Bool.false_or, Bool.or_eq_false_iff, Bool.or_eq_false_iff, decide_eq_false_iff_not, decide_eq_false_iff_not, Bool.not_eq_false'] at hb
      obtain ⟨nn, l300, aw⟩ := hb
      obtain ⟨rows, er⟩ := mapM_all (f := rowL) (xs := ls) fun l hl' z => nn (List.mem_map.mpr ⟨l, hl', z⟩)
      obtain ⟨r1, r2⟩ := mapM_mem er
      have em : ls.map rowL = rows.map some := by
        refine List.ext_getElem? fun i => ?_
        rw [List.getElem?_map, List.getElem?_map]
        cases hi : ls[i]? with
        | none => rw [List.getElem?_eq_none (by rw [r1]; exact List.getElem?_eq_none_iff.mp hi)]; rfl
        | some l =>
          obtain ⟨y, hy, hf⟩ := r2 i l hi
          rw [hy]
          show some (rowL l) = some (some y)
          rw [hf]
      have h3 : Rp F4 v3 (rowsD rows) := by
        rw [em, List.map_map] at h3; exact h3
      have gw : GoodWays 0 rows.length ws := by rw [r1]; exact (areWays_of (Int.le_refl 0)).mp aw
      rw [er] at rV
      have rV : readV t = if isPlan (planD (ws, rows)) 5 = true then some (ws, rows) else none := rV
      have rat : ∀ (i : Nat) (r : Rw), rows[i]? = some r → (r.1 = none → r.2 = []) ∧ (∀ k, r.1 = some k → 0 ≤ k) ∧ (∀ w ∈ r.2, 0 ≤ w.1) ∧ r.2.length ≤ 15001 := fun i r hi => by
        have hlt := (List.getElem?_eq_some_iff.mp hi).1
        obtain ⟨y, hy, hf⟩ := r2 i ls[i] (List.getElem?_eq_getElem (by omega))
        rw [hi] at hy
        cases hy
        have := rowL_at hf
        exact ⟨this.1, this.2.1, this.2.2.1, by have h8 := (mem ls[i] (List.mem_cons_of_mem _ (List.getElem_mem _))).1; omega⟩
      refine q_forE (ds := rows.map rowD) n5.fh (ea_cons (ed_var rfl h3) ea_nil) fun F6 H6 n6 => ?_
      have n16 := (n14.trans n5).trans n6
      refine ⟨fun i σ' H' => ∃ y5 y6, σ' = [some v0, some v1, some v2, some v3, none, y5, y6] ∧ Ex H H' ∧ Ex F6 H' ∧ ∀ k r, k < i → rows[k]? = some r → GoodRow 5 k rows.length r, ⟨none, none, rfl, n16.h, n6.fh, fun k r z => by omega⟩, fun i σ' H' p => ?_, fun i v d σ' H' H'' hd rd p x3 => ?_, fun σ' H' p => ?_⟩
      · obtain ⟨_, _, _, _, x, _⟩ := p; exact x
      · obtain ⟨y5, y6, rfl, x1, x2, all⟩ := p
        rw [List.getElem?_map, Option.map_eq_some_iff] at hd
        obtain ⟨r, hr', rfl⟩ := hd
        have ⟨a1, a2, a3, a4⟩ := rat i r hr'
        have ee := x2.trans x3
        have c0 : ∀ F' , Ex F6 F' → ED (tOp (rIx K) (tVar 6) (tC (.int 0))) [some v0, some v1, some v2, some v3, none, some (.int (i : Int)), some v] F' (dpD r.1) := fun F' e' => ed_op (ed_var rfl (rd.mono e')) ed_int (rd_ixt (at_nat (j := 0) rfl rfl))
        have c1 : ∀ F' , Ex F6 F' → ED (tOp (rIx K) (tVar 6) (tC (.int 1))) [some v0, some v1, some v2, some v3, none, some (.int (i : Int)), some v] F' (waysD r.2) := fun F' e' => ed_op (ed_var rfl (rd.mono e')) ed_int (rd_ixt (at_nat (j := 1) rfl rfl))
        have keep : ∀ H7, Ex H'' H7 → GoodRow 5 i rows.length r → ∃ y5 y6, [some v0, some v1, some v2, some v3, none, some (.int (i : Int)), some v] = [some v0, some v1, some v2, some v3, none, y5, y6] ∧ Ex H H7 ∧ Ex F6 H7 ∧ ∀ k r, k < i + 1 → rows[k]? = some r → GoodRow 5 k rows.length r := fun H7 x7 g => ⟨_, _, rfl, (x1.trans x3).trans x7, ee.trans x7, fun k r' hk hr2 => by
          by_cases e : k < i
          · exact all k r' e hr2
          · have : k = i := by omega
            subst this
            rw [hr'] at hr2
            cases hr2
            exact g⟩
        obtain ⟨ko, zs⟩ := r
        cases ko with
        | none =>
          have ez : zs = [] := a1 rfl
          subst ez
          exact s_if (b := false) ee (ET.is (et_and (a := false) (b := false) (et_test (ED.is (ed_op (c0 _ (Ex.refl _)) ed_non rd_notN) rfl)) fun z => nomatch z) rfl) (fun hb => nomatch hb) (fun _ H7 n7 => keep H7 n7.h (show ([] : List (Int × Int)) = [] from rfl))
        | some k =>
          have k0 := a2 k rfl
          refine s_if (b := true && (decide (k > 4) || !areWays (waysD zs) ((i : Int) + 1) ls.length)) ee (et_and (a := true) (et_test (ED.is (ed_op (c0 _ (Ex.refl _)) ed_non rd_notN) rfl)) fun _ => et_or (et_test (ed_op (x := .int k) (c0 _ (Ex.refl _)) ed_int rd_gt)) fun _ => et_not (et_B (ed_call (ea_cons (c1 _ (Ex.refl _)) (ea_cons (ed_op (ed_var rfl (.int _)) ed_int rd_addI) (ea_cons (ED.is (ed_cb (ea_cons (ed_var rfl (h3.mono n6.f)) ea_nil) rl_lenL) (by rw [List.length_map, r1])) ea_nil))) ⟨zs, _, _, rfl, a3, a4, by omega, rfl⟩))) (fun hb H7 n7 => ?_) (fun hb H7 n7 => keep H7 n7.h ?_)
          · refine s_ret n7.fh (ED.is ed_non ?_) fun v F8 H8 n8' r8 => q v F8 H8 (⟨n16.f.trans n8'.f, (x1.trans x3).trans (n7.h.trans n8'.h), n8'.fh, fun p' hp hf => n8'.n p' (fun z => hp (Evl.fresh_back ((x1.trans x3).trans n7.h) z)) (n16.n p' hp hf)⟩) r8
            have : readV t = none := by
              rw [rV]
              refine if_neg fun z => ?_
              have g := (isPlan_of.mp z).r i _ hr'
              have g3 : GoodWays ((i : Int) + 1) rows.length zs := g.2.2
              have g4 := g.2.1
              rw [Bool.true_and, Bool.or_eq_true, decide_eq_true_eq, Bool.not_eq_true'] at hb
              rcases hb with hb | hb
              · omega
              · rw [show ((ls.length : Nat) : Int) = (rows.length : Int) from by rw [r1], (areWays_of (by omega)).mpr g3] at hb; cases hb
            rw [this]; rfl
          · rw [Bool.true_and, Bool.or_eq_false_iff, decide_eq_false_iff_not, Bool.not_eq_false'] at hb
            exact ⟨k0, by omega, by rw [r1]; exact (areWays_of (by omega)).mp hb.2⟩
      · obtain ⟨y5, y6, rfl, x1, x2, all⟩ := p
        rw [List.length_map] at all
        have gp : GoodPlan 5 (ws, rows) := ⟨by show rows.length ≤ 300; omega, gw, fun i r hi => all i r (List.getElem?_eq_some_iff.mp hi).1 hi⟩
        refine s_ret x2 (ED.is (ed_tup (ds := [waysD ws, rowsD rows]) (ea_cons (ed_var rfl (h2.mono n6.f)) (ea_cons (ed_var rfl (h3.mono n6.f)) ea_nil)) (by show 2 ≤ 100000; decide)) ?_) fun v F8 H8 n8' r8 => q v F8 H8 (⟨n16.f.trans n8'.f, x1.trans n8'.h, n8'.fh, fun p' hp hf => n8'.n p' (fun z => hp (Evl.fresh_back x1 z)) (n16.n p' hp hf)⟩) r8
        rw [rV, if_pos (isPlan_of.mpr gp)]; rfl
theorem ok__law_kinds {f : Addr} {fd : FuncData} (F : Fun K "_law_kinds" "_law_kinds" s__law_kinds f fd) (T : Txt K mg A) (c__law_int : Df P w K mg base CX0 1 "_law_int" P__law_int (spR R_int))  : FnOk P w K mg base CX0 2 f fd P__law_kinds (spR R_kinds) := by
  refine F.ok sc__law_kinds (len_R fun ds d h => by obtain ⟨_, rfl, _⟩ := h; rfl) (fun cdv A0 outer s H vs Q E hr h => ?_)
  have hu := hu64 hr
  obtain ⟨F0, ds, d, e0, r0, ⟨p, rfl, gp, rfl⟩, q⟩ := h
  obtain ⟨v0, _, rfl, h0, r0⟩ := r0.uncons
  obtain rfl := r0.unnil
  have l3 := gp.l
  have ⟨g1, g2, g3⟩ := goodPlan_len gp
  have p0 : ∀ (σ : L2.St) F', Ex F0 F' → σ[0]? = some (some v0) → ED (tOp (rIx K) (tVar 0) (tC (.int 0))) σ F' (waysD p.1) := fun σ F' e' h => ed_op (ed_var h (h0.mono e')) ed_int (rd_ixt (at_nat (j := 0) rfl rfl))
  have p1 : ∀ (σ : L2.St) F', Ex F0 F' → σ[0]? = some (some v0) → ED (tOp (rIx K) (tVar 0) (tC (.int 1))) σ F' (.lst (p.2.map rowD)) := fun σ F' e' h => ed_op (ed_var h (h0.mono e')) ed_int (rd_ixt (at_nat (j := 1) rfl rfl))
  have tup : kitB "tuple" "tuple" = some true := by decide +kernel
  have lst : kitB "list" "list" = some true := by decide +kernel
  refine ⟨_, (pss_cons (ps_if (PW.pt (pw_or (pt_not (pt_val (pe_callB (isi_K K) (by rfl) T.m_isinstance bt_isinstance (pa_cons (pv 0) (pa_cons (pe_bltn (v := .ty "tuple") (by rfl) T.m_tuple bt_tuple rfl) pa_nil))))) (pw_or (pt_cmpR (ne_K K hu) (pe_callB (len_K K) (by rfl) T.m_len bt_len (pa_cons (pv 0) pa_nil)) pe_int (nomark _)) (pw_or (pt_not (pt_val (pe_callB (isi_K K) (by rfl) T.m_isinstance bt_isinstance (pa_cons (pe_ix (ix_K K) (pv 0) pe_int (fun _ _ => rfl)) (pa_cons (pe_bltn (v := .ty "list") (by rfl) T.m_list bt_list rfl) pa_nil))))) (pw_or1 (pt_not (pt_val (pe_callB (isi_K K) (by rfl) T.m_isinstance bt_isinstance (pa_cons (pe_ix (ix_K K) (pv 0) pe_int (fun _ _ => rfl)) (pa_cons (pe_bltn (v := .ty "list") (by rfl) T.m_list bt_list rfl) pa_nil)))))))))) 
        (pss_one (ps_ret pe_bl)) pss_nil)
      (pss_cons (ps_for PassesOwn.never rfl (il_K K (pe_ix (ix_K K) (pv 0) pe_int (fun _ _ => rfl))) (pg_name (i := 1) sc__law_kinds.nd rfl (by first | exact Or.inl rfl | exact Or.inr rfl)) 
        (pss_one (ps_if (PW.pt (pw_or (pt_not (pt_val (pe_callB (isi_K K) (by rfl) T.m_isinstance bt_isinstance (pa_cons (pv 1) (pa_cons (pe_bltn (v := .ty "tuple") (by rfl) T.m_tuple bt_tuple rfl) pa_nil))))) (pw_or (pt_not (pt_val (pe_callB (isi_K K) (by rfl) T.m_isinstance bt_isinstance (pa_cons (pe_ix (ix_K K) (pv 1) pe_int (fun _ _ => rfl)) (pa_cons (pe_bltn (v := .ty "list") (by rfl) T.m_list bt_list rfl) pa_nil))))) (pw_or1 (PW.pt (pw_and (pt_cmpR op_notN1 (pe_ix (ix_K K) (pv 1) pe_int (fun _ _ => rfl)) pe_non (nomark _)) (pw_and1 (pt_not (pt_val (pe_df c__law_int hr (by decide) pass0 (pa_cons (pe_ix (ix_K K) (pv 1) pe_int (fun _ _ => rfl)) pa_nil))))))))))) 
          (pss_one (ps_ret pe_bl)) pss_nil)))
      (pss_cons (ps_for PassesOwn.never rfl (il_K K (pe_op op_addA (pe_lst (pa_cons (pe_ix (ix_K K) (pv 0) pe_int (fun _ _ => rfl)) pa_nil)) (pe_lc (own := [("_law_row", 1)]) (g := gName 1) (tt := tYes) rfl sc__law_kinds.nd (il_K K (pe_ix (ix_K K) (pv 0) pe_int (fun _ _ => rfl))) (blkOk_by (N := N__law_kinds) (sc := defScope s__law_kinds) (by decide +kernel)) (fun _ _ _ _ _ => by exact (pg_name (i := 1) sc__law_kinds.nd rfl (by first | exact Or.inl rfl | exact Or.inr rfl))) (fun _ _ _ _ _ => by exact pts_nil) (fun _ _ _ _ _ => by exact (pe_ix (ix_K K) (pv 1) pe_int (fun _ _ => rfl)))))) (pg_name (i := 2) sc__law_kinds.nd rfl (by first | exact Or.inl rfl | exact Or.inr rfl)) 
        (pss_one (ps_if (pt_cmpR (ne_K K hu) (pe_lc (own := [("_law_way", 3)]) (g := gName 3) rfl sc__law_kinds.nd (il_K K (pv 2)) (blkOk_by (N := N__law_kinds) (sc := defScope s__law_kinds) (by decide +kernel)) (fun _ _ _ _ _ => by exact (pg_name (i := 3) sc__law_kinds.nd rfl (by first | exact Or.inl rfl | exact Or.inr rfl))) (fun _ _ _ _ _ => by exact (pts_one (PW.pt (pw_or (pt_not (pt_val (pe_callB (isi_K K) (by rfl) T.m_isinstance bt_isinstance (pa_cons (pv 3) (pa_cons (pe_bltn (v := .ty "tuple") (by rfl) T.m_tuple bt_tuple rfl) pa_nil))))) (pw_or (pt_not (pt_val (pe_df c__law_int hr (by decide) pass0 (pa_cons (pe_ix (ix_K K) (pv 3) pe_int (fun _ _ => rfl)) pa_nil)))) (pw_or1 (pt_not (pt_val (pe_df c__law_int hr (by decide) pass0 (pa_cons (pe_ix (ix_K K) (pv 3) pe_int (fun _ _ => rfl)) pa_nil)))))))))) (fun _ _ _ _ _ => by exact (pv 3))) (pe_lst pa_nil) (nomark _)) 
          (pss_one (ps_ret pe_bl)) pss_nil)))
      (pss_one (ps_ret pe_bl))))), ?_⟩
  refine q_when (b := false) e0 (ET.is (et_or (a := false) (b := false) (et_not (a := true) (et_B (ed_isi (ed_var rfl h0) rfl tup))) fun _ => ET.is (et_or (a := false) (b := false) (et_test (ED.is (ed_op (ed_cb (ea_cons (ed_var rfl h0) ea_nil) rl_lenT) ed_int (rd_neD rfl rfl)) (by rw [eqv_int]; rfl))) fun _ => ET.is (et_or (a := false) (b := false) (et_not (a := true) (et_B (ed_isi (p0 _ _ (Ex.refl _) rfl) rfl lst))) fun _ => et_not (a := true) (et_B (ed_isi (p1 _ _ (Ex.refl _) rfl) rfl lst))) rfl) rfl) rfl) (fun hb => nomatch hb) (fun _ H1 n1 => ?_)
  refine q_forL (ds := p.2.map rowD) n1.fh (p1 _ _ (Ex.refl _) rfl) fun F2 H2 n2 => ?_
  have x02 := n1.h.trans n2.h
  refine ⟨fun i σ' H' => ∃ y1, σ' = [some v0, y1, none, none] ∧ Ex H H' ∧ Ex F2 H', ⟨none, rfl, x02, n2.fh⟩, fun i σ' H' p => ?_, fun i v d σ' H' hd rd pp => ?_, fun σ' H' pp => ?_⟩
  · obtain ⟨_, _, _, x⟩ := p; exact x
  · obtain ⟨y1, rfl, x1, x2⟩ := pp
    rw [List.getElem?_map, Option.map_eq_some_iff] at hd
    obtain ⟨r, hr', rfl⟩ := hd
    obtain ⟨ko, ws⟩ := r
    have c0 : ED (tOp (rIx K) (tVar 1) (tC (.int 0))) [some v0, some v, none, none] F2 (dpD ko) := ed_op (ed_var rfl rd) ed_int (rd_ixt (at_nat (j := 0) rfl rfl))
    have c1 : ED (tOp (rIx K) (tVar 1) (tC (.int 1))) [some v0, some v, none, none] F2 (waysD ws) := ed_op (ed_var rfl rd) ed_int (rd_ixt (at_nat (j := 1) rfl rfl))
    refine s_if (b := false) x2 (ET.is (et_or (a := false) (b := false) (et_not (a := true) (et_B (ed_isi (ed_var rfl rd) rfl tup))) fun _ => ET.is (et_or (a := false) (b := false) (et_not (a := true) (et_B (ed_isi c1 rfl lst))) fun _ => ?_) rfl) rfl) (fun hb => nomatch hb) (fun _ H3 n3 => ⟨_, rfl, x1.trans n3.h, x2.trans n3.h⟩)
    cases ko with
    | none => exact ET.is (et_and (a := false) (b := false) (et_test (ED.is (ed_op c0 ed_non rd_notN) rfl)) fun z => nomatch z) rfl
    | some k => exact ET.is (et_and (a := true) (b := false) (et_test (ED.is (ed_op c0 ed_non rd_notN) rfl)) fun _ => et_not (a := true) (et_B (ed_call (ea_cons c0 ea_nil) ⟨_, rfl, rfl, rfl⟩))) rfl
  · obtain ⟨y1, rfl, x1, x2⟩ := pp
    have all10 : ∀ ws ∈ p.1 :: p.2.map Prod.snd, ws.length ≤ 10 := fun ws hw => by
      rcases List.mem_cons.mp hw with z | z
      · rw [z]; exact g1
      · obtain ⟨r, hr', rfl⟩ := List.mem_map.mp z
        exact g3 r hr'
    refine q_forL (ds := (p.1 :: p.2.map Prod.snd).map waysD) (e0.trans x1) (ED.is (ed_op (ed_lst (ds := [waysD p.1]) (ea_cons (p0 _ _ (Ex.refl _) rfl) ea_nil) (by show 1 ≤ 100000; decide)) (ed_lc (emb := rowD) (xs := p.2) (fun _ => true) (fun r => waysD r.2) (p1 _ _ (Ex.refl _) rfl) (by omega) (fun _ => rfl) (fun _ _ _ _ _ _ => et_yes) (fun r v F3 hm e3 rv _ => ed_op (ed_var rfl rv) ed_int (rd_ixt (at_nat (j := 1) rfl rfl)))) (rd_addL (by rw [List.length_map, filter_yes]; show 1 + _ ≤ _; omega))) (by rw [filter_yes, List.map_cons, List.map_map]; rfl)) fun F4 H4 n4 => ?_
    refine ⟨fun i σ' H' => ∃ y2, σ' = [some v0, y1, y2, none] ∧ Ex H H' ∧ Ex F4 H', ⟨none, rfl, x1.trans n4.h, n4.fh⟩, fun i σ' H' p => ?_, fun i v d σ' H' hd rd pp => ?_, fun σ' H' pp => ?_⟩
    · obtain ⟨_, _, _, x⟩ := p; exact x
    · obtain ⟨y2, rfl, x3, x4⟩ := pp
      rw [List.getElem?_map, Option.map_eq_some_iff] at hd
      obtain ⟨ws, hw, rfl⟩ := hd
      have wl := all10 ws (List.mem_of_getElem? hw)
      exact s_if (b := false) x4 (et_test (ED.is (ed_op (ed_lc (emb := wayD) (xs := ws) (fun _ => false) wayD (ed_var rfl rd) (by omega) (fun _ => rfl) (fun w v F5 hm e5 rv => ET.is (et_or (a := false) (b := false) (et_not (a := true) (et_B (ed_isi (ed_var rfl rv) rfl tup))) fun _ => ET.is (et_or (a := false) (b := false) (et_not (a := true) (et_B (ed_call (ea_cons (ed_op (ed_var rfl rv) ed_int (rd_ixt (at_nat (j := 0) rfl rfl))) ea_nil) ⟨_, rfl, rfl, rfl⟩))) fun _ => et_not (a := true) (et_B (ed_call (ea_cons (ed_op (ed_var rfl rv) ed_int (rd_ixt (at_nat (j := 1) rfl rfl))) ea_nil) ⟨_, rfl, rfl, rfl⟩))) rfl) rfl) (fun w v F5 hm e5 rv hf => nomatch hf)) (ed_lst ea_nil (by decide)) (rd_neD (by rw [show (ws.filter fun _ => false) = [] from List.filter_eq_nil_iff.mpr fun _ _ => by simp]; exact okE_nil) okE_nil)) (by rw [show (ws.filter fun _ => false) = [] from List.filter_eq_nil_iff.mpr fun _ _ => by simp, eqD_empty]; rfl))) (fun hb => nomatch hb) (fun _ H5 n5 => ⟨_, rfl, x3.trans n5.h, x4.trans n5.h⟩)
    · obtain ⟨y2, rfl, x3, x4⟩ := pp
      refine s_ret (e0.trans x3) (ed_bl (b := true)) fun v F6 H6 n6 r6 => q v F6 H6 (((Nx.refl e0).up x3).trans n6) r6
theorem ok__law_word {f : Addr} {fd : FuncData} (F : Fun K "_law_word" "_law_word" s__law_word f fd) (T : Txt K mg A) : FnP P w K mg base 1 f fd P__law_word (spWord K A) := by
  refine okP F sc__law_word (fun a cls d vs H Q E h => by obtain ⟨_, _, _, _, _, _, _, _, _, rfl, _⟩ := h; rfl) (fun cdv A0 outer s H vs Q a oe cls dd hr hz hf h => ?_)
  obtain ⟨C, v, h, g, d', p, s', n, t, rfl, hC, hd, ec, ks, q⟩ := h
  refine ⟨_, (pss_cons (ps_set (i := 1) sc__law_word.nd rfl (by first | exact Or.inl rfl | exact Or.inr rfl) (pe_op op_addS (pe_op op_mulS pe_str (pe_callTy call_intB (by rfl) T.m_int bt_int (pa_cons (pe_not (pe_callB (call_isP (by exact List.mem_cons_self) hz hf) (by rfl) T.m_isinstance bt_isinstance (pa_cons (pv 0) (pa_cons (pe_bltn (v := .ty "ValueError") (by rfl) T.m_ValueError bt_ValueError rfl) pa_nil)))) pa_nil))) (pe_op op_mulS pe_str (pe_callTy call_intB (by rfl) T.m_int bt_int (pa_cons (pe_callB (call_isP (by exact List.mem_cons_self) hz hf) (by rfl) T.m_isinstance bt_isinstance (pa_cons (pv 0) (pa_cons (pe_glob (v := .ref A.bh) rfl T.BadHouse.g rfl) pa_nil))) pa_nil)))))
      (pss_cons (ps_set (i := 1) sc__law_word.nd rfl (by first | exact Or.inl rfl | exact Or.inr rfl) (pe_op op_addS (pe_op op_addS (pv 1) (pe_op op_mulS pe_str (pe_callTy call_intB (by rfl) T.m_int bt_int (pa_cons (pe_callB (call_isP (by exact List.mem_cons_self) hz hf) (by rfl) T.m_isinstance bt_isinstance (pa_cons (pv 0) (pa_cons (pe_glob (v := .ref A.bg) rfl T.BadGuess.g rfl) pa_nil))) pa_nil)))) (pe_op op_mulS pe_str (pe_callTy call_intB (by rfl) T.m_int bt_int (pa_cons (pe_callB (call_isP (by exact List.mem_cons_self) hz hf) (by rfl) T.m_isinstance bt_isinstance (pa_cons (pv 0) (pa_cons (pe_glob (v := .ref A.bd) rfl T.BadDeed.g rfl) pa_nil))) pa_nil)))))
      (pss_cons (ps_set (i := 1) sc__law_word.nd rfl (by first | exact Or.inl rfl | exact Or.inr rfl) (pe_op op_addS (pe_op op_addS (pv 1) (pe_op op_mulS pe_str (pe_callTy call_intB (by rfl) T.m_int bt_int (pa_cons (pe_callB (call_isP (by exact List.mem_cons_self) hz hf) (by rfl) T.m_isinstance bt_isinstance (pa_cons (pv 0) (pa_cons (pe_glob (v := .ref A.bp) rfl T.BadPlan.g rfl) pa_nil))) pa_nil)))) (pe_op op_mulS pe_str (pe_callTy call_intB (by rfl) T.m_int bt_int (pa_cons (pe_callB (call_isP (by exact List.mem_cons_self) hz hf) (by rfl) T.m_isinstance bt_isinstance (pa_cons (pv 0) (pa_cons (pe_glob (v := .ref A.bs) rfl T.BadSteps.g rfl) pa_nil))) pa_nil)))))
      (pss_one (ps_ret (pe_op op_addS (pe_op op_addS (pv 1) (pe_op op_mulS pe_str (pe_callTy call_intB (by rfl) T.m_int bt_int (pa_cons (pe_callB (call_isP (by exact List.mem_cons_self) hz hf) (by rfl) T.m_isinstance bt_isinstance (pa_cons (pv 0) (pa_cons (pe_glob (v := .ref A.nw) rfl T.NoWay.g rfl) pa_nil))) pa_nil)))) (pe_op op_mulS pe_str (pe_callTy call_intB (by rfl) T.m_int bt_int (pa_cons (pe_callB (call_isP (by exact List.mem_cons_self) hz hf) (by rfl) T.m_isinstance bt_isinstance (pa_cons (pv 0) (pa_cons (pe_glob (v := .ref A.bt) rfl T.BadText.g rfl) pa_nil))) pa_nil))))))))), ?_⟩
  have is : ∀ (σ : L2.St) (F : Hp) (c : V) (cv : Value) (b : Bool), σ[0]? = some (some (.ref a)) → (∀ u, RelV c u → u = cv) → PySem.W.kitOne K (.ref C) cv = some b → ED (tCB (rIsP K a cls dd) (tCons (tVar 0) (tCons (tC c) tNil))) σ F (.bl b) := fun σ F c cv b h0 hcv hk => ed_isP h0 hcv hC hd ec hk
  have rr : ∀ (B : Addr) u, RelV (.ref B) u → u = .ref B := fun _ _ z => z
  have w1 : EDS _ (L2.start N__law_word [.ref a]) H (repS (!v) "bare" ++ repS h "house") 20 := eds_plus (eds_piece (ed_not (is _ _ (.ty "ValueError") _ _ rfl (fun _ z => z) ks.v)) (by decide)) (eds_piece (is _ _ _ _ _ rfl (rr _) ks.h) (by decide)) (by decide)
  refine q_asg (Ex.refl H) w1.h fun v1 F1 H1 n1 r1 => ?_
  obtain rfl := r1.estr
  have wx : ∀ (F : Hp) (x : Str) (m : Nat) (c1 c2 : V) (cv1 cv2 : Value) (b1 b2 : Bool) (z1 z2 : Str), x.length ≤ m → m ≤ 100 → (∀ u, RelV c1 u → u = cv1) → (∀ u, RelV c2 u → u = cv2) → PySem.W.kitOne K (.ref C) cv1 = some b1 → PySem.W.kitOne K (.ref C) cv2 = some b2 → z1.length ≤ 10 → z2.length ≤ 10 →
      EDS (tOp Bp.rAddS (tOp Bp.rAddS (tVar 1) (tOp rMulS (tC (.str z1)) (tCB rIntB (tCons (tCB (rIsP K a cls dd) (tCons (tVar 0) (tCons (tC c1) tNil))) tNil)))) (tOp rMulS (tC (.str z2)) (tCB rIntB (tCons (tCB (rIsP K a cls dd) (tCons (tVar 0) (tCons (tC c2) tNil))) tNil)))) [some (.ref a), some (.str x)] F (x ++ repS b1 z1 ++ repS b2 z2) (m + 10 + 10) :=
    fun F x m c1 c2 cv1 cv2 b1 b2 z1 z2 hx hm k1 k2 k3 k4 l1 l2 => eds_plus (eds_plus ⟨ed_var rfl (.str x), hx⟩ (eds_piece (is _ _ c1 cv1 b1 (by rfl) k1 k3) l1) (by omega)) (eds_piece (is _ _ c2 cv2 b2 (by rfl) k2 k4) l2) (by omega)
  have w2 := wx F1 _ _ (.ref A.bg) (.ref A.bd) _ _ _ _ "guess" "deed" w1.l (by decide) (rr _) (rr _) ks.g ks.d (by decide) (by decide)
  refine q_asg n1.fh w2.h fun v2 F2 H2 n2 r2 => ?_
  obtain rfl := r2.estr
  have w3 := wx F2 _ _ (.ref A.bp) (.ref A.bs) _ _ _ _ "plan" "steps" w2.l (by decide) (rr _) (rr _) ks.p ks.s (by decide) (by decide)
  refine q_asg n2.fh w3.h fun v3 F3 H3 n3 r3 => ?_
  obtain rfl := r3.estr
  have w4 := wx F3 _ _ (.ref A.nw) (.ref A.bt) _ _ _ _ "way" "text" w3.l (by decide) (rr _) (rr _) ks.n ks.t (by decide) (by decide)
  refine s_ret n3.fh w4.h fun v4 F4 H4 n4 r4 => ?_
  rw [r4.estr]
  exact q H4 (((n1.h.trans n2.h).trans n3.h).trans n4.h)
theorem ok__law_refused {f : Addr} {fd : FuncData} (F : Fun K "_law_refused" "_law_refused" s__law_refused f fd) (T : Txt K mg A) (c_read : Df P w K mg base (L2.CX P w) 6 "read" P_read (spZ R_rd A.bt)) (c__law_word : Dp P w K mg base 1 "_law_word" P__law_word (spWord K A))  : FnOk P w K mg base CX0 7 f fd P__law_refused (spR R_lref) := by
  refine F.ok sc__law_refused (len_R fun ds d h => by obtain ⟨_, rfl, _⟩ := h; rfl) (fun cdv A0 outer s H vs Q E hr h => ?_)
  have hu := hu64 hr
  obtain ⟨F0, ds, d, e0, r0, ⟨t, rfl, hl, hn, rfl⟩, q⟩ := h
  obtain ⟨v0, _, rfl, h0, r0⟩ := r0.uncons
  obtain rfl := r0.unnil
  have er := T.q_BadText
  refine ⟨_, (pss_cons (ps_try_as (i := 1) (tb := fun W => tDrop (tCallS (spZ R_rd A.bt) (WE W) (tCons (tVar 0) tNil))) (ts := fun a cls d => tRet (tOp rEq (tCallP (spWord K A a cls d) (tCons (tVar 1) tNil)) (tC (.str "text")))) (Wout := fun _ _ _ _ => False) rfl rfl sc__law_refused.nd rfl rfl ⟨rfl, by decide, Or.inl T.HouseError.g⟩ takes0 (fun W pn xe tk _ => by exact (pss_one (ps_expr (pe_dfS c_read hr (by decide) (fun σ => passAt tk σ) (pa_cons (pv 0) pa_nil))))) (fun a oe cls d pn hz hf => by exact (pss_one (ps_ret (pe_cmpR op_eq (pe_dp (j := 6) c__law_word (Or.inr ⟨hr.dp, hr.un⟩) (by decide) (by exact List.mem_cons_self) hz hf (pa_cons (pv 1) pa_nil)) pe_str (nomark _))))))
      (pss_one (ps_ret pe_bl))), ?_⟩
  refine ⟨v0, rfl, F0, [sD t], none, e0, .cons h0 .nil, ⟨t, rfl, hl, by rw [hn]; rfl⟩, (fun d v F2 H2 z => nomatch z), fun _ H3 e3 => ?_⟩
  refine ⟨true, er.m, fun _ a ha => ?_, fun z => by cases z⟩
  refine ⟨.ref a, rfl, A.bt, _, _, _, _, _, _, _, _, rfl, rfl, rfl, er.e, er.k, fun H4 e4 => ?_⟩
  refine rd_eqS (F := F0) F0 H4 _ _ (Ex.refl _) (e0.trans (e3.trans e4)) (.str _) (.str _) _ fun v F5 H5 n5 r5 => ?_
  rw [show decide (wordOf true false false false false false false true = "text") = true from by decide +kernel] at r5
  exact q v F5 H5 (((Nx.refl e0).up (e3.trans e4)).trans n5) r5
theorem ok_law {f : Addr} {fd : FuncData} (F : Fun K "law" "law" s_law f fd) (T : Txt K mg A) (c__law_cell : Df P w K mg base CX0 1 "_law_cell" P__law_cell (spR (R_cell K))) (c__law_rows : Df P w K mg base CX0 2 "_law_rows" P__law_rows (spR (R_rows K))) (c_written : Df P w K mg base CX0 3 "written" P_written (spR R_written)) (c__law_changed : Df P w K mg base CX0 1 "_law_changed" P__law_changed (spA okCh (fun _ d => someT d))) (c__law_plan_of : Df P w K mg base CX0 4 "_law_plan_of" P__law_plan_of (spR R_lplan)) (c_read : Df P w K mg base (L2.CX P w) 6 "read" P_read (spZ R_rd A.bt)) (c__law_refused : Df P w K mg base CX0 7 "_law_refused" P__law_refused (spR R_lref)) (c__law_kinds : Df P w K mg base CX0 2 "_law_kinds" P__law_kinds (spR R_kinds)) (c__law_shown : Df P w K mg base CX0 1 "_law_shown" P__law_shown (spR R_lshown))  : FnOk P w K mg base CX0 8 f fd P_law (spLaw K) := by
  refine F.ok sc_law (fun vs H Q E h => by obtain ⟨a, ns, rfl, _⟩ := h; rfl) (fun cdv A0 outer s H vs Q E hr h => ?_)
  have hu := hu64 hr
  obtain ⟨a, ns, rfl, hS, hlen, q⟩ := h
  have h0 : Rp H (.ref a) (.scr K ns) := .scr hS
  have hc : ∀ (σ : L2.St) (F' : Hp) (k : Int) (E : XK), Ex H F' → σ[0]? = some (some (.ref a)) → 0 ≤ k → ED (tCall (spR (R_cell K)) [] E (tCons (tVar 0) (tCons (tC (.int k)) tNil))) σ F' (.int (cell ns k)) := fun σ F' k E e' hσ hk => ed_call (ea_cons (ed_var hσ (h0.mono e')) (ea_cons ed_int ea_nil)) ⟨ns, k, rfl, hk, rfl⟩
  have e0 : Ex H H := Ex.refl H
  have lst : kitB "str" "str" = some true := by decide +kernel
  refine ⟨_, (pss_cons (ps_set (i := 1) sc_law.nd rfl (by first | exact Or.inl rfl | exact Or.inr rfl) (pe_df c__law_cell hr (by decide) pass0 (pa_cons (pv 0) (pa_cons pe_int pa_nil))))
      (pss_cons (ps_setLc (i := 2) (own := [("_law_look", 3)]) (g := gName 3) rfl sc_law.nd rfl rfl (sw_true rfl rfl rfl (by decide +kernel)) (pi_range1 rfl T.m_range (pa_cons pe_int pa_nil)) (blkOk_by (N := N_law) (sc := defScope s_law) (by decide +kernel)) (fun _ _ _ _ _ => by exact (pg_name (i := 3) sc_law.nd rfl (by first | exact Or.inl rfl | exact Or.inr rfl))) (fun _ _ _ _ _ => by exact (pts_one (pt_cmpR (eq_K K hu) (pe_op op_mod (pe_op op_fdiv (pv 1) (pe_ix (ix_K K) (pe_lst (pa_cons pe_int (pa_cons pe_int (pa_cons pe_int (pa_cons pe_int (pa_cons pe_int (pa_cons pe_int (pa_cons pe_int (pa_cons pe_int (pa_cons pe_int (pa_cons pe_int pa_nil))))))))))) (pv 3) (fun _ _ => rfl))) pe_int) pe_int (nomark _)))) (fun _ _ _ _ _ => by exact (pv 3)))
      (pss_cons (ps_set (i := 4) sc_law.nd rfl (by first | exact Or.inl rfl | exact Or.inr rfl) (pe_df c__law_rows hr (by decide) pass0 (pa_cons (pv 0) (pa_cons (pv 2) (pa_cons pe_int pa_nil)))))
      (pss_cons (ps_if (pt_cmpR (eq_K K hu) (pe_op op_mod (pe_op op_fdiv (pe_df c__law_cell hr (by decide) pass0 (pa_cons (pv 0) (pa_cons pe_int pa_nil))) pe_int) pe_int) pe_int (nomark _)) 
        (pss_cons (ps_set (i := 5) sc_law.nd rfl (by first | exact Or.inl rfl | exact Or.inr rfl) (pe_op op_addA pe_int (pe_op op_mod (pe_op op_fdiv (pe_df c__law_cell hr (by decide) pass0 (pa_cons (pv 0) (pa_cons pe_int pa_nil))) pe_int) pe_int)))
        (pss_one (ps_set (i := 4) sc_law.nd rfl (by first | exact Or.inl rfl | exact Or.inr rfl) (pe_tup (pa_cons (pe_lc (own := [("_law_look", 3)]) (g := gName 3) (tt := tYes) rfl sc_law.nd (il_K K (pv 2)) (blkOk_by (N := N_law) (sc := defScope s_law) (by decide +kernel)) (fun _ _ _ _ _ => by exact (pg_name (i := 3) sc_law.nd rfl (by first | exact Or.inl rfl | exact Or.inr rfl))) (fun _ _ _ _ _ => by exact pts_nil) (fun _ _ _ _ _ => by exact (pe_tup (pa_cons (pv 3) (pa_cons (pe_op op_sub (pe_op op_sub (pv 5) pe_int) (pe_op op_mulA (pv 3) pe_int)) pa_nil))))) (pa_cons (pe_op op_addA (pe_ix (ix_K K) (pv 4) pe_int (fun _ _ => rfl)) (pe_op op_rep (pe_lst (pa_cons (pe_tup (pa_cons pe_non (pa_cons (pe_lst pa_nil) pa_nil))) pa_nil)) (pe_op op_sub (pv 5) (pe_callB (len_K K) (by rfl) T.m_len bt_len (pa_cons (pe_ix (ix_K K) (pv 4) pe_int (fun _ _ => rfl)) pa_nil))))) pa_nil)))))) pss_nil)
      (pss_cons (ps_set (i := 6) sc_law.nd rfl (by first | exact Or.inl rfl | exact Or.inr rfl) (pe_tup (pa_cons (pe_callTy (list_K K) (by rfl) T.m_list bt_list (pa_cons (pe_ix (ix_K K) (pv 4) pe_int (fun _ _ => rfl)) pa_nil)) (pa_cons (pe_lc (own := [("_law_row", 7)]) (g := gName 7) (tt := tYes) rfl sc_law.nd (il_K K (pe_ix (ix_K K) (pv 4) pe_int (fun _ _ => rfl))) (blkOk_by (N := N_law) (sc := defScope s_law) (by decide +kernel)) (fun _ _ _ _ _ => by exact (pg_name (i := 7) sc_law.nd rfl (by first | exact Or.inl rfl | exact Or.inr rfl))) (fun _ _ _ _ _ => by exact pts_nil) (fun _ _ _ _ _ => by exact (pe_tup (pa_cons (pe_ix (ix_K K) (pv 7) pe_int (fun _ _ => rfl)) (pa_cons (pe_callTy (list_K K) (by rfl) T.m_list bt_list (pa_cons (pe_ix (ix_K K) (pv 7) pe_int (fun _ _ => rfl)) pa_nil)) pa_nil))))) pa_nil))))
      (pss_cons (ps_set (i := 8) sc_law.nd rfl (by first | exact Or.inl rfl | exact Or.inr rfl) (pe_df c_written hr (by decide) pass0 (pa_cons (pv 4) pa_nil)))
      (pss_cons (ps_if (PW.pt (pw_or (pt_not (pt_val (pe_callB (isi_K K) (by rfl) T.m_isinstance bt_isinstance (pa_cons (pv 8) (pa_cons (pe_bltn (v := .ty "str") (by rfl) T.m_str bt_str rfl) pa_nil))))) (pw_or (pt_cmpR op_ne (pv 8) (pe_df c__law_shown hr (by decide) pass0 (pa_cons (pv 6) pa_nil)) (nomark _)) (pw_or1 (pt_cmpR (ne_K K hu) (pv 4) (pv 6) (nomark _)))))) 
        (pss_one (ps_ret pe_bl)) pss_nil)
      (pss_cons (ps_set (i := 9) sc_law.nd rfl (by first | exact Or.inl rfl | exact Or.inr rfl) (pe_op op_mod (pe_df c__law_cell hr (by decide) pass0 (pa_cons (pv 0) (pa_cons pe_int pa_nil))) pe_int))
      (pss_cons (ps_set (i := 8) sc_law.nd rfl (by first | exact Or.inl rfl | exact Or.inr rfl) (pe_df c__law_changed hr (by decide) pass0 (pa_cons (pv 8) (pa_cons (pv 9) (pa_cons (pe_df c__law_cell hr (by decide) pass0 (pa_cons (pv 0) (pa_cons pe_int pa_nil))) (pa_cons (pe_df c__law_cell hr (by decide) pass0 (pa_cons (pv 0) (pa_cons pe_int pa_nil))) pa_nil))))))
      (pss_cons (ps_if (PW.pt (pw_and (pt_cmpR (eq_K K hu) (pv 9) pe_int (nomark _)) (pw_and1 (pt_cmpR (eq_K K hu) (pe_op op_mod (pe_df c__law_cell hr (by decide) pass0 (pa_cons (pv 0) (pa_cons pe_int pa_nil))) pe_int) pe_int (nomark _))))) 
        (pss_one (ps_set (i := 8) sc_law.nd rfl (by first | exact Or.inl rfl | exact Or.inr rfl) (pe_op op_addS (pv 8) (pe_op mulT_op pe_str (pe_op op_sub (pe_op op_addA pe_int (pe_op op_mod (pe_op op_fdiv (pe_df c__law_cell hr (by decide) pass0 (pa_cons (pv 0) (pa_cons pe_int pa_nil))) pe_int) pe_int)) (pe_callB (len_K K) (by rfl) T.m_len bt_len (pa_cons (pe_ix (ix_K K) (pv 6) pe_int (fun _ _ => rfl)) pa_nil))))))) pss_nil)
      (pss_cons (ps_set (i := 10) sc_law.nd rfl (by first | exact Or.inl rfl | exact Or.inr rfl) (pe_df c__law_plan_of hr (by decide) pass0 (pa_cons (pv 8) pa_nil)))
      (pss_cons (ps_if (pt_cmpR op_isN1 (pv 10) pe_non (nomark _)) 
        (pss_one (ps_ret (pe_df c__law_refused hr (by decide) pass0 (pa_cons (pv 8) pa_nil)))) pss_nil)
      (pss_cons (ps_set (i := 11) sc_law.nd rfl (by first | exact Or.inl rfl | exact Or.inr rfl) (pe_df c_read hr (by decide) passL (pa_cons (pv 8) pa_nil)))
      (pss_one (ps_ret (pe_and (pe_df c__law_kinds hr (by decide) pass0 (pa_cons (pv 11) pa_nil)) (pe_one (pe_cmpR (eq_K K hu) (pv 11) (pv 10) (nomark _))))))))))))))))))), ?_⟩
  refine q_int (n := cell ns 1) e0 (hc _ _ _ _ (Ex.refl _) rfl (by decide)) fun H1 n1 => ?_
  obtain ⟨sn, esn⟩ : ∃ sn, sn = seenOf (cell ns 1) := ⟨_, rfl⟩
  refine q_asg (d := li sn) n1.fh (ED.is (ed_lcR (n := 10) (fun r => decide (cell ns 1 / lookOf pw10 r % 2 = 1)) (fun r => .int (r : Int)) (by walk_at "ev") (by omega) (fun _ => rfl) (fun r F1 hr e1 => ?_) (fun r F1 hr e1 _ => ed_var rfl (.int _))) ?_) fun v2 F2 H2 n2 h2 => ?_
  · have hp := pw10_ok (r := (r : Int)) (by omega) (by omega)
    exact et_test (ED.is (ed_op (ed_op (ed_op (ed_var rfl (.int _)) (ed_op (ed_lst (ds := [.int 1, .int 2, .int 4, .int 8, .int 16, .int 32, .int 64, .int 128, .int 256, .int 512]) (by walk_at "ev") (by decide)) (ed_var rfl (.int _)) (rd_ixl (atI_li (l := pw10) (by omega) (by show _ < (10 : Int); omega)))) (rd_fdiv hp)) ed_int (rd_mod (by decide))) ed_int (rd_eqD rfl rfl)) (by rw [eqv_int]))
  · rw [esn]; unfold seenOf upto li; rw [List.map_map]; rfl
  have n02 := n1.trans n2
  have sup : Up 10 sn := by rw [esn]; exact seen_up _
  have sl : sn.length ≤ 10 := by have := up_len (by decide) sup; omega
  obtain ⟨pl, epl⟩ : ∃ z, z = planOf ns sn 5 := ⟨_, rfl⟩
  have gp : GoodPlan 5 pl := by rw [epl]; exact planOf_ok _ _ (by decide)
  have pl68 : pl.2.length ≤ 68 := by
    have := planOf_len ns sn 5
    have := mrows_ok ns
    rw [← epl] at *
    omega
  refine q_asg (d := planD pl) n2.fh (ed_call (ea_cons (ed_var rfl (h0.mono n02.f)) (ea_cons (ed_var rfl h2) (ea_cons ed_int ea_nil))) ⟨ns, _, 5, rfl, by decide, by rw [epl]⟩) fun v4 F3 H3 n3 h4 => ?_
  have n03 := n02.trans n3
  have h2 := h2.mono n3.f
  show tSeq _ _ _ ([some (.ref a), some (.int (cell ns 1)), some v2, none, some v4, none, none, none, none, none, none, none] : L2.St) _
  refine q_whenJ (P := fun σ' H' => ∃ v y5 p F', σ' = [some (.ref a), some (.int (cell ns 1)), some v2, none, some v, y5, none, none, none, none, none, none] ∧ Nx H H F' H' ∧ Rp F' v (planD p) ∧ GoodPlan 5 p ∧ (planS p).length ≤ 12000) (fun σ' H' p => ?_) n3.fh (et_test (ED.is (ed_op (ed_op (ed_op (hc _ _ _ _ n03.f rfl (by decide)) ed_int (rd_fdiv ⟨by decide, by decide⟩)) ed_int (rd_mod (by decide))) ed_int (rd_eqD rfl rfl)) (by rw [eqv_int]))) (fun _ H6 n6 D1 k1 => ?_) (fun _ H6 n6 => ?_)
  · -- from here on any plan
    obtain ⟨v4, y5, p, F4, rfl, n4, h4, gp, pl12⟩ := p
    have l3 := gp.l
    have okp := planS_ok p
    refine q_asg (d := planD p) n4.fh (ed_tup (ds := [waysD p.1, rowsD p.2]) (ea_cons (ed_listD (ed_op (ed_var rfl h4) ed_int (rd_ixt (at_nat (j := 0) rfl rfl)))) (ea_cons (ED.is (ed_lc (emb := rowD) (xs := p.2) (fun _ => true) rowD (ed_op (x := planD p) (ed_var rfl h4) ed_int (rd_ixt (at_nat (j := 1) rfl rfl))) (by omega) (fun _ => rfl) (fun _ _ _ _ _ _ => et_yes) (fun r v F5 hm e5 rv _ => ed_tup (ds := [dpD r.1, waysD r.2]) (ea_cons (ed_op (ed_var rfl rv) ed_int (rd_ixt (at_nat (j := 0) rfl rfl))) (ea_cons (ed_listD (ed_op (ed_var rfl rv) ed_int (rd_ixt (at_nat (j := 1) rfl rfl)))) ea_nil)) (by show 2 ≤ 100000; decide))) (by rw [filter_yes]; rfl)) ea_nil)) (by show 2 ≤ 100000; decide)) fun v6 F5 H5 n5 h6 => ?_
    have n05 := n4.trans n5
    refine q_asg (d := sD (planS p)) n5.fh (ed_call (ea_cons (ed_var rfl (h4.mono n5.f)) ea_nil) ⟨p, rfl, gp, rfl⟩) fun v8 F6 H6 n6 h8 => ?_
    have n06 := n05.trans n6
    have h6 := h6.mono n6.f
    show tSeq _ _ _ ([some (.ref a), some (.int (cell ns 1)), some v2, none, some v4, y5, some v6, none, some v8, none, none, none] : L2.St) _
    refine q_when (b := false) n6.fh (ET.is (et_or (a := false) (b := false) (et_not (a := true) (et_B (ed_isi (ed_var rfl h8) rfl lst))) fun _ => ET.is (et_or (a := false) (b := false) (et_test (ED.is (ed_neT (ed_var rfl h8) (ed_call (ea_cons (ed_var rfl h6) ea_nil) ⟨p, rfl, gp, rfl⟩)) (by simp))) fun _ => et_test (ED.is (ed_op (ed_var rfl (h4.mono (n5.f.trans n6.f))) (ed_var rfl h6) (rd_neD (okE_plan _) (okE_plan _))) (by rw [eqD_refl (okE_plan _)]; rfl))) rfl) rfl) (fun hb => nomatch hb) (fun _ H7 n7 => ?_)
    have n07 := n06.trans n7
    obtain ⟨wy, ewy⟩ : ∃ w, w = cell ns 0 % 6 := ⟨_, rfl⟩
    refine q_int (n := wy) n7.fh (ED.is (ed_op (hc _ _ _ _ n07.f rfl (by decide)) ed_int (rd_mod (by decide))) (by rw [ewy])) fun H8 n8 => ?_
    have n08 := n07.trans n8
    refine q_asgX (P := someT) n8.fh (ex_callA (exa_of (ea_cons (ed_var rfl h8) (ea_cons (ed_var rfl (.int wy)) (ea_cons (hc _ _ _ _ n08.f rfl (by decide)) (ea_cons (hc _ _ _ _ n08.f rfl (by decide)) ea_nil)))) ⟨_, _, _, _, rfl, pl12, okp⟩) fun _ _ _ h => h) fun d8 v8 F9 H9 hd n9 h8 => ?_
    obtain ⟨t, rfl, tl, tok⟩ := hd
    have n09 := n08.trans n9
    have h6 := h6.mono n9.f
    show tSeq _ _ _ ([some (.ref a), some (.int (cell ns 1)), some v2, none, some v4, y5, some v6, none, some v8, some (.int wy), none, none] : L2.St) _
    refine q_whenJ (P := fun σ' H' => ∃ v t F', σ' = [some (.ref a), some (.int (cell ns 1)), some v2, none, some v4, y5, some v6, none, some v, some (.int wy), none, none] ∧ Nx H H F' H' ∧ Rp F' v (sD t) ∧ t.length ≤ 15000 ∧ okT t) (fun σ' H' p' => ?_) n9.fh (et_and (et_test (ED.is (ed_op (ed_var rfl (.int wy)) ed_int (rd_eqD rfl rfl)) (by rw [eqv_int]))) fun _ => et_test (ED.is (ed_op (ed_op (hc _ _ _ _ n09.f rfl (by decide)) ed_int (rd_mod (by decide))) ed_int (rd_eqD rfl rfl)) (by rw [eqv_int]))) (fun _ H10 n10 D1 k1 => ?_) (fun _ H10 n10 => ⟨v8, t, F9, rfl, n09.trans n10, h8, by omega, tok⟩)
    · obtain ⟨v8, t, F10, rfl, n10, h8, tl, tok⟩ := p'
      refine q_asg (d := optP (readV t)) n10.fh (ed_call (ea_cons (ed_var rfl h8) ea_nil) ⟨t, rfl, tl, tok, rfl⟩) fun v10 F11 H11 n11 h10 => ?_
      have n011 := n10.trans n11
      have h8 := h8.mono n11.f
      show tSeq _ _ _ ([some (.ref a), some (.int (cell ns 1)), some v2, none, some v4, y5, some v6, none, some v8, some (.int wy), some v10, none] : L2.St) _
      cases er : readV t with
      | none =>
        rw [er] at h10
        refine q_when (b := true) n11.fh (et_test (ED.is (ed_op (ed_var rfl h10) ed_non rd_isN) rfl)) (fun _ H12 n12 => ?_) (fun hb => nomatch hb)
        refine s_ret n12.fh (ed_call (ea_cons (ed_var rfl h8) ea_nil) ⟨t, rfl, tl, er, rfl⟩) fun v F13 H13 n13 r13 => ?_
        rw [r13.ebl]; exact q _
      | some p' =>
        rw [er] at h10
        have gp' : GoodPlan 5 p' := readV_good er
        refine q_when (b := false) n11.fh (et_test (ED.is (ed_op (x := planD p') (ed_var rfl h10) ed_non rd_isN) rfl)) (fun hb => nomatch hb) (fun _ H12 n12 => ?_)
        refine q_asgE (E := fun _ _ _ => False) (C := A.bt) (o := some (planD p')) n12.fh (EZ.is (ez_call (ea_cons (ed_var rfl h8) ea_nil) ⟨t, rfl, tl, rfl⟩) (by rw [er]; rfl)) (fun z => nomatch z) fun d v11 F13 H13 z n13 h11 => ?_
        cases z
        refine s_ret n13.fh (ED.is (ed_and (a := true) (b := true) (ed_call (ea_cons (ed_var rfl h11) ea_nil) ⟨p', rfl, gp', rfl⟩) fun _ => ED.is (ed_op (ed_var rfl h11) (ed_var rfl (h10.mono n13.f)) (rd_eqD (okE_plan _) (okE_plan _))) (by rw [show optP (some p') = planD p' from rfl, eqD_refl (okE_plan _)])) rfl) fun v F14 H14 n14 r14 => ?_
        rw [r14.ebl]; exact q _
    · have n010 := n09.trans n10
      obtain ⟨m, em⟩ : ∃ m, m = 300 + cell ns 2 / 8 % 2 - (p.2.length : Int) := ⟨_, rfl⟩
      have m0 : 0 ≤ m ∧ m ≤ 301 := by omega
      refine (ex_addT (a := t) (m := 1806) (ed_var rfl h8) (EX.imp (ed_mulT (k := m) (ed_lit "there\n") (ED.is (ed_op (ed_op ed_int (ed_op (ed_op (hc _ _ _ _ n010.f rfl (by decide)) ed_int (rd_fdiv ⟨by decide, by decide⟩)) ed_int (rd_mod (by decide))) rd_addI) (ED.is (ed_cb (ea_cons (ed_op (x := planD p) (ed_var rfl h6) ed_int (rd_ixt (at_nat (j := 1) rfl rfl))) ea_nil) rl_lenL) (by rw [List.length_map])) rd_sub) (by rw [em])) (by decide +kernel) (by omega) (by unfold okT; decide +kernel)) fun d ⟨l, e, hl, ho⟩ => ⟨l, e, by rw [show (lit "there\n").length = 6 from by decide +kernel] at hl; omega, ho⟩) (by omega)) F9 H10 (Ex.refl _) n10.fh _ fun d v F11 H11 hd n11 h11 => ?_
      obtain ⟨t2, rfl, tl2, tok2⟩ := hd
      exact k1 _ _ ⟨v, t2, F11, rfl, n010.trans n11, h11, by omega, tok2 tok⟩
  · -- many rows
    obtain ⟨m, em⟩ : ∃ m, m = 100 + cell ns 0 / 96 % 201 := ⟨_, rfl⟩
    have mb : 100 ≤ m ∧ m ≤ 300 := by omega
    have n06 := n03.trans n6
    refine q_int (D0 := D1) (n := m) n6.fh (ED.is (ed_op ed_int (ed_op (ed_op (hc _ _ _ _ n06.f rfl (by decide)) ed_int (rd_fdiv ⟨by decide, by decide⟩)) ed_int (rd_mod (by decide))) rd_addI) (by rw [em])) fun H7 n7 => ?_
    have n07 := n06.trans n7
    obtain ⟨wn, ewn⟩ : ∃ wn : List (Int × Int), wn = sn.map fun x => (x, m - 1 - x * 9) := ⟨_, rfl⟩
    obtain ⟨cnt, ecnt⟩ : ∃ cnt : Nat, m - (pl.2.length : Int) = (cnt : Int) := ⟨(m - (pl.2.length : Int)).toNat, by omega⟩
    have gw : GoodWays 0 ((pl.2.length + cnt : Nat) : Int) wn := by
      refine ⟨?_, fun w hw => ?_⟩
      · rw [ewn, List.map_map, show (Prod.fst ∘ fun x : Int => (x, m - 1 - x * 9)) = fun x => x from rfl, List.map_id']; exact sup
      · rw [ewn] at hw
        obtain ⟨x, hx, rfl⟩ := List.mem_map.mp hw
        have := sup.2 x hx
        show 0 ≤ m - 1 - x * 9 ∧ m - 1 - x * 9 < _
        omega
    have gq : GoodPlan 5 (padP wn pl cnt) := pad_ok gp (by omega) gw
    have pq := pad_len gp gq
    refine s_asg (D0 := D1) (d := planD (padP wn pl cnt)) n7.fh (ED.is (ed_tup (ds := [waysD wn, .lst (pl.2.map rowD ++ (List.replicate cnt [rowD (none, [])]).flatten)]) (ea_cons (ED.is (ed_lc (emb := D.int) (xs := sn) (fun _ => true) (fun x => wayD (x, m - 1 - x * 9)) (ed_var rfl h2) (by omega) (fun _ => rfl) (fun _ _ _ _ _ _ => et_yes) (fun x v F8 hm e8 rv _ => by
      have hx := sup.2 x hm
      exact ed_tup (ds := [.int x, .int (m - 1 - x * 9)]) (ea_cons (ed_var rfl rv) (ea_cons (ed_op (ed_op (ed_var rfl (.int m)) ed_int rd_sub) (ed_op (ed_var rfl rv) ed_int (rd_mulI (Or.inl ⟨by omega, by omega⟩))) rd_sub) ea_nil)) (by show 2 ≤ 100000; decide))) (by rw [filter_yes, ewn]; unfold waysD; rw [List.map_map]; rfl)) (ea_cons (ed_op (ed_op (x := planD pl) (ed_var rfl h4) ed_int (rd_ixt (at_nat (j := 1) rfl rfl))) (ed_op (ed_lst (ds := [rowD (none, [])]) (ea_cons (ed_tup (ds := [.non, .lst []]) (ea_cons ed_non (ea_cons (ed_lst ea_nil (by decide)) ea_nil)) (by show 2 ≤ 100000; decide)) ea_nil) (by show 1 ≤ 100000; decide)) (ED.is (ed_op (ed_var rfl (.int m)) (ED.is (ed_cb (ea_cons (ed_op (x := planD pl) (ed_var rfl h4) ed_int (rd_ixt (at_nat (j := 1) rfl rfl))) ea_nil) rl_lenL) (by rw [List.length_map])) rd_sub) (by rw [ecnt])) (rd_rep (by decide) (by omega) (by omega))) (rd_addL (by
      show (pl.2.map rowD).length + (List.replicate (cnt : Int).toNat [rowD ((none, []) : Rw)]).flatten.length ≤ 100000
      have h9 : (List.replicate (cnt : Int).toNat [rowD ((none, []) : Rw)]).flatten.length = cnt := by simp
      rw [List.length_map, h9]; omega))) ea_nil)) (by show 2 ≤ 100000; decide)) (by
      show D.tup [waysD wn, .lst (pl.2.map rowD ++ _)] = D.tup [waysD wn, .lst ((pl.2 ++ List.replicate cnt (none, [])).map rowD)]
      rw [List.map_append, List.map_replicate]
      congr 4
      induction cnt with
      | zero => rfl
      | succ n ih => simp [List.replicate_succ])) fun v F8 H8 n8 h8 => k1 _ _ ⟨v, _, _, F8, rfl, n07.trans n8, h8, gq, by omega⟩
  · exact ⟨v4, none, pl, F3, rfl, n03.trans n6, h4, gp, by have := rows_len gp; omega⟩
end
theorem all_mk {l : PySem.W.OpenLaw} {w : World} {K : PySem.W.Frag} {h : Heap} {mg : Str → Option Value} {fa : Addr} {a_he a_bh a_bg a_bd a_bp a_bs a_nw a_bt : Addr} (X : K.In h) (G : h.Ns mainGlobals mg) (hfa : mg "law" = some (.ref fa)) 
    {f0 : Addr} {od0 an0 : Option Addr} {sl0 : Array (Option Value)} {oc0 kV0 dc0 pm0 cd0 ct0 : Value}
    {f1 : Addr} {od1 an1 : Option Addr} {sl1 : Array (Option Value)} {oc1 kV1 dc1 pm1 cd1 ct1 : Value}
    {f2 : Addr} {od2 an2 : Option Addr} {sl2 : Array (Option Value)} {oc2 kV2 dc2 pm2 cd2 ct2 : Value}
    {f3 : Addr} {od3 an3 : Option Addr} {sl3 : Array (Option Value)} {oc3 kV3 dc3 pm3 cd3 ct3 : Value}
    {f4 : Addr} {od4 an4 : Option Addr} {sl4 : Array (Option Value)} {oc4 kV4 dc4 pm4 cd4 ct4 : Value}
    {f5 : Addr} {od5 an5 : Option Addr} {sl5 : Array (Option Value)} {oc5 kV5 dc5 pm5 cd5 ct5 : Value}
    {f6 : Addr} {od6 an6 : Option Addr} {sl6 : Array (Option Value)} {oc6 kV6 dc6 pm6 cd6 ct6 : Value}
    {f7 : Addr} {od7 an7 : Option Addr} {sl7 : Array (Option Value)} {oc7 kV7 dc7 pm7 cd7 ct7 : Value}
    {f8 : Addr} {od8 an8 : Option Addr} {sl8 : Array (Option Value)} {oc8 kV8 dc8 pm8 cd8 ct8 : Value}
    {f9 : Addr} {od9 an9 : Option Addr} {sl9 : Array (Option Value)} {oc9 kV9 dc9 pm9 cd9 ct9 : Value}
    {f10 : Addr} {od10 an10 : Option Addr} {sl10 : Array (Option Value)} {oc10 kV10 dc10 pm10 cd10 ct10 : Value}
    {f11 : Addr} {od11 an11 : Option Addr} {sl11 : Array (Option Value)} {oc11 kV11 dc11 pm11 cd11 ct11 : Value}
    {f12 : Addr} {od12 an12 : Option Addr} {sl12 : Array (Option Value)} {oc12 kV12 dc12 pm12 cd12 ct12 : Value}
    {f13 : Addr} {od13 an13 : Option Addr} {sl13 : Array (Option Value)} {oc13 kV13 dc13 pm13 cd13 ct13 : Value}
    {f14 : Addr} {od14 an14 : Option Addr} {sl14 : Array (Option Value)} {oc14 kV14 dc14 pm14 cd14 ct14 : Value}
    {f15 : Addr} {od15 an15 : Option Addr} {sl15 : Array (Option Value)} {oc15 kV15 dc15 pm15 cd15 ct15 : Value}
    {f16 : Addr} {od16 an16 : Option Addr} {sl16 : Array (Option Value)} {oc16 kV16 dc16 pm16 cd16 ct16 : Value}
    {f17 : Addr} {od17 an17 : Option Addr} {sl17 : Array (Option Value)} {oc17 kV17 dc17 pm17 cd17 ct17 : Value}
    {f18 : Addr} {od18 an18 : Option Addr} {sl18 : Array (Option Value)} {oc18 kV18 dc18 pm18 cd18 ct18 : Value}
    {f19 : Addr} {od19 an19 : Option Addr} {sl19 : Array (Option Value)} {oc19 kV19 dc19 pm19 cd19 ct19 : Value}
    {f20 : Addr} {od20 an20 : Option Addr} {sl20 : Array (Option Value)} {oc20 kV20 dc20 pm20 cd20 ct20 : Value}
    {f21 : Addr} {od21 an21 : Option Addr} {sl21 : Array (Option Value)} {oc21 kV21 dc21 pm21 cd21 ct21 : Value}
    {f22 : Addr} {od22 an22 : Option Addr} {sl22 : Array (Option Value)} {oc22 kV22 dc22 pm22 cd22 ct22 : Value}
    {f23 : Addr} {od23 an23 : Option Addr} {sl23 : Array (Option Value)} {oc23 kV23 dc23 pm23 cd23 ct23 : Value}
    {f24 : Addr} {od24 an24 : Option Addr} {sl24 : Array (Option Value)} {oc24 kV24 dc24 pm24 cd24 ct24 : Value}
    {f25 : Addr} {od25 an25 : Option Addr} {sl25 : Array (Option Value)} {oc25 kV25 dc25 pm25 cd25 ct25 : Value}
    {f26 : Addr} {od26 an26 : Option Addr} {sl26 : Array (Option Value)} {oc26 kV26 dc26 pm26 cd26 ct26 : Value}
    {f27 : Addr} {od27 an27 : Option Addr} {sl27 : Array (Option Value)} {oc27 kV27 dc27 pm27 cd27 ct27 : Value}
    {f28 : Addr} {od28 an28 : Option Addr} {sl28 : Array (Option Value)} {oc28 kV28 dc28 pm28 cd28 ct28 : Value}
    {f29 : Addr} {od29 an29 : Option Addr} {sl29 : Array (Option Value)} {oc29 kV29 dc29 pm29 cd29 ct29 : Value}
    {f30 : Addr} {od30 an30 : Option Addr} {sl30 : Array (Option Value)} {oc30 kV30 dc30 pm30 cd30 ct30 : Value}
    {t_MOST_DEEDS : Tok}
    {t_LOOKS : Tok}
    {t_MOST_ROWS : Tok}
    {t_BEGIN : Tok}
    {t_THERE : Tok}
    {t_FIGURES : Tok}
    {t_MOST_FIGURES : Tok}
    (a0 : PySem.W.nsIn K mainGlobals "is_whole" = some (some (.ref f0)))
    (l0 : K.lookup f0 = some ⟨oc0, od0, .func (PySem.W.fnOf "is_whole" "is_whole" (defArgs s_is_whole) (defBody s_is_whole) (defScope s_is_whole) .none kV0 dc0 pm0 an0 cd0 ct0), sl0⟩)
    (c0 : PySem.W.codeIn K cd0 "is_whole" = true) (k0 : PySem.W.keepIn K (.ref f0) = true)
    (a1 : PySem.W.nsIn K mainGlobals "is_list" = some (some (.ref f1)))
    (l1 : K.lookup f1 = some ⟨oc1, od1, .func (PySem.W.fnOf "is_list" "is_list" (defArgs s_is_list) (defBody s_is_list) (defScope s_is_list) .none kV1 dc1 pm1 an1 cd1 ct1), sl1⟩)
    (c1 : PySem.W.codeIn K cd1 "is_list" = true) (k1 : PySem.W.keepIn K (.ref f1) = true)
    (a2 : PySem.W.nsIn K mainGlobals "is_rising" = some (some (.ref f2)))
    (l2 : K.lookup f2 = some ⟨oc2, od2, .func (PySem.W.fnOf "is_rising" "is_rising" (defArgs s_is_rising) (defBody s_is_rising) (defScope s_is_rising) .none kV2 dc2 pm2 an2 cd2 ct2), sl2⟩)
    (c2 : PySem.W.codeIn K cd2 "is_rising" = true) (k2 : PySem.W.keepIn K (.ref f2) = true)
    (a3 : PySem.W.nsIn K mainGlobals "is_pair" = some (some (.ref f3)))
    (l3 : K.lookup f3 = some ⟨oc3, od3, .func (PySem.W.fnOf "is_pair" "is_pair" (defArgs s_is_pair) (defBody s_is_pair) (defScope s_is_pair) .none kV3 dc3 pm3 an3 cd3 ct3), sl3⟩)
    (c3 : PySem.W.codeIn K cd3 "is_pair" = true) (k3 : PySem.W.keepIn K (.ref f3) = true)
    (a4 : PySem.W.nsIn K mainGlobals "are_ways" = some (some (.ref f4)))
    (l4 : K.lookup f4 = some ⟨oc4, od4, .func (PySem.W.fnOf "are_ways" "are_ways" (defArgs s_are_ways) (defBody s_are_ways) (defScope s_are_ways) .none kV4 dc4 pm4 an4 cd4 ct4), sl4⟩)
    (c4 : PySem.W.codeIn K cd4 "are_ways" = true) (k4 : PySem.W.keepIn K (.ref f4) = true)
    (a5 : PySem.W.nsIn K mainGlobals "is_row" = some (some (.ref f5)))
    (l5 : K.lookup f5 = some ⟨oc5, od5, .func (PySem.W.fnOf "is_row" "is_row" (defArgs s_is_row) (defBody s_is_row) (defScope s_is_row) .none kV5 dc5 pm5 an5 cd5 ct5), sl5⟩)
    (c5 : PySem.W.codeIn K cd5 "is_row" = true) (k5 : PySem.W.keepIn K (.ref f5) = true)
    (a6 : PySem.W.nsIn K mainGlobals "is_plan" = some (some (.ref f6)))
    (l6 : K.lookup f6 = some ⟨oc6, od6, .func (PySem.W.fnOf "is_plan" "is_plan" (defArgs s_is_plan) (defBody s_is_plan) (defScope s_is_plan) .none kV6 dc6 pm6 an6 cd6 ct6), sl6⟩)
    (c6 : PySem.W.codeIn K cd6 "is_plan" = true) (k6 : PySem.W.keepIn K (.ref f6) = true)
    (a7 : PySem.W.nsIn K mainGlobals "written_ways" = some (some (.ref f7)))
    (l7 : K.lookup f7 = some ⟨oc7, od7, .func (PySem.W.fnOf "written_ways" "written_ways" (defArgs s_written_ways) (defBody s_written_ways) (defScope s_written_ways) .none kV7 dc7 pm7 an7 cd7 ct7), sl7⟩)
    (c7 : PySem.W.codeIn K cd7 "written_ways" = true) (k7 : PySem.W.keepIn K (.ref f7) = true)
    (a8 : PySem.W.nsIn K mainGlobals "written_row" = some (some (.ref f8)))
    (l8 : K.lookup f8 = some ⟨oc8, od8, .func (PySem.W.fnOf "written_row" "written_row" (defArgs s_written_row) (defBody s_written_row) (defScope s_written_row) .none kV8 dc8 pm8 an8 cd8 ct8), sl8⟩)
    (c8 : PySem.W.codeIn K cd8 "written_row" = true) (k8 : PySem.W.keepIn K (.ref f8) = true)
    (a9 : PySem.W.nsIn K mainGlobals "written" = some (some (.ref f9)))
    (l9 : K.lookup f9 = some ⟨oc9, od9, .func (PySem.W.fnOf "written" "written" (defArgs s_written) (defBody s_written) (defScope s_written) .none kV9 dc9 pm9 an9 cd9 ct9), sl9⟩)
    (c9 : PySem.W.codeIn K cd9 "written" = true) (k9 : PySem.W.keepIn K (.ref f9) = true)
    (a10 : PySem.W.nsIn K mainGlobals "read_number" = some (some (.ref f10)))
    (l10 : K.lookup f10 = some ⟨oc10, od10, .func (PySem.W.fnOf "read_number" "read_number" (defArgs s_read_number) (defBody s_read_number) (defScope s_read_number) .none kV10 dc10 pm10 an10 cd10 ct10), sl10⟩)
    (c10 : PySem.W.codeIn K cd10 "read_number" = true) (k10 : PySem.W.keepIn K (.ref f10) = true)
    (a11 : PySem.W.nsIn K mainGlobals "read_way" = some (some (.ref f11)))
    (l11 : K.lookup f11 = some ⟨oc11, od11, .func (PySem.W.fnOf "read_way" "read_way" (defArgs s_read_way) (defBody s_read_way) (defScope s_read_way) .none kV11 dc11 pm11 an11 cd11 ct11), sl11⟩)
    (c11 : PySem.W.codeIn K cd11 "read_way" = true) (k11 : PySem.W.keepIn K (.ref f11) = true)
    (a12 : PySem.W.nsIn K mainGlobals "read_ways" = some (some (.ref f12)))
    (l12 : K.lookup f12 = some ⟨oc12, od12, .func (PySem.W.fnOf "read_ways" "read_ways" (defArgs s_read_ways) (defBody s_read_ways) (defScope s_read_ways) .none kV12 dc12 pm12 an12 cd12 ct12), sl12⟩)
    (c12 : PySem.W.codeIn K cd12 "read_ways" = true) (k12 : PySem.W.keepIn K (.ref f12) = true)
    (a13 : PySem.W.nsIn K mainGlobals "read_begin" = some (some (.ref f13)))
    (l13 : K.lookup f13 = some ⟨oc13, od13, .func (PySem.W.fnOf "read_begin" "read_begin" (defArgs s_read_begin) (defBody s_read_begin) (defScope s_read_begin) .none kV13 dc13 pm13 an13 cd13 ct13), sl13⟩)
    (c13 : PySem.W.codeIn K cd13 "read_begin" = true) (k13 : PySem.W.keepIn K (.ref f13) = true)
    (a14 : PySem.W.nsIn K mainGlobals "read_row" = some (some (.ref f14)))
    (l14 : K.lookup f14 = some ⟨oc14, od14, .func (PySem.W.fnOf "read_row" "read_row" (defArgs s_read_row) (defBody s_read_row) (defScope s_read_row) .none kV14 dc14 pm14 an14 cd14 ct14), sl14⟩)
    (c14 : PySem.W.codeIn K cd14 "read_row" = true) (k14 : PySem.W.keepIn K (.ref f14) = true)
    (a15 : PySem.W.nsIn K mainGlobals "read" = some (some (.ref f15)))
    (l15 : K.lookup f15 = some ⟨oc15, od15, .func (PySem.W.fnOf "read" "read" (defArgs s_read) (defBody s_read) (defScope s_read) .none kV15 dc15 pm15 an15 cd15 ct15), sl15⟩)
    (c15 : PySem.W.codeIn K cd15 "read" = true) (k15 : PySem.W.keepIn K (.ref f15) = true)
    (a16 : PySem.W.nsIn K mainGlobals "_law_cell" = some (some (.ref f16)))
    (l16 : K.lookup f16 = some ⟨oc16, od16, .func (PySem.W.fnOf "_law_cell" "_law_cell" (defArgs s__law_cell) (defBody s__law_cell) (defScope s__law_cell) .none kV16 dc16 pm16 an16 cd16 ct16), sl16⟩)
    (c16 : PySem.W.codeIn K cd16 "_law_cell" = true) (k16 : PySem.W.keepIn K (.ref f16) = true)
    (a17 : PySem.W.nsIn K mainGlobals "_law_int" = some (some (.ref f17)))
    (l17 : K.lookup f17 = some ⟨oc17, od17, .func (PySem.W.fnOf "_law_int" "_law_int" (defArgs s__law_int) (defBody s__law_int) (defScope s__law_int) .none kV17 dc17 pm17 an17 cd17 ct17), sl17⟩)
    (c17 : PySem.W.codeIn K cd17 "_law_int" = true) (k17 : PySem.W.keepIn K (.ref f17) = true)
    (a18 : PySem.W.nsIn K mainGlobals "_law_ways" = some (some (.ref f18)))
    (l18 : K.lookup f18 = some ⟨oc18, od18, .func (PySem.W.fnOf "_law_ways" "_law_ways" (defArgs s__law_ways) (defBody s__law_ways) (defScope s__law_ways) .none kV18 dc18 pm18 an18 cd18 ct18), sl18⟩)
    (c18 : PySem.W.codeIn K cd18 "_law_ways" = true) (k18 : PySem.W.keepIn K (.ref f18) = true)
    (a19 : PySem.W.nsIn K mainGlobals "_law_rows" = some (some (.ref f19)))
    (l19 : K.lookup f19 = some ⟨oc19, od19, .func (PySem.W.fnOf "_law_rows" "_law_rows" (defArgs s__law_rows) (defBody s__law_rows) (defScope s__law_rows) .none kV19 dc19 pm19 an19 cd19 ct19), sl19⟩)
    (c19 : PySem.W.codeIn K cd19 "_law_rows" = true) (k19 : PySem.W.keepIn K (.ref f19) = true)
    (a20 : PySem.W.nsIn K mainGlobals "_law_shown" = some (some (.ref f20)))
    (l20 : K.lookup f20 = some ⟨oc20, od20, .func (PySem.W.fnOf "_law_shown" "_law_shown" (defArgs s__law_shown) (defBody s__law_shown) (defScope s__law_shown) .none kV20 dc20 pm20 an20 cd20 ct20), sl20⟩)
    (c20 : PySem.W.codeIn K cd20 "_law_shown" = true) (k20 : PySem.W.keepIn K (.ref f20) = true)
    (a21 : PySem.W.nsIn K mainGlobals "_law_changed" = some (some (.ref f21)))
    (l21 : K.lookup f21 = some ⟨oc21, od21, .func (PySem.W.fnOf "_law_changed" "_law_changed" (defArgs s__law_changed) (defBody s__law_changed) (defScope s__law_changed) .none kV21 dc21 pm21 an21 cd21 ct21), sl21⟩)
    (c21 : PySem.W.codeIn K cd21 "_law_changed" = true) (k21 : PySem.W.keepIn K (.ref f21) = true)
    (a22 : PySem.W.nsIn K mainGlobals "_law_number" = some (some (.ref f22)))
    (l22 : K.lookup f22 = some ⟨oc22, od22, .func (PySem.W.fnOf "_law_number" "_law_number" (defArgs s__law_number) (defBody s__law_number) (defScope s__law_number) .none kV22 dc22 pm22 an22 cd22 ct22), sl22⟩)
    (c22 : PySem.W.codeIn K cd22 "_law_number" = true) (k22 : PySem.W.keepIn K (.ref f22) = true)
    (a23 : PySem.W.nsIn K mainGlobals "_law_ways_of" = some (some (.ref f23)))
    (l23 : K.lookup f23 = some ⟨oc23, od23, .func (PySem.W.fnOf "_law_ways_of" "_law_ways_of" (defArgs s__law_ways_of) (defBody s__law_ways_of) (defScope s__law_ways_of) .none kV23 dc23 pm23 an23 cd23 ct23), sl23⟩)
    (c23 : PySem.W.codeIn K cd23 "_law_ways_of" = true) (k23 : PySem.W.keepIn K (.ref f23) = true)
    (a24 : PySem.W.nsIn K mainGlobals "_law_row_of" = some (some (.ref f24)))
    (l24 : K.lookup f24 = some ⟨oc24, od24, .func (PySem.W.fnOf "_law_row_of" "_law_row_of" (defArgs s__law_row_of) (defBody s__law_row_of) (defScope s__law_row_of) .none kV24 dc24 pm24 an24 cd24 ct24), sl24⟩)
    (c24 : PySem.W.codeIn K cd24 "_law_row_of" = true) (k24 : PySem.W.keepIn K (.ref f24) = true)
    (a25 : PySem.W.nsIn K mainGlobals "_law_good_ways" = some (some (.ref f25)))
    (l25 : K.lookup f25 = some ⟨oc25, od25, .func (PySem.W.fnOf "_law_good_ways" "_law_good_ways" (defArgs s__law_good_ways) (defBody s__law_good_ways) (defScope s__law_good_ways) .none kV25 dc25 pm25 an25 cd25 ct25), sl25⟩)
    (c25 : PySem.W.codeIn K cd25 "_law_good_ways" = true) (k25 : PySem.W.keepIn K (.ref f25) = true)
    (a26 : PySem.W.nsIn K mainGlobals "_law_plan_of" = some (some (.ref f26)))
    (l26 : K.lookup f26 = some ⟨oc26, od26, .func (PySem.W.fnOf "_law_plan_of" "_law_plan_of" (defArgs s__law_plan_of) (defBody s__law_plan_of) (defScope s__law_plan_of) .none kV26 dc26 pm26 an26 cd26 ct26), sl26⟩)
    (c26 : PySem.W.codeIn K cd26 "_law_plan_of" = true) (k26 : PySem.W.keepIn K (.ref f26) = true)
    (a27 : PySem.W.nsIn K mainGlobals "_law_kinds" = some (some (.ref f27)))
    (l27 : K.lookup f27 = some ⟨oc27, od27, .func (PySem.W.fnOf "_law_kinds" "_law_kinds" (defArgs s__law_kinds) (defBody s__law_kinds) (defScope s__law_kinds) .none kV27 dc27 pm27 an27 cd27 ct27), sl27⟩)
    (c27 : PySem.W.codeIn K cd27 "_law_kinds" = true) (k27 : PySem.W.keepIn K (.ref f27) = true)
    (a28 : PySem.W.nsIn K mainGlobals "_law_word" = some (some (.ref f28)))
    (l28 : K.lookup f28 = some ⟨oc28, od28, .func (PySem.W.fnOf "_law_word" "_law_word" (defArgs s__law_word) (defBody s__law_word) (defScope s__law_word) .none kV28 dc28 pm28 an28 cd28 ct28), sl28⟩)
    (c28 : PySem.W.codeIn K cd28 "_law_word" = true) (k28 : PySem.W.keepIn K (.ref f28) = true)
    (a29 : PySem.W.nsIn K mainGlobals "_law_refused" = some (some (.ref f29)))
    (l29 : K.lookup f29 = some ⟨oc29, od29, .func (PySem.W.fnOf "_law_refused" "_law_refused" (defArgs s__law_refused) (defBody s__law_refused) (defScope s__law_refused) .none kV29 dc29 pm29 an29 cd29 ct29), sl29⟩)
    (c29 : PySem.W.codeIn K cd29 "_law_refused" = true) (k29 : PySem.W.keepIn K (.ref f29) = true)
    (a30 : PySem.W.nsIn K mainGlobals "law" = some (some (.ref f30)))
    (l30 : K.lookup f30 = some ⟨oc30, od30, .func (PySem.W.fnOf "law" "law" (defArgs s_law) (defBody s_law) (defScope s_law) .none kV30 dc30 pm30 an30 cd30 ct30), sl30⟩)
    (c30 : PySem.W.codeIn K cd30 "law" = true) (k30 : PySem.W.keepIn K (.ref f30) = true)
    (z_ValueError : PySem.W.nsIn K mainGlobals "ValueError" = some none)
    (z_enumerate : PySem.W.nsIn K mainGlobals "enumerate" = some none)
    (z_int : PySem.W.nsIn K mainGlobals "int" = some none)
    (z_isinstance : PySem.W.nsIn K mainGlobals "isinstance" = some none)
    (z_len : PySem.W.nsIn K mainGlobals "len" = some none)
    (z_list : PySem.W.nsIn K mainGlobals "list" = some none)
    (z_min : PySem.W.nsIn K mainGlobals "min" = some none)
    (z_range : PySem.W.nsIn K mainGlobals "range" = some none)
    (z_str : PySem.W.nsIn K mainGlobals "str" = some none)
    (z_tuple : PySem.W.nsIn K mainGlobals "tuple" = some none)
    (z_type : PySem.W.nsIn K mainGlobals "type" = some none)
    (z_zip : PySem.W.nsIn K mainGlobals "zip" = some none)
    (v_MOST_DEEDS : PySem.W.nsIn K mainGlobals "MOST_DEEDS" = some (some (.int 5 t_MOST_DEEDS)))
    (v_LOOKS : PySem.W.nsIn K mainGlobals "LOOKS" = some (some (.int 10 t_LOOKS)))
    (v_MOST_ROWS : PySem.W.nsIn K mainGlobals "MOST_ROWS" = some (some (.int 300 t_MOST_ROWS)))
    (v_BEGIN : PySem.W.nsIn K mainGlobals "BEGIN" = some (some (.str "begin" t_BEGIN)))
    (v_THERE : PySem.W.nsIn K mainGlobals "THERE" = some (some (.str "there" t_THERE)))
    (v_FIGURES : PySem.W.nsIn K mainGlobals "FIGURES" = some (some (.str "0123456789" t_FIGURES)))
    (v_MOST_FIGURES : PySem.W.nsIn K mainGlobals "MOST_FIGURES" = some (some (.int 3 t_MOST_FIGURES)))
    (e1_HouseError : PySem.W.nsIn K mainGlobals "HouseError" = some (some (.ref a_he)))
    (e2_HouseError : PySem.W.excIn K a_he [.type "ValueError", .type "Exception", .type "BaseException", .type "object"] "ValueError.__new__" = true)
    (e3_HouseError : PySem.W.keepIn K (.ref a_he) = true) (e4_HouseError : PySem.W.subIn K (.ref a_he) (.type "BaseException") = some true) (e5_HouseError : PySem.W.typeIn K (.ref a_he) = some (.type "type"))
    (e1_BadHouse : PySem.W.nsIn K mainGlobals "BadHouse" = some (some (.ref a_bh)))
    (e2_BadHouse : PySem.W.excIn K a_bh [.type "ValueError", .type "Exception", .type "BaseException", .type "object"] "ValueError.__new__" = true)
    (e3_BadHouse : PySem.W.keepIn K (.ref a_bh) = true) (e4_BadHouse : PySem.W.subIn K (.ref a_bh) (.type "BaseException") = some true) (e5_BadHouse : PySem.W.typeIn K (.ref a_bh) = some (.type "type"))
    (e1_BadGuess : PySem.W.nsIn K mainGlobals "BadGuess" = some (some (.ref a_bg)))
    (e2_BadGuess : PySem.W.excIn K a_bg [.type "ValueError", .type "Exception", .type "BaseException", .type "object"] "ValueError.__new__" = true)
    (e3_BadGuess : PySem.W.keepIn K (.ref a_bg) = true) (e4_BadGuess : PySem.W.subIn K (.ref a_bg) (.type "BaseException") = some true) (e5_BadGuess : PySem.W.typeIn K (.ref a_bg) = some (.type "type"))
    (e1_BadDeed : PySem.W.nsIn K mainGlobals "BadDeed" = some (some (.ref a_bd)))
    (e2_BadDeed : PySem.W.excIn K a_bd [.type "ValueError", .type "Exception", .type "BaseException", .type "object"] "ValueError.__new__" = true)
    (e3_BadDeed : PySem.W.keepIn K (.ref a_bd) = true) (e4_BadDeed : PySem.W.subIn K (.ref a_bd) (.type "BaseException") = some true) (e5_BadDeed : PySem.W.typeIn K (.ref a_bd) = some (.type "type"))
    (e1_BadPlan : PySem.W.nsIn K mainGlobals "BadPlan" = some (some (.ref a_bp)))
    (e2_BadPlan : PySem.W.excIn K a_bp [.type "ValueError", .type "Exception", .type "BaseException", .type "object"] "ValueError.__new__" = true)
    (e3_BadPlan : PySem.W.keepIn K (.ref a_bp) = true) (e4_BadPlan : PySem.W.subIn K (.ref a_bp) (.type "BaseException") = some true) (e5_BadPlan : PySem.W.typeIn K (.ref a_bp) = some (.type "type"))
    (e1_BadSteps : PySem.W.nsIn K mainGlobals "BadSteps" = some (some (.ref a_bs)))
    (e2_BadSteps : PySem.W.excIn K a_bs [.type "ValueError", .type "Exception", .type "BaseException", .type "object"] "ValueError.__new__" = true)
    (e3_BadSteps : PySem.W.keepIn K (.ref a_bs) = true) (e4_BadSteps : PySem.W.subIn K (.ref a_bs) (.type "BaseException") = some true) (e5_BadSteps : PySem.W.typeIn K (.ref a_bs) = some (.type "type"))
    (e1_NoWay : PySem.W.nsIn K mainGlobals "NoWay" = some (some (.ref a_nw)))
    (e2_NoWay : PySem.W.excIn K a_nw [.type "ValueError", .type "Exception", .type "BaseException", .type "object"] "ValueError.__new__" = true)
    (e3_NoWay : PySem.W.keepIn K (.ref a_nw) = true) (e4_NoWay : PySem.W.subIn K (.ref a_nw) (.type "BaseException") = some true) (e5_NoWay : PySem.W.typeIn K (.ref a_nw) = some (.type "type"))
    (e1_BadText : PySem.W.nsIn K mainGlobals "BadText" = some (some (.ref a_bt)))
    (e2_BadText : PySem.W.excIn K a_bt [.type "ValueError", .type "Exception", .type "BaseException", .type "object"] "ValueError.__new__" = true)
    (e3_BadText : PySem.W.keepIn K (.ref a_bt) = true) (e4_BadText : PySem.W.subIn K (.ref a_bt) (.type "BaseException") = some true) (e5_BadText : PySem.W.typeIn K (.ref a_bt) = some (.type "type"))
    (y1 : PySem.W.specialIn K (.builtin "object.__class__") "__get__" = some (some (.builtin "getset_descriptor.__get__"))) (y2 : PySem.W.takesIn K (.builtin "object.__class__") = some true)
    (x0_BadText : PySem.W.findIn K (.ref a_bt) "__getattribute__" = some (some (.builtin "BaseException.__getattribute__")))
    (x1_BadText : PySem.W.findIn K (.ref a_bt) "__getattr__" = some none)
    (x2_BadText : PySem.W.findIn K (.ref a_bt) "__class__" = some (some (.builtin "object.__class__")))
    (x3_BadText : PySem.W.hasDictIn K a_bt = true) (x4_BadText : PySem.W.mroIn K a_bt (.type "object") = some true)
    (x5_BadText : PySem.W.subIn K (.ref a_bt) (.ref a_he) = some true)
    (wv_BadText : PySem.W.kitOne K (.ref a_bt) (.type "ValueError") = some true)
    (wh_BadText : PySem.W.kitOne K (.ref a_bt) (.ref a_bh) = some false)
    (wg_BadText : PySem.W.kitOne K (.ref a_bt) (.ref a_bg) = some false)
    (wd_BadText : PySem.W.kitOne K (.ref a_bt) (.ref a_bd) = some false)
    (wp_BadText : PySem.W.kitOne K (.ref a_bt) (.ref a_bp) = some false)
    (ws_BadText : PySem.W.kitOne K (.ref a_bt) (.ref a_bs) = some false)
    (wn_BadText : PySem.W.kitOne K (.ref a_bt) (.ref a_nw) = some false)
    (wt_BadText : PySem.W.kitOne K (.ref a_bt) (.ref a_bt) = some true)
    (x3_HouseError : PySem.W.hasDictIn K a_he = true) :
    ∃ fd : FuncData, (∀ (s : Shared) (v : Value), BindsTo s fd ⟨[v], []⟩ [("_law_script", v)]) ∧ ∀ base : Heap, K.In base → base.Ns mainGlobals mg → FnOk l.prog w K mg base CX0 8 fa fd ["_law_script"] (spLaw K) := by
  have e := hfa.symm.trans (PySem.W.mg_of X G a30)
  cases e
  obtain ⟨A, rfl, rfl, rfl, rfl, rfl, rfl, rfl, rfl⟩ : ∃ A : Ad, A.he = a_he ∧ A.bh = a_bh ∧ A.bg = a_bg ∧ A.bd = a_bd ∧ A.bp = a_bp ∧ A.bs = a_bs ∧ A.nw = a_nw ∧ A.bt = a_bt := ⟨⟨a_he, a_he, a_bh, a_bg, a_bd, a_bp, a_bs, a_nw, a_bt⟩, rfl, rfl, rfl, rfl, rfl, rfl, rfl, rfl⟩
  have T : Txt K mg A := { m_ValueError := PySem.W.mg_none_of X G z_ValueError, m_enumerate := PySem.W.mg_none_of X G z_enumerate, m_int := PySem.W.mg_none_of X G z_int, m_isinstance := PySem.W.mg_none_of X G z_isinstance, m_len := PySem.W.mg_none_of X G z_len, m_list := PySem.W.mg_none_of X G z_list, m_min := PySem.W.mg_none_of X G z_min, m_range := PySem.W.mg_none_of X G z_range, m_str := PySem.W.mg_none_of X G z_str, m_tuple := PySem.W.mg_none_of X G z_tuple, m_type := PySem.W.mg_none_of X G z_type, m_zip := PySem.W.mg_none_of X G z_zip, c_MOST_DEEDS := ⟨_, PySem.W.mg_of X G v_MOST_DEEDS⟩, c_LOOKS := ⟨_, PySem.W.mg_of X G v_LOOKS⟩, c_MOST_ROWS := ⟨_, PySem.W.mg_of X G v_MOST_ROWS⟩, c_BEGIN := ⟨_, PySem.W.mg_of X G v_BEGIN⟩, c_THERE := ⟨_, PySem.W.mg_of X G v_THERE⟩, c_FIGURES := ⟨_, PySem.W.mg_of X G v_FIGURES⟩, c_MOST_FIGURES := ⟨_, PySem.W.mg_of X G v_MOST_FIGURES⟩, HouseError := ⟨PySem.W.mg_of X G e1_HouseError, e2_HouseError, e3_HouseError, e4_HouseError, e5_HouseError⟩, BadHouse := ⟨PySem.W.mg_of X G e1_BadHouse, e2_BadHouse, e3_BadHouse, e4_BadHouse, e5_BadHouse⟩, BadGuess := ⟨PySem.W.mg_of X G e1_BadGuess, e2_BadGuess, e3_BadGuess, e4_BadGuess, e5_BadGuess⟩, BadDeed := ⟨PySem.W.mg_of X G e1_BadDeed, e2_BadDeed, e3_BadDeed, e4_BadDeed, e5_BadDeed⟩, BadPlan := ⟨PySem.W.mg_of X G e1_BadPlan, e2_BadPlan, e3_BadPlan, e4_BadPlan, e5_BadPlan⟩, BadSteps := ⟨PySem.W.mg_of X G e1_BadSteps, e2_BadSteps, e3_BadSteps, e4_BadSteps, e5_BadSteps⟩, NoWay := ⟨PySem.W.mg_of X G e1_NoWay, e2_NoWay, e3_NoWay, e4_NoWay, e5_NoWay⟩, BadText := ⟨PySem.W.mg_of X G e1_BadText, e2_BadText, e3_BadText, e4_BadText, e5_BadText⟩, q_BadText := ⟨⟨x0_BadText, x1_BadText, e4_BadText, x3_BadText, x2_BadText, y1, y2, x4_BadText⟩, ⟨wv_BadText, wh_BadText, wg_BadText, wd_BadText, wp_BadText, ws_BadText, wn_BadText, wt_BadText⟩, PySem.W.exm_ref e4_HouseError x3_HouseError e5_HouseError x5_BadText⟩ }
  refine ⟨PySem.W.fnOf "law" "law" (defArgs s_law) (defBody s_law) (defScope s_law) .none kV30 dc30 pm30 an30 cd30 ct30, fun s v => .of_eq rfl, fun base _ _ => ?_⟩
  have F0 := fun_mk (st := s_is_whole) l0 c0 k0
  have b0 := F0.binds (ps := P_is_whole) fun _ _ _ _ _ _ us hl => match us, hl with | [_, _], _ => rfl
  have c_is_whole : Df l.prog w K mg base CX0 1 "is_whole" P_is_whole (spR R_is_whole) := ⟨_, _, ok_is_whole F0 T , PySem.W.mg_of X G a0, k0, b0⟩
  have F1 := fun_mk (st := s_is_list) l1 c1 k1
  have b1 := F1.binds (ps := P_is_list) fun _ _ _ _ _ _ us hl => match us, hl with | [_, _, _], _ => rfl
  have c_is_list : Df l.prog w K mg base CX0 1 "is_list" P_is_list (spR R_is_list) := ⟨_, _, ok_is_list F1 T , PySem.W.mg_of X G a1, k1, b1⟩
  have F2 := fun_mk (st := s_is_rising) l2 c2 k2
  have b2 := F2.binds (ps := P_is_rising) fun _ _ _ _ _ _ us hl => match us, hl with | [_, _], _ => rfl
  have c_is_rising : Df l.prog w K mg base CX0 2 "is_rising" P_is_rising (spR R_is_rising) := ⟨_, _, ok_is_rising F2 T c_is_list c_is_whole, PySem.W.mg_of X G a2, k2, b2⟩
  have F3 := fun_mk (st := s_is_pair) l3 c3 k3
  have b3 := F3.binds (ps := P_is_pair) fun _ _ _ _ _ _ us hl => match us, hl with | [_], _ => rfl
  have c_is_pair : Df l.prog w K mg base CX0 1 "is_pair" P_is_pair (spR R_is_pair) := ⟨_, _, ok_is_pair F3 T , PySem.W.mg_of X G a3, k3, b3⟩
  have F4 := fun_mk (st := s_are_ways) l4 c4 k4
  have b4 := F4.binds (ps := P_are_ways) fun _ _ _ _ _ _ us hl => match us, hl with | [_, _, _], _ => rfl
  have c_are_ways : Df l.prog w K mg base CX0 3 "are_ways" P_are_ways (spR R_are_waysN) := ⟨_, _, ok_are_ways F4 T c_is_rising c_is_list c_is_pair c_is_whole, PySem.W.mg_of X G a4, k4, b4⟩
  have F5 := fun_mk (st := s_is_row) l5 c5 k5
  have b5 := F5.binds (ps := P_is_row) fun _ _ _ _ _ _ us hl => match us, hl with | [_, _, _, _], _ => rfl
  have c_is_row : Df l.prog w K mg base CX0 4 "is_row" P_is_row (spR R_is_rowN) := ⟨_, _, ok_is_row F5 T c_is_pair c_is_list c_is_whole c_are_ways, PySem.W.mg_of X G a5, k5, b5⟩
  have F6 := fun_mk (st := s_is_plan) l6 c6 k6
  have b6 := F6.binds (ps := P_is_plan) fun _ _ _ _ _ _ us hl => match us, hl with | [_, _], _ => rfl
  have c_is_plan : Df l.prog w K mg base CX0 5 "is_plan" P_is_plan (spR R_is_planN) := ⟨_, _, ok_is_plan F6 T c_is_pair c_is_list c_are_ways c_is_row, PySem.W.mg_of X G a6, k6, b6⟩
  have F7 := fun_mk (st := s_written_ways) l7 c7 k7
  have b7 := F7.binds (ps := P_written_ways) fun _ _ _ _ _ _ us hl => match us, hl with | [_], _ => rfl
  have c_written_ways : Df l.prog w K mg base CX0 1 "written_ways" P_written_ways (spR R_wways) := ⟨_, _, ok_written_ways F7 T , PySem.W.mg_of X G a7, k7, b7⟩
  have F8 := fun_mk (st := s_written_row) l8 c8 k8
  have b8 := F8.binds (ps := P_written_row) fun _ _ _ _ _ _ us hl => match us, hl with | [_, _], _ => rfl
  have c_written_row : Df l.prog w K mg base CX0 2 "written_row" P_written_row (spR R_wrow) := ⟨_, _, ok_written_row F8 T c_written_ways, PySem.W.mg_of X G a8, k8, b8⟩
  have F9 := fun_mk (st := s_written) l9 c9 k9
  have b9 := F9.binds (ps := P_written) fun _ _ _ _ _ _ us hl => match us, hl with | [_], _ => rfl
  have c_written : Df l.prog w K mg base CX0 3 "written" P_written (spR R_written) := ⟨_, _, ok_written F9 T c_written_row c_written_ways, PySem.W.mg_of X G a9, k9, b9⟩
  have F10 := fun_mk (st := s_read_number) l10 c10 k10
  have b10 := F10.binds (ps := P_read_number) fun _ _ _ _ _ _ us hl => match us, hl with | [_], _ => rfl
  have c_read_number : Df l.prog w K mg base (L2.CX l.prog w) 1 "read_number" P_read_number (spZ R_rn A.bt) := ⟨_, _, ok_read_number F10 T , PySem.W.mg_of X G a10, k10, b10⟩
  have F11 := fun_mk (st := s_read_way) l11 c11 k11
  have b11 := F11.binds (ps := P_read_way) fun _ _ _ _ _ _ us hl => match us, hl with | [_], _ => rfl
  have c_read_way : Df l.prog w K mg base (L2.CX l.prog w) 2 "read_way" P_read_way (spZ R_rw A.bt) := ⟨_, _, ok_read_way F11 T c_read_number, PySem.W.mg_of X G a11, k11, b11⟩
  have F12 := fun_mk (st := s_read_ways) l12 c12 k12
  have b12 := F12.binds (ps := P_read_ways) fun _ _ _ _ _ _ us hl => match us, hl with | [_], _ => rfl
  have c_read_ways : Df l.prog w K mg base (L2.CX l.prog w) 3 "read_ways" P_read_ways (spZ R_rws A.bt) := ⟨_, _, ok_read_ways F12 T c_read_way, PySem.W.mg_of X G a12, k12, b12⟩
  have F13 := fun_mk (st := s_read_begin) l13 c13 k13
  have b13 := F13.binds (ps := P_read_begin) fun _ _ _ _ _ _ us hl => match us, hl with | [_], _ => rfl
  have c_read_begin : Df l.prog w K mg base (L2.CX l.prog w) 4 "read_begin" P_read_begin (spZ R_rb A.bt) := ⟨_, _, ok_read_begin F13 T c_read_ways, PySem.W.mg_of X G a13, k13, b13⟩
  have F14 := fun_mk (st := s_read_row) l14 c14 k14
  have b14 := F14.binds (ps := P_read_row) fun _ _ _ _ _ _ us hl => match us, hl with | [_], _ => rfl
  have c_read_row : Df l.prog w K mg base (L2.CX l.prog w) 4 "read_row" P_read_row (spZ R_rr A.bt) := ⟨_, _, ok_read_row F14 T c_read_number c_read_ways, PySem.W.mg_of X G a14, k14, b14⟩
  have F15 := fun_mk (st := s_read) l15 c15 k15
  have b15 := F15.binds (ps := P_read) fun _ _ _ _ _ _ us hl => match us, hl with | [_], _ => rfl
  have c_read : Df l.prog w K mg base (L2.CX l.prog w) 6 "read" P_read (spZ R_rd A.bt) := ⟨_, _, ok_read F15 T c_read_begin c_is_plan c_read_row, PySem.W.mg_of X G a15, k15, b15⟩
  have F16 := fun_mk (st := s__law_cell) l16 c16 k16
  have b16 := F16.binds (ps := P__law_cell) fun _ _ _ _ _ _ us hl => match us, hl with | [_, _], _ => rfl
  have c__law_cell : Df l.prog w K mg base CX0 1 "_law_cell" P__law_cell (spR (R_cell K)) := ⟨_, _, ok__law_cell F16 T , PySem.W.mg_of X G a16, k16, b16⟩
  have F17 := fun_mk (st := s__law_int) l17 c17 k17
  have b17 := F17.binds (ps := P__law_int) fun _ _ _ _ _ _ us hl => match us, hl with | [_], _ => rfl
  have c__law_int : Df l.prog w K mg base CX0 1 "_law_int" P__law_int (spR R_int) := ⟨_, _, ok__law_int F17 T , PySem.W.mg_of X G a17, k17, b17⟩
  have F18 := fun_mk (st := s__law_ways) l18 c18 k18
  have b18 := F18.binds (ps := P__law_ways) fun _ _ _ _ _ _ us hl => match us, hl with | [_, _, _, _], _ => rfl
  have c__law_ways : Df l.prog w K mg base CX0 1 "_law_ways" P__law_ways (spR R_ways) := ⟨_, _, ok__law_ways F18 T , PySem.W.mg_of X G a18, k18, b18⟩
  have F19 := fun_mk (st := s__law_rows) l19 c19 k19
  have b19 := F19.binds (ps := P__law_rows) fun _ _ _ _ _ _ us hl => match us, hl with | [_, _, _], _ => rfl
  have c__law_rows : Df l.prog w K mg base CX0 2 "_law_rows" P__law_rows (spR (R_rows K)) := ⟨_, _, ok__law_rows F19 T c__law_cell c__law_ways, PySem.W.mg_of X G a19, k19, b19⟩
  have F20 := fun_mk (st := s__law_shown) l20 c20 k20
  have b20 := F20.binds (ps := P__law_shown) fun _ _ _ _ _ _ us hl => match us, hl with | [_], _ => rfl
  have c__law_shown : Df l.prog w K mg base CX0 1 "_law_shown" P__law_shown (spR R_lshown) := ⟨_, _, ok__law_shown F20 T , PySem.W.mg_of X G a20, k20, b20⟩
  have F21 := fun_mk (st := s__law_changed) l21 c21 k21
  have b21 := F21.binds (ps := P__law_changed) fun _ _ _ _ _ _ us hl => match us, hl with | [_, _, _, _], _ => rfl
  have c__law_changed : Df l.prog w K mg base CX0 1 "_law_changed" P__law_changed (spA okCh (fun _ d => someT d)) := ⟨_, _, ok__law_changed F21 T , PySem.W.mg_of X G a21, k21, b21⟩
  have F22 := fun_mk (st := s__law_number) l22 c22 k22
  have b22 := F22.binds (ps := P__law_number) fun _ _ _ _ _ _ us hl => match us, hl with | [_], _ => rfl
  have c__law_number : Df l.prog w K mg base CX0 1 "_law_number" P__law_number (spR R_lnum) := ⟨_, _, ok__law_number F22 T , PySem.W.mg_of X G a22, k22, b22⟩
  have F23 := fun_mk (st := s__law_ways_of) l23 c23 k23
  have b23 := F23.binds (ps := P__law_ways_of) fun _ _ _ _ _ _ us hl => match us, hl with | [_], _ => rfl
  have c__law_ways_of : Df l.prog w K mg base CX0 2 "_law_ways_of" P__law_ways_of (spR R_lwayso) := ⟨_, _, ok__law_ways_of F23 T c__law_number, PySem.W.mg_of X G a23, k23, b23⟩
  have F24 := fun_mk (st := s__law_row_of) l24 c24 k24
  have b24 := F24.binds (ps := P__law_row_of) fun _ _ _ _ _ _ us hl => match us, hl with | [_], _ => rfl
  have c__law_row_of : Df l.prog w K mg base CX0 3 "_law_row_of" P__law_row_of (spR R_lrowo) := ⟨_, _, ok__law_row_of F24 T c__law_number c__law_ways_of, PySem.W.mg_of X G a24, k24, b24⟩
  have F25 := fun_mk (st := s__law_good_ways) l25 c25 k25
  have b25 := F25.binds (ps := P__law_good_ways) fun _ _ _ _ _ _ us hl => match us, hl with | [_, _, _], _ => rfl
  have c__law_good_ways : Df l.prog w K mg base CX0 1 "_law_good_ways" P__law_good_ways (spR R_lgood) := ⟨_, _, ok__law_good_ways F25 T , PySem.W.mg_of X G a25, k25, b25⟩
  have F26 := fun_mk (st := s__law_plan_of) l26 c26 k26
  have b26 := F26.binds (ps := P__law_plan_of) fun _ _ _ _ _ _ us hl => match us, hl with | [_], _ => rfl
  have c__law_plan_of : Df l.prog w K mg base CX0 4 "_law_plan_of" P__law_plan_of (spR R_lplan) := ⟨_, _, ok__law_plan_of F26 T c__law_ways_of c__law_row_of c__law_good_ways, PySem.W.mg_of X G a26, k26, b26⟩
  have F27 := fun_mk (st := s__law_kinds) l27 c27 k27
  have b27 := F27.binds (ps := P__law_kinds) fun _ _ _ _ _ _ us hl => match us, hl with | [_], _ => rfl
  have c__law_kinds : Df l.prog w K mg base CX0 2 "_law_kinds" P__law_kinds (spR R_kinds) := ⟨_, _, ok__law_kinds F27 T c__law_int, PySem.W.mg_of X G a27, k27, b27⟩
  have F28 := fun_mk (st := s__law_word) l28 c28 k28
  have b28 := F28.binds (ps := P__law_word) fun _ _ _ _ _ _ us hl => match us, hl with | [_], _ => rfl
  have c__law_word : Dp l.prog w K mg base 1 "_law_word" P__law_word (spWord K A) := ⟨_, _, ok__law_word F28 T, PySem.W.mg_of X G a28, k28, b28⟩
  have F29 := fun_mk (st := s__law_refused) l29 c29 k29
  have b29 := F29.binds (ps := P__law_refused) fun _ _ _ _ _ _ us hl => match us, hl with | [_], _ => rfl
  have c__law_refused : Df l.prog w K mg base CX0 7 "_law_refused" P__law_refused (spR R_lref) := ⟨_, _, ok__law_refused F29 T c_read c__law_word, PySem.W.mg_of X G a29, k29, b29⟩
  have F30 := fun_mk (st := s_law) l30 c30 k30
  exact ok_law F30 T c__law_cell c__law_rows c_written c__law_changed c__law_plan_of c_read c__law_refused c__law_kinds c__law_shown
end K07
open PySem PySem.W PyProof.Rows
set_option maxRecDepth 100000 in
set_option maxHeartbeats 0 in
theorem PySem.Challenge.cw_blindplan_k07_plans_written_holds : PySem.Challenge.rw_blindplan_k07_plans_written.Holds := by
  w_on; o_law; k_head; (case hw => w_witness2)
  k_fill
  refine L2.walk_of (l := PySem.Challenge.rw_blindplan_k07_plans_written) (n := 63) (k := 8) (x := "_law_script") (CX := fun _ => L2.CX0) (sp := fun w => Bp.spLaw _) rfl (by decide) rfl ⟨rfl, by decide, by decide⟩ (fun w h Y => PySem.W.kIn_of Y) ?F (fun _ _ a ns hl _ hS => ⟨a, ns, rfl, hS, hl, fun _ => rfl⟩) (fun _ _ _ _ _ h => h)
  case F =>
    intro w mg fa h KX G hmg
    refine' K07.all_mk KX G hmg ?a0 ?l0 ?c0 ?k0 ?a1 ?l1 ?c1 ?k1 ?a2 ?l2 ?c2 ?k2 ?a3 ?l3 ?c3 ?k3 ?a4 ?l4 ?c4 ?k4 ?a5 ?l5 ?c5 ?k5 ?a6 ?l6 ?c6 ?k6 ?a7 ?l7 ?c7 ?k7 ?a8 ?l8 ?c8 ?k8 ?a9 ?l9 ?c9 ?k9 ?a10 ?l10 ?c10 ?k10 ?a11 ?l11 ?c11 ?k11 ?a12 ?l12 ?c12 ?k12 ?a13 ?l13 ?c13 ?k13 ?a14 ?l14 ?c14 ?k14 ?a15 ?l15 ?c15 ?k15 ?a16 ?l16 ?c16 ?k16 ?a17 ?l17 ?c17 ?k17 ?a18 ?l18 ?c18 ?k18 ?a19 ?l19 ?c19 ?k19 ?a20 ?l20 ?c20 ?k20 ?a21 ?l21 ?c21 ?k21 ?a22 ?l22 ?c22 ?k22 ?a23 ?l23 ?c23 ?k23 ?a24 ?l24 ?c24 ?k24 ?a25 ?l25 ?c25 ?k25 ?a26 ?l26 ?c26 ?k26 ?a27 ?l27 ?c27 ?k27 ?a28 ?l28 ?c28 ?k28 ?a29 ?l29 ?c29 ?k29 ?a30 ?l30 ?c30 ?k30 ?z_ValueError ?z_enumerate ?z_int ?z_isinstance ?z_len ?z_list ?z_min ?z_range ?z_str ?z_tuple ?z_type ?z_zip ?v_MOST_DEEDS ?v_LOOKS ?v_MOST_ROWS ?v_BEGIN ?v_THERE ?v_FIGURES ?v_MOST_FIGURES ?e1_HouseError ?e2_HouseError ?e3_HouseError ?e4_HouseError ?e5_HouseError ?e1_BadHouse ?e2_BadHouse ?e3_BadHouse ?e4_BadHouse ?e5_BadHouse ?e1_BadGuess ?e2_BadGuess ?e3_BadGuess ?e4_BadGuess ?e5_BadGuess ?e1_BadDeed ?e2_BadDeed ?e3_BadDeed ?e4_BadDeed ?e5_BadDeed ?e1_BadPlan ?e2_BadPlan ?e3_BadPlan ?e4_BadPlan ?e5_BadPlan ?e1_BadSteps ?e2_BadSteps ?e3_BadSteps ?e4_BadSteps ?e5_BadSteps ?e1_NoWay ?e2_NoWay ?e3_NoWay ?e4_NoWay ?e5_NoWay ?e1_BadText ?e2_BadText ?e3_BadText ?e4_BadText ?e5_BadText ?y1 ?y2 ?x0_BadText ?x1_BadText ?x2_BadText ?x3_BadText ?x4_BadText ?x5_BadText ?wv_BadText ?wh_BadText ?wg_BadText ?wd_BadText ?wp_BadText ?ws_BadText ?wn_BadText ?wt_BadText ?x3_HouseError
    (case e1_HouseError => k_is)
    (case e1_BadHouse => k_is)
    (case e1_BadGuess => k_is)
    (case e1_BadDeed => k_is)
    (case e1_BadPlan => k_is)
    (case e1_BadSteps => k_is)
    (case e1_NoWay => k_is)
    (case e1_BadText => k_is)
    (case a0 => k_is)
    (case l0 => k_is)
    (case c0 => k_is)
    (case k0 => k_is)
    (case a1 => k_is)
    (case l1 => k_is)
    (case c1 => k_is)
    (case k1 => k_is)
    (case a2 => k_is)
    (case l2 => k_is)
    (case c2 => k_is)
    (case k2 => k_is)
    (case a3 => k_is)
    (case l3 => k_is)
    (case c3 => k_is)
    (case k3 => k_is)
    (case a4 => k_is)
    (case l4 => k_is)
    (case c4 => k_is)
    (case k4 => k_is)
    (case a5 => k_is)
    (case l5 => k_is)
    (case c5 => k_is)
    (case k5 => k_is)
    (case a6 => k_is)
    (case l6 => k_is)
    (case c6 => k_is)
    (case k6 => k_is)
    (case a7 => k_is)
    (case l7 => k_is)
    (case c7 => k_is)
    (case k7 => k_is)
    (case a8 => k_is)
    (case l8 => k_is)
    (case c8 => k_is)
    (case k8 => k_is)
    (case a9 => k_is)
    (case l9 => k_is)
    (case c9 => k_is)
    (case k9 => k_is)
    (case a10 => k_is)
    (case l10 => k_is)
    (case c10 => k_is)
    (case k10 => k_is)
    (case a11 => k_is)
    (case l11 => k_is)
    (case c11 => k_is)
    (case k11 => k_is)
    (case a12 => k_is)
    (case l12 => k_is)
    (case c12 => k_is)
    (case k12 => k_is)
    (case a13 => k_is)
    (case l13 => k_is)
    (case c13 => k_is)
    (case k13 => k_is)
    (case a14 => k_is)
    (case l14 => k_is)
    (case c14 => k_is)
    (case k14 => k_is)
    (case a15 => k_is)
    (case l15 => k_is)
    (case c15 => k_is)
    (case k15 => k_is)
    (case a16 => k_is)
    (case l16 => k_is)
    (case c16 => k_is)
    (case k16 => k_is)
    (case a17 => k_is)
    (case l17 => k_is)
    (case c17 => k_is)
    (case k17 => k_is)
    (case a18 => k_is)
    (case l18 => k_is)
    (case c18 => k_is)
    (case k18 => k_is)
    (case a19 => k_is)
    (case l19 => k_is)
    (case c19 => k_is)
    (case k19 => k_is)
    (case a20 => k_is)
    (case l20 => k_is)
    (case c20 => k_is)
    (case k20 => k_is)
    (case a21 => k_is)
    (case l21 => k_is)
    (case c21 => k_is)
    (case k21 => k_is)
    (case a22 => k_is)
    (case l22 => k_is)
    (case c22 => k_is)
    (case k22 => k_is)
    (case a23 => k_is)
    (case l23 => k_is)
    (case c23 => k_is)
    (case k23 => k_is)
    (case a24 => k_is)
    (case l24 => k_is)
    (case c24 => k_is)
    (case k24 => k_is)
    (case a25 => k_is)
    (case l25 => k_is)
    (case c25 => k_is)
    (case k25 => k_is)
    (case a26 => k_is)
    (case l26 => k_is)
    (case c26 => k_is)
    (case k26 => k_is)
    (case a27 => k_is)
    (case l27 => k_is)
    (case c27 => k_is)
    (case k27 => k_is)
    (case a28 => k_is)
    (case l28 => k_is)
    (case c28 => k_is)
    (case k28 => k_is)
    (case a29 => k_is)
    (case l29 => k_is)
    (case c29 => k_is)
    (case k29 => k_is)
    (case a30 => k_is)
    (case l30 => k_is)
    (case c30 => k_is)
    (case k30 => k_is)
    (case z_ValueError => k_is)
    (case z_enumerate => k_is)
    (case z_int => k_is)
    (case z_isinstance => k_is)
    (case z_len => k_is)
    (case z_list => k_is)
    (case z_min => k_is)
    (case z_range => k_is)
    (case z_str => k_is)
    (case z_tuple => k_is)
    (case z_type => k_is)
    (case z_zip => k_is)
    (case v_MOST_DEEDS => k_is)
    (case v_LOOKS => k_is)
    (case v_MOST_ROWS => k_is)
    (case v_BEGIN => k_is)
    (case v_THERE => k_is)
    (case v_FIGURES => k_is)
    (case v_MOST_FIGURES => k_is)
    (case e2_HouseError => k_exc)
    (case e3_HouseError => k_is)
    (case e4_HouseError => k_is)
    (case e5_HouseError => k_is)
    (case e2_BadHouse => k_exc)
    (case e3_BadHouse => k_is)
    (case e4_BadHouse => k_is)
    (case e5_BadHouse => k_is)
    (case e2_BadGuess => k_exc)
    (case e3_BadGuess => k_is)
    (case e4_BadGuess => k_is)
    (case e5_BadGuess => k_is)
    (case e2_BadDeed => k_exc)
    (case e3_BadDeed => k_is)
    (case e4_BadDeed => k_is)
    (case e5_BadDeed => k_is)
    (case e2_BadPlan => k_exc)
    (case e3_BadPlan => k_is)
    (case e4_BadPlan => k_is)
    (case e5_BadPlan => k_is)
    (case e2_BadSteps => k_exc)
    (case e3_BadSteps => k_is)
    (case e4_BadSteps => k_is)
    (case e5_BadSteps => k_is)
    (case e2_NoWay => k_exc)
    (case e3_NoWay => k_is)
    (case e4_NoWay => k_is)
    (case e5_NoWay => k_is)
    (case e2_BadText => k_exc)
    (case e3_BadText => k_is)
    (case e4_BadText => k_is)
    (case e5_BadText => k_is)
    (case y1 => k_is)
    (case y2 => k_is)
    (case x0_BadText => k_is)
    (case x1_BadText => k_is)
    (case x2_BadText => k_is)
    (case x3_BadText => k_is)
    (case x4_BadText => k_is)
    (case x5_BadText => k_is)
    (case wv_BadText => kit_is)
    (case wh_BadText => kit_is)
    (case wg_BadText => kit_is)
    (case wd_BadText => kit_is)
    (case wp_BadText => kit_is)
    (case ws_BadText => kit_is)
    (case wn_BadText => kit_is)
    (case wt_BadText => kit_is)
    (case x3_HouseError => k_is)
