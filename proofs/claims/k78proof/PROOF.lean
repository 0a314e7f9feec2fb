import PyProof.Rows.All
import Wide.All
import OpenK.AllK
import Wide.FinOn
import HandS.ForMost
import HandS.ForExc
import HandS.TupAny
import HandS.TupMul
import HandS.IsInst
import HandS.SortInts
import HandS.Conv
import HandS.Text
import PyProof.StrBlock2
import HandS.Dict
import HandS.Small
import HandS.More
import HandS.Zip
import HandS.Style
import KE.GoesEnum
import KE.GoesMore
import PyProof.Rows.ListStrD
import HandS.Deep
import HandS.Strs
import HandS.SetFor
import PySem.Challenge.RW_tailswap_k78_whole_pieces_and_joints
set_option Elab.async false
set_option linter.all false
set_option maxRecDepth 100000
/-! DL: values as data over the hand layer. -/
namespace DL
open PySem PySem.Spec PyProof.Rows L2

/-- a value as data: tuples and lists that nobody changes any more are trees, a list that may change is a number into the data heap -/
inductive D where
  | non | bl (b : Bool) | int (i : Int) | str (cs : List Nat) | tup (xs : List D) | fz (xs : List D) | ro (xs : List D) | ref (n : Nat) | ty (n : String)
  deriving Inhabited
inductive Ob where
  | lst (xs : List D)
  | dct (ks vs : List D)
  deriving Inhabited
abbrev Hep := List Ob
abbrev Sl := List (Option D)
abbrev St := L2.St

inductive Res (α : Type) where
  | ok (a : α) (M : Hep) | err (c : Str) (M : Hep) | stuck
def Res.bind {α β : Type} (r : Res α) (f : α → Hep → Res β) : Res β := match r with
  | .ok a M => f a M
  | .err c M => .err c M
  | .stuck => .stuck
@[simp] theorem Res.bind_ok {α β : Type} (a : α) (M : Hep) (f : α → Hep → Res β) : (Res.ok a M).bind f = f a M := rfl
@[simp] theorem Res.bind_err {α β : Type} (c : Str) (M : Hep) (f : α → Hep → Res β) : (Res.err c M : Res α).bind f = .err c M := rfl
@[simp] theorem Res.bind_stuck {α β : Type} (f : α → Hep → Res β) : (Res.stuck : Res α).bind f = .stuck := rfl

abbrev Io := List Addr
abbrev H0 : Hp := fun _ => none
section
variable (K : PySem.W.Frag)
def TT (ι : Io) (H : Hp) (a : Addr) (xs : List V) : Prop := SqT K H0 a xs ∨ (Rd H a (.tup xs) ∧ a ∉ ι)
def LL (ι : Io) (H : Hp) (a : Addr) (xs : List V) : Prop := SqL K H0 a xs ∨ (Rd H a (.lst xs) ∧ a ∉ ι)
def LF (ι : Io) (H : Hp) (a : Addr) (xs : List V) : Prop := H a = some (.lst xs) ∧ a ∉ ι
mutual
/-- v stands for d -/
def VR (ι : Io) (H : Hp) : D → V → Prop
  | .non, v => v = .non
  | .bl b, v => v = .bl b
  | .int i, v => v = .int i
  | .str cs, v => v = .str ⟨cs.toArray⟩
  | .tup ds, v => ∃ a xs, v = .ref a ∧ TT K ι H a xs ∧ VRs ι H ds xs
  | .fz ds, v => ∃ a xs, v = .ref a ∧ LF ι H a xs ∧ VRs ι H ds xs
  | .ro ds, v => ∃ a xs, v = .ref a ∧ LL K ι H a xs ∧ VRs ι H ds xs
  | .ref n, v => ∃ a : Addr, v = .ref a ∧ ι[n]? = some a
  | .ty n, v => v = .ty n
def VRs (ι : Io) (H : Hp) : List D → List V → Prop
  | [], xs => xs = []
  | d :: ds, xs => ∃ x r, xs = x :: r ∧ VR ι H d x ∧ VRs ι H ds r
end
end

mutual
/-- all numbers in it are below n -/
def D.low (n : Nat) : D → Bool
  | .tup ds => lows n ds
  | .fz ds => lows n ds
  | .ro ds => lows n ds
  | .ref m => decide (m < n)
  | _ => true
def lows (n : Nat) : List D → Bool
  | [] => true
  | d :: ds => d.low n && lows n ds
end
def Ob.low (n : Nat) : Ob → Bool
  | .lst ds => lows n ds
  | .dct ks vs => lows n ks && lows n vs
/-- the first n objects lean on no later one -/
def Bel (n : Nat) (M : Hep) : Prop := ∀ (i : Nat) (ob : Ob), i < n → M[i]? = some ob → ob.low n = true

structure Ext (ι : Io) (H : Hp) (ι' : Io) (H' : Hp) : Prop where
  pre : ∃ t, ι' = ι ++ t ∧ ∀ a ∈ t, H a = none
  frame : ∀ a o, H a = some o → a ∉ ι → H' a = some o
  dom : ∀ a, H' a = none → H a = none
def OR (K : PySem.W.Frag) (ι : Io) (H : Hp) (a : Addr) : Ob → Prop
  | .lst ds => ∃ xs, H a = some (.lst xs) ∧ VRs K ι H ds xs
  | .dct ks vs => ∃ kvs : List (L2.Key × V), H a = some (.dK kvs) ∧ VRs K ι H ks (kvs.map fun p => kV p.1) ∧ VRs K ι H vs (kvs.map (·.2))
structure SH (K : PySem.W.Frag) (ι : Io) (M : Hep) (H : Hp) : Prop where
  nd : ι.Nodup
  len : ι.length = M.length
  ob : ∀ (n : Nat) (ob : Ob) (a : Addr), M[n]? = some ob → ι[n]? = some a → OR K ι H a ob
def ER (K : PySem.W.Frag) (ι : Io) (H : Hp) (σd : Sl) (σ : St) : Prop := σd.length = σ.length ∧ ∀ (i : Nat) (d : D), σd[i]? = some (some d) → ∃ v, σ[i]? = some (some v) ∧ VR K ι H d v
/-- the first n0 objects stand, and lean on nothing new -/
structure Keep (n0 : Nat) (M M' : Hep) : Prop where
  sz : M.length ≤ M'.length
  bel : ∀ n, n ≤ n0 → Bel n M → Bel n M'
theorem Keep.refl (n0 : Nat) (M : Hep) : Keep n0 M M := ⟨Nat.le_refl _, fun _ _ h => h⟩
theorem Keep.trans {n0 : Nat} {M M1 M2 : Hep} (a : Keep n0 M M1) (b : Keep n0 M1 M2) : Keep n0 M M2 := ⟨Nat.le_trans a.sz b.sz, fun n h x => b.bel n h (a.bel n h x)⟩
theorem Keep.mono {n m : Nat} {M M' : Hep} (h : m ≤ n) (k : Keep n M M') : Keep m M M' := ⟨k.sz, fun j hj b => k.bel j (Nat.le_trans hj h) b⟩

theorem Ext.refl (ι : Io) (H : Hp) : Ext ι H ι H := ⟨⟨[], by simp, fun _ h => by simp at h⟩, fun _ _ h _ => h, fun _ h => h⟩
theorem Ext.trans {ι ι1 ι2 : Io} {H H1 H2 : Hp} (a : Ext ι H ι1 H1) (b : Ext ι1 H1 ι2 H2) : Ext ι H ι2 H2 := by
  obtain ⟨t1, rfl, f1⟩ := a.pre
  obtain ⟨t2, rfl, f2⟩ := b.pre
  have nn : ∀ x o, H x = some o → x ∉ ι → x ∉ ι ++ t1 := fun x o h n => by
    simp only [List.mem_append, not_or]
    refine ⟨n, fun z => ?_⟩
    rw [f1 x z] at h; cases h
  refine ⟨⟨t1 ++ t2, by simp, fun x hx => ?_⟩, fun x o h n => b.frame x o (a.frame x o h n) (nn x o h n), fun x h => a.dom x (b.dom x h)⟩
  rcases List.mem_append.mp hx with z | z
  · exact f1 x z
  · exact a.dom x (f2 x z)
theorem Ext.notin {ι ι' : Io} {H H' : Hp} (e : Ext ι H ι' H') {a : Addr} {o : HO} (h : H a = some o) (n : a ∉ ι) : a ∉ ι' := by
  obtain ⟨t, rfl, f⟩ := e.pre
  simp only [List.mem_append, not_or]
  exact ⟨n, fun z => by rw [f a z] at h; cases h⟩
theorem Ext.get {ι ι' : Io} {H H' : Hp} (e : Ext ι H ι' H') {n : Nat} {a : Addr} (h : ι[n]? = some a) : ι'[n]? = some a := by
  obtain ⟨t, rfl, f⟩ := e.pre
  rw [List.getElem?_append_left (List.getElem?_eq_some_iff.mp h).1]; exact h
section
variable {K : PySem.W.Frag} {ι ι' : Io} {H H' : Hp}
theorem sqT_none {a : Addr} {xs : List V} (h : SqT K H0 a xs) (H : Hp) : SqT K H a xs := by
  rcases h with (h | ⟨o, h⟩) | h
  · cases h
  · cases h
  · exact .inr h
theorem sqL_none {a : Addr} {xs : List V} (h : SqL K H0 a xs) (H : Hp) : SqL K H a xs := by
  rcases h with (h | ⟨o, h⟩) | h
  · cases h
  · cases h
  · exact .inr h
theorem TT.sq {a : Addr} {xs : List V} (h : TT K ι H a xs) : SqT K H a xs := by
  rcases h with h | ⟨h, _⟩
  · exact sqT_none h H
  · exact .inl h
theorem LL.sq {a : Addr} {xs : List V} (h : LL K ι H a xs) : SqL K H a xs := by
  rcases h with h | ⟨h, _⟩
  · exact sqL_none h H
  · exact .inl h
theorem rd_ext {a : Addr} {u : HO} (e : Ext ι H ι' H') (h : Rd H a u) (n : a ∉ ι) : Rd H' a u ∧ a ∉ ι' := by
  rcases h with h | ⟨o, h⟩
  · exact ⟨.inl (e.frame _ _ h n), e.notin h n⟩
  · exact ⟨.inr ⟨o, e.frame _ _ h n⟩, e.notin h n⟩
theorem TT.ext {a : Addr} {xs : List V} (e : Ext ι H ι' H') (h : TT K ι H a xs) : TT K ι' H' a xs := by
  rcases h with h | ⟨h, n⟩
  · exact .inl h
  · exact .inr (rd_ext e h n)
theorem LL.ext {a : Addr} {xs : List V} (e : Ext ι H ι' H') (h : LL K ι H a xs) : LL K ι' H' a xs := by
  rcases h with h | ⟨h, n⟩
  · exact .inl h
  · exact .inr (rd_ext e h n)
theorem LF.ext {a : Addr} {xs : List V} (e : Ext ι H ι' H') (h : LF ι H a xs) : LF ι' H' a xs := ⟨e.frame _ _ h.1 h.2, e.notin h.1 h.2⟩
theorem LF.sq {a : Addr} {xs : List V} (h : LF ι H a xs) : SqL K H a xs := .inl (.inl h.1)
mutual
theorem VR.ext (e : Ext ι H ι' H') : ∀ {d : D} {v : V}, VR K ι H d v → VR K ι' H' d v
  | .non, v, h => by simpa only [VR] using h
  | .bl b, v, h => by simpa only [VR] using h
  | .int i, v, h => by simpa only [VR] using h
  | .str cs, v, h => by simpa only [VR] using h
  | .ty n, v, h => by simpa only [VR] using h
  | .ref n, v, h => by
    simp only [VR] at h ⊢
    obtain ⟨a, e1, e2⟩ := h
    exact ⟨a, e1, e.get e2⟩
  | .tup ds, v, h => by
    simp only [VR] at h ⊢
    obtain ⟨a, xs, e1, e2, e3⟩ := h
    exact ⟨a, xs, e1, e2.ext e, VRs.ext e e3⟩
  | .fz ds, v, h => by
    simp only [VR] at h ⊢
    obtain ⟨a, xs, e1, e2, e3⟩ := h
    exact ⟨a, xs, e1, e2.ext e, VRs.ext e e3⟩
  | .ro ds, v, h => by
    simp only [VR] at h ⊢
    obtain ⟨a, xs, e1, e2, e3⟩ := h
    exact ⟨a, xs, e1, e2.ext e, VRs.ext e e3⟩
theorem VRs.ext (e : Ext ι H ι' H') : ∀ {ds : List D} {xs : List V}, VRs K ι H ds xs → VRs K ι' H' ds xs
  | [], xs, h => by simpa only [VRs] using h
  | d :: ds, xs, h => by
    simp only [VRs] at h ⊢
    obtain ⟨x, r, e1, e2, e3⟩ := h
    exact ⟨x, r, e1, VR.ext e e2, VRs.ext e e3⟩
end
theorem ER.ext (e : Ext ι H ι' H') {σd : Sl} {σ : St} (h : ER K ι H σd σ) : ER K ι' H' σd σ := ⟨h.1, fun i d q => let ⟨v, a, b⟩ := h.2 i d q; ⟨v, a, b.ext e⟩⟩

/-! ### what a run reaches -/
structure Post (K : PySem.W.Frag) (n0 : Nat) (ι : Io) (M : Hep) (H : Hp) (ι' : Io) (M' : Hep) (H' : Hp) : Prop where
  ext : Ext ι H ι' H'
  sh : SH K ι' M' H'
  keep : Keep n0 M M'
theorem Post.trans {n0 : Nat} {ι ι1 ι2 : Io} {M M1 M2 : Hep} {H H1 H2 : Hp} (a : Post K n0 ι M H ι1 M1 H1) (b : Post K n0 ι1 M1 H1 ι2 M2 H2) : Post K n0 ι M H ι2 M2 H2 := ⟨a.ext.trans b.ext, b.sh, a.keep.trans b.keep⟩
theorem Post.refl {n0 : Nat} {M : Hep} (h : SH K ι M H) : Post K n0 ι M H ι M H := ⟨Ext.refl _ _, h, Keep.refl _ _⟩
/-- what is wanted of an error -/
abbrev EK := Str → Io → Hep → Hp → Prop
def Wp {α : Type} (K : PySem.W.Frag) (E : EK) (n0 : Nat) (ι : Io) (M : Hep) (H : Hp) (r : Res α) (k : α → Io → Hep → Hp → Prop) : Prop := match r with
  | .ok a M' => ∀ ι' H', Post K n0 ι M H ι' M' H' → k a ι' M' H'
  | .err c M' => ∀ ι' H', Post K n0 ι M H ι' M' H' → E c ι' M' H'
  | .stuck => False
theorem Wp.mono {α : Type} {E : EK} {n0 : Nat} {M : Hep} {r : Res α} {k k' : α → Io → Hep → Hp → Prop} (h : Wp K E n0 ι M H r k) (hk : ∀ a ι' M' H', Post K n0 ι M H ι' M' H' → k a ι' M' H' → k' a ι' M' H') : Wp K E n0 ι M H r k' := by
  cases r with
  | ok a M' => exact fun ι' H' p => hk a ι' M' H' p (h ι' H' p)
  | err c M' => exact h
  | stuck => exact h
theorem Wp.shift {α : Type} {E : EK} {n0 : Nat} {M M1 : Hep} {ι1 : Io} {H1 : Hp} {r : Res α} {k : α → Io → Hep → Hp → Prop} (p : Post K n0 ι M H ι1 M1 H1) (h : Wp K E n0 ι M H r k) : Wp K E n0 ι1 M1 H1 r k := by
  cases r with
  | ok a M' => exact fun ι' H' q => h ι' H' (p.trans q)
  | err c M' => exact fun ι' H' q => h ι' H' (p.trans q)
  | stuck => exact h
theorem Wp.bind {α β : Type} {E : EK} {n0 : Nat} {M : Hep} {r : Res α} {f : α → Hep → Res β} {k : β → Io → Hep → Hp → Prop} (h : Wp K E n0 ι M H (r.bind f) k) :
    Wp K E n0 ι M H r fun a ι' M' H' => Wp K E n0 ι' M' H' (f a M') k := by
  cases r with
  | ok a M' => exact fun ι' H' p => Wp.shift p h
  | err c M' => exact h
  | stuck => exact h

abbrev SemE := Nat → Sl → Hep → Res D
abbrev SemL := Nat → Sl → Hep → Res (List D)
abbrev SemT := Nat → Sl → Hep → Res Bool
/-- where a reading begins -/
structure Bg (K : PySem.W.Frag) (n0 : Nat) (ι : Io) (M : Hep) (H : Hp) (σd : Sl) (σ : St) : Prop where
  le : n0 ≤ M.length
  bel : Bel n0 M
  sh : SH K ι M H
  er : ER K ι H σd σ
theorem Bg.to {n0 : Nat} {M M' : Hep} {σd : Sl} {σ : St} (b : Bg K n0 ι M H σd σ) (p : Post K n0 ι M H ι' M' H') : Bg K n0 ι' M' H' σd σ :=
  ⟨Nat.le_trans b.le p.keep.sz, p.keep.bel n0 (Nat.le_refl _) b.bel, p.sh, b.er.ext p.ext⟩
def T (K : PySem.W.Frag) (E : EK) (f : SemE) : TE := fun σ H Q => ∃ n0 ι M σd, Bg K n0 ι M H σd σ ∧ Wp K E n0 ι M H (f n0 σd M) fun d ι' M' H' => ∀ v, VR K ι' H' d v → Q v H'
def Tt (K : PySem.W.Frag) (E : EK) (f : SemT) : L2.TT := fun σ H Q => ∃ n0 ι M σd, Bg K n0 ι M H σd σ ∧ Wp K E n0 ι M H (f n0 σd M) fun b ι' M' H' => Q b H'
def Tl (K : PySem.W.Frag) (E : EK) (f : SemL) : TA := fun σ H Q => ∃ n0 ι M σd, Bg K n0 ι M H σd σ ∧ Wp K E n0 ι M H (f n0 σd M) fun ds ι' M' H' => ∀ vs, VRs K ι' H' ds vs → Q vs H'
/-- a judgement under a stronger reading -/
theorem PE.to {X : Cx} {e : Expr} {t t' : TE} (h : PE X e t) (i : ∀ σ H Q, t' σ H Q → t σ H Q) : PE X e t' := ⟨fun pins s σ H Q I q => h.run pins s σ H Q I (i σ H Q q)⟩
theorem PT.to {X : Cx} {e : Expr} {t t' : L2.TT} (h : PT X e t) (i : ∀ σ H Q, t' σ H Q → t σ H Q) : PT X e t' := ⟨fun pins s σ H Q I q => h.run pins s σ H Q I (i σ H Q q)⟩
theorem PW.to {X : Cx} {e : Expr} {t t' : L2.TT} (h : PW X e t) (i : ∀ σ H Q, t' σ H Q → t σ H Q) : PW X e t' := ⟨fun w pins s σ H Q I q => h.run w pins s σ H Q I (i σ H Q q)⟩
theorem PA.to {X : Cx} {e : List Expr} {t t' : TA} (h : PA X e t) (i : ∀ σ H Q, t' σ H Q → t σ H Q) : PA X e t' := ⟨fun p pins s σ H Q I q => h.run p pins s σ H Q I (i σ H Q q)⟩
end
end DL

namespace DL
open PySem PySem.Spec PyProof.Rows L2

mutual
def frzD (look : Nat → Option D) : D → Option D
  | .tup ds => (frzDs look ds).map .tup
  | .fz ds => (frzDs look ds).map .fz
  | .ro ds => (frzDs look ds).map .ro
  | .ref m => look m
  | .non => some .non
  | .bl b => some (.bl b)
  | .int i => some (.int i)
  | .str cs => some (.str cs)
  | .ty n => some (.ty n)
def frzDs (look : Nat → Option D) : List D → Option (List D)
  | [] => some []
  | d :: ds => (frzD look d).bind fun e => (frzDs look ds).map (e :: ·)
end
def look (n : Nat) (M : Hep) : Nat → Nat → Option D
  | 0, m => if m < n then some (.ref m) else none
  | k + 1, m => if m < n then some (.ref m) else match M[m]? with
    | some (.lst ds) => (frzDs (look n M k) ds).map .fz
    | _ => none
/-- what is numbered from n on, as it stands, in the place of its numbers -/
def frz (n : Nat) (M : Hep) (d : D) : Option D := frzD (look n M 8) d

section
variable {K : PySem.W.Frag} {ι ι' : Io} {H H' : Hp} {M M' : Hep}
theorem SH.on (s : SH K ι M H) {a : Addr} (h : a ∈ ι) : ∃ u, H a = some u := by
  obtain ⟨n, hn, e⟩ := List.mem_iff_getElem.mp h
  have hm : n < M.length := by rw [← s.len]; exact hn
  have q := s.ob n M[n] a (by simp [hm]) (by rw [List.getElem?_eq_getElem hn, e])
  cases hM : M[n] with
  | lst ds =>
    rw [hM] at q
    obtain ⟨xs, h1, _⟩ := q
    exact ⟨_, h1⟩
  | dct ks vs =>
    rw [hM] at q
    obtain ⟨xs, h1, _⟩ := q
    exact ⟨_, h1⟩
theorem SH.new (s : SH K ι M H) {p : Addr} (h : H p = none) : p ∉ ι := fun z => by
  obtain ⟨u, e⟩ := s.on z
  rw [h] at e; cases e
theorem ext_new {p : Addr} {o : HO} (h : H p = none) : Ext ι H ι (upd H p o) :=
  ⟨⟨[], by simp, fun _ z => by simp at z⟩, fun a u e _ => by rw [upd_ne (ne_of_none e h)]; exact e, fun a e => by
    by_cases z : a = p
    · rw [z, upd_same] at e; cases e
    · rw [upd_ne z] at e; exact e⟩
theorem SH.keep (s : SH K ι M H) {p : Addr} {o : HO} (h : H p = none) : SH K ι M (upd H p o) :=
  ⟨s.nd, s.len, fun n ob a e1 e2 => by
    have q := s.ob n ob a e1 e2
    cases ob with
    | lst ds =>
      obtain ⟨xs, h1, h2⟩ := q
      exact ⟨xs, by rw [upd_ne (ne_of_none h1 h)]; exact h1, h2.ext (ext_new h)⟩
    | dct ks vs =>
      obtain ⟨xs, h1, h2, h3⟩ := q
      exact ⟨xs, by rw [upd_ne (ne_of_none h1 h)]; exact h1, h2.ext (ext_new h), h3.ext (ext_new h)⟩⟩
/-- a new tuple or list that nobody changes -/
theorem post_new {n0 : Nat} (s : SH K ι M H) {p : Addr} {o : HO} (h : H p = none) : Post K n0 ι M H ι M (upd H p o) := ⟨ext_new h, s.keep h, Keep.refl _ _⟩
theorem vr_tup (s : SH K ι M H) {p : Addr} {ds : List D} {xs : List V} (h : H p = none) (r : VRs K ι H ds xs) : VR K ι (upd H p (.tup xs)) (.tup ds) (.ref p) := by
  simp only [VR]
  exact ⟨p, xs, rfl, .inr ⟨.inl upd_same, s.new h⟩, r.ext (ext_new h)⟩
theorem vr_fz (s : SH K ι M H) {p : Addr} {ds : List D} {xs : List V} (h : H p = none) (r : VRs K ι H ds xs) : VR K ι (upd H p (.lst xs)) (.fz ds) (.ref p) := by
  simp only [VR]
  exact ⟨p, xs, rfl, ⟨upd_same, s.new h⟩, r.ext (ext_new h)⟩
/-- a new list of ours -/
theorem post_ref {n0 : Nat} (s : SH K ι M H) {p : Addr} {ds : List D} {xs : List V} (h : H p = none) (r : VRs K ι H ds xs) (hn : n0 ≤ M.length) :
    Post K n0 ι M H (ι ++ [p]) (M ++ [.lst ds]) (upd H p (.lst xs)) := by
  have e : Ext ι H (ι ++ [p]) (upd H p (.lst xs)) := ⟨⟨[p], rfl, fun a z => by simp at z; subst z; exact h⟩, (ext_new (ι := ι) h).frame, (ext_new (ι := ι) h).dom⟩
  refine ⟨e, ⟨?_, by simp [s.len], fun n ob a e1 e2 => ?_⟩, by simp, fun m hm b i ob hi e1 => ?_⟩
  · have := s.new h
    rw [List.nodup_append]
    exact ⟨s.nd, by simp, fun x hx y hy => by simp at hy; subst hy; intro z; subst z; exact this hx⟩
  · by_cases q : n < M.length
    · rw [List.getElem?_append_left q] at e1
      rw [List.getElem?_append_left (by rw [s.len]; exact q)] at e2
      have o := s.ob n ob a e1 e2
      cases ob with
      | lst ds' =>
        obtain ⟨xs', h1, h2⟩ := o
        exact ⟨xs', by rw [upd_ne (ne_of_none h1 h)]; exact h1, h2.ext e⟩
      | dct ks vs =>
        obtain ⟨xs', h1, h2, h3⟩ := o
        exact ⟨xs', by rw [upd_ne (ne_of_none h1 h)]; exact h1, h2.ext e, h3.ext e⟩
    · have hn : n = M.length := by
        have := (List.getElem?_eq_some_iff.mp e1).1
        simp at this; omega
      subst hn
      have ea : a = p := by
        rw [List.getElem?_append_right (by rw [s.len]; exact Nat.le_refl _), s.len] at e2
        simp at e2; exact e2.symm
      have eo : ob = .lst ds := by simp at e1; exact e1.symm
      subst ea eo
      exact ⟨xs, upd_same, r.ext e⟩
  · rw [List.getElem?_append_left (by omega)] at e1
    exact b i ob hi e1
/-- a new dict of ours -/
theorem post_refD {n0 : Nat} (s : SH K ι M H) {p : Addr} {ks vs : List D} {kvs : List (L2.Key × V)} (h : H p = none) (r : VRs K ι H ks (kvs.map fun p => kV p.1)) (r2 : VRs K ι H vs (kvs.map (·.2))) (hn : n0 ≤ M.length) :
    Post K n0 ι M H (ι ++ [p]) (M ++ [.dct ks vs]) (upd H p (.dK kvs)) := by
  have e : Ext ι H (ι ++ [p]) (upd H p (.dK kvs)) := ⟨⟨[p], rfl, fun a z => by simp at z; subst z; exact h⟩, (ext_new (ι := ι) h).frame, (ext_new (ι := ι) h).dom⟩
  refine ⟨e, ⟨?_, by simp [s.len], fun n ob a e1 e2 => ?_⟩, by simp, fun m hm b i ob hi e1 => ?_⟩
  · have := s.new h
    rw [List.nodup_append]
    exact ⟨s.nd, by simp, fun x hx y hy => by simp at hy; subst hy; intro z; subst z; exact this hx⟩
  · by_cases q : n < M.length
    · rw [List.getElem?_append_left q] at e1
      rw [List.getElem?_append_left (by rw [s.len]; exact q)] at e2
      have o := s.ob n ob a e1 e2
      cases ob with
      | lst ds' =>
        obtain ⟨xs', h1, h2⟩ := o
        exact ⟨xs', by rw [upd_ne (ne_of_none h1 h)]; exact h1, h2.ext e⟩
      | dct ks vs =>
        obtain ⟨xs', h1, h2, h3⟩ := o
        exact ⟨xs', by rw [upd_ne (ne_of_none h1 h)]; exact h1, h2.ext e, h3.ext e⟩
    · have hn : n = M.length := by
        have := (List.getElem?_eq_some_iff.mp e1).1
        simp at this; omega
      subst hn
      have ea : a = p := by
        rw [List.getElem?_append_right (by rw [s.len]; exact Nat.le_refl _), s.len] at e2
        simp at e2; exact e2.symm
      have eo : ob = .dct ks vs := by simp at e1; exact e1.symm
      subst ea eo
      exact ⟨kvs, upd_same, r.ext e, r2.ext e⟩
  · rw [List.getElem?_append_left (by omega)] at e1
    exact b i ob hi e1
theorem vr_ref (s : SH K ι M H) {p : Addr} : VR K (ι ++ [p]) H' (.ref M.length) (.ref p) := by
  simp only [VR]
  exact ⟨p, rfl, by rw [List.getElem?_append_right (by rw [s.len]; exact Nat.le_refl _), s.len]; simp⟩

/-! ### standing still -/
theorem TT.take {a : Addr} {xs : List V} (n : Nat) (h : TT K ι H a xs) : TT K (ι.take n) H a xs := by
  rcases h with h | ⟨h, k⟩
  · exact .inl h
  · exact .inr ⟨h, fun z => k (List.mem_of_mem_take z)⟩
theorem LL.take {a : Addr} {xs : List V} (n : Nat) (h : LL K ι H a xs) : LL K (ι.take n) H a xs := by
  rcases h with h | ⟨h, k⟩
  · exact .inl h
  · exact .inr ⟨h, fun z => k (List.mem_of_mem_take z)⟩
theorem LF.take {a : Addr} {xs : List V} (n : Nat) (h : LF ι H a xs) : LF (ι.take n) H a xs := ⟨h.1, fun z => h.2 (List.mem_of_mem_take z)⟩
mutual
theorem vr_frzD (n : Nat) {lk : Nat → Option D} (hl : ∀ (m : Nat) (a : Addr) (e : D), ι[m]? = some a → lk m = some e → VR K (ι.take n) H e (.ref a)) :
    ∀ (d d' : D) (v : V), frzD lk d = some d' → VR K ι H d v → VR K (ι.take n) H d' v
  | .non, d', v, e, h => by simp only [frzD, Option.some.injEq] at e; subst e; simpa only [VR] using h
  | .bl b, d', v, e, h => by simp only [frzD, Option.some.injEq] at e; subst e; simpa only [VR] using h
  | .int b, d', v, e, h => by simp only [frzD, Option.some.injEq] at e; subst e; simpa only [VR] using h
  | .str b, d', v, e, h => by simp only [frzD, Option.some.injEq] at e; subst e; simpa only [VR] using h
  | .ty b, d', v, e, h => by simp only [frzD, Option.some.injEq] at e; subst e; simpa only [VR] using h
  | .ref m, d', v, e, h => by
    simp only [frzD] at e
    simp only [VR] at h
    obtain ⟨a, rfl, q⟩ := h
    exact hl m a d' q e
  | .tup ds, d', v, e, h => by
    simp only [frzD, Option.map_eq_some_iff] at e
    obtain ⟨es, e1, rfl⟩ := e
    simp only [VR] at h ⊢
    obtain ⟨a, xs, r1, r2, r3⟩ := h
    exact ⟨a, xs, r1, r2.take n, vrs_frzD n hl ds es xs e1 r3⟩
  | .fz ds, d', v, e, h => by
    simp only [frzD, Option.map_eq_some_iff] at e
    obtain ⟨es, e1, rfl⟩ := e
    simp only [VR] at h ⊢
    obtain ⟨a, xs, r1, r2, r3⟩ := h
    exact ⟨a, xs, r1, r2.take n, vrs_frzD n hl ds es xs e1 r3⟩
  | .ro ds, d', v, e, h => by
    simp only [frzD, Option.map_eq_some_iff] at e
    obtain ⟨es, e1, rfl⟩ := e
    simp only [VR] at h ⊢
    obtain ⟨a, xs, r1, r2, r3⟩ := h
    exact ⟨a, xs, r1, r2.take n, vrs_frzD n hl ds es xs e1 r3⟩
theorem vrs_frzD (n : Nat) {lk : Nat → Option D} (hl : ∀ (m : Nat) (a : Addr) (e : D), ι[m]? = some a → lk m = some e → VR K (ι.take n) H e (.ref a)) :
    ∀ (ds ds' : List D) (xs : List V), frzDs lk ds = some ds' → VRs K ι H ds xs → VRs K (ι.take n) H ds' xs
  | [], ds', xs, e, h => by simp only [frzDs, Option.some.injEq] at e; subst e; simpa only [VRs] using h
  | d :: ds, ds', xs, e, h => by
    simp only [frzDs, Option.bind_eq_some_iff, Option.map_eq_some_iff] at e
    obtain ⟨d1, e1, ds1, e2, rfl⟩ := e
    simp only [VRs] at h ⊢
    obtain ⟨x, r, r1, r2, r3⟩ := h
    exact ⟨x, r, r1, vr_frzD n hl d d1 x e1 r2, vrs_frzD n hl ds ds1 r e2 r3⟩
end
theorem vr_look (s : SH K ι M H) (n : Nat) : ∀ (k m : Nat) (a : Addr) (e : D), ι[m]? = some a → look n M k m = some e → VR K (ι.take n) H e (.ref a)
  | 0, m, a, e, h, q => by
    unfold look at q
    by_cases z : m < n
    · rw [if_pos z] at q; cases q
      simp only [VR]
      exact ⟨a, rfl, by rw [List.getElem?_take_of_lt z]; exact h⟩
    · rw [if_neg z] at q; cases q
  | k + 1, m, a, e, h, q => by
    unfold look at q
    by_cases z : m < n
    · rw [if_pos z] at q; cases q
      simp only [VR]
      exact ⟨a, rfl, by rw [List.getElem?_take_of_lt z]; exact h⟩
    · rw [if_neg z] at q
      cases hM : M[m]? with
      | none => rw [hM] at q; cases q
      | some ob =>
        cases ob with
        | lst ds =>
          rw [hM] at q
          simp only [Option.map_eq_some_iff] at q
          obtain ⟨es, e1, rfl⟩ := q
          obtain ⟨xs, h1, h2⟩ := s.ob m _ a hM h
          simp only [VR]
          refine ⟨a, xs, rfl, ⟨h1, fun hz => ?_⟩, vrs_frzD n (vr_look s n k) ds es xs e1 h2⟩
          obtain ⟨j, hj, ej⟩ := List.mem_iff_getElem.mp hz
          have hjn : j < n := by simp at hj; omega
          have hjl : j < ι.length := by simp at hj; omega
          have e2 : ι[j]? = some a := by
            rw [List.getElem?_eq_getElem hjl]
            rw [List.getElem_take] at ej
            rw [ej]
          have : j = m := (List.getElem?_inj hjl s.nd).mp (e2.trans h.symm)
          omega
        | dct ks vs => rw [hM] at q; cases q
theorem vr_frz (s : SH K ι M H) (n : Nat) {d d' : D} {v : V} (e : frz n M d = some d') (h : VR K ι H d v) : VR K (ι.take n) H d' v := vr_frzD n (vr_look s n 8) d d' v e h
/-- a value as plain data: what stands at its numbers -/
theorem vr_read (s : SH K ι M H) {d d' : D} {v : V} (e : frz 0 M d = some d') (h : VR K ι H d v) : VR K [] H d' v := by simpa using vr_frz s 0 e h
end
end DL

namespace DL
open PySem PySem.Spec PyProof.Rows L2

def Res.of {α : Type} (o : Option α) (M : Hep) : Res α := match o with
  | some a => .ok a M
  | none => .stuck
@[simp] theorem Res.of_some {α : Type} (a : α) (M : Hep) : Res.of (some a) M = .ok a M := rfl
@[simp] theorem Res.of_none {α : Type} (M : Hep) : Res.of (none : Option α) M = .stuck := rfl

def eVar (i : Nat) : SemE := fun _ σ M => match σ[i]? with
  | some (some d) => .ok d M
  | _ => .stuck
def eC (d : D) : SemE := fun _ _ M => .ok d M
abbrev Op2 := D → D → Hep → Res D
abbrev Op1 := D → Hep → Res D
abbrev OpL := List D → Hep → Res D
def eBin (op : Op2) (a b : SemE) : SemE := fun n σ M => (a n σ M).bind fun x M1 => (b n σ M1).bind fun y M2 => op x y M2
def eUn (op : Op1) (a : SemE) : SemE := fun n σ M => (a n σ M).bind fun x M1 => op x M1
def lNil : SemL := fun _ _ M => .ok [] M
def lCons (a : SemE) (r : SemL) : SemL := fun n σ M => (a n σ M).bind fun x M1 => (r n σ M1).bind fun xs M2 => .ok (x :: xs) M2
def eApp (op : OpL) (r : SemL) : SemE := fun n σ M => (r n σ M).bind fun xs M1 => op xs M1
def mkTup : OpL := fun ds M => if ds.length ≤ sizeLine then .ok (.tup ds) M else .stuck
/-- a new list: one that may change (m) or none -/
def mkLst (m : Bool) : OpL := fun ds M => if ds.length ≤ sizeLine then (if m then .ok (.ref M.length) (M ++ [.lst ds]) else .ok (.fz ds) M) else .stuck

section
variable {K : PySem.W.Frag} {E : EK} {ι ι' : Io} {H H' : Hp} {M M' : Hep} {n0 : Nat}
/-- the facts at a step: what stands and what is low -/
structure At (K : PySem.W.Frag) (n0 : Nat) (ι : Io) (M : Hep) (H : Hp) : Prop where
  le : n0 ≤ M.length
  bel : Bel n0 M
  sh : SH K ι M H
theorem Bg.at {σd : Sl} {σ : St} (b : Bg K n0 ι M H σd σ) : At K n0 ι M H := ⟨b.le, b.bel, b.sh⟩
theorem At.to (b : At K n0 ι M H) (p : Post K n0 ι M H ι' M' H') : At K n0 ι' M' H' := ⟨Nat.le_trans b.le p.keep.sz, p.keep.bel n0 (Nat.le_refl _) b.bel, p.sh⟩
/-- an operation by data keeps a rule's reading -/
def Op2S (K : PySem.W.Frag) (E : EK) (r : R2) (op : Op2) : Prop := ∀ (n0 : Nat) (ι : Io) (M : Hep) (H : Hp) (x y : D) (v u : V) (Q : VK), At K n0 ι M H → VR K ι H x v → VR K ι H y u →
  Wp K E n0 ι M H (op x y M) (fun d ι' M' H' => ∀ z, VR K ι' H' d z → Q z H') → r v u H Q
def Op1S (K : PySem.W.Frag) (E : EK) (r : V → Hp → VK → Prop) (op : Op1) : Prop := ∀ (n0 : Nat) (ι : Io) (M : Hep) (H : Hp) (x : D) (v : V) (Q : VK), At K n0 ι M H → VR K ι H x v →
  Wp K E n0 ι M H (op x M) (fun d ι' M' H' => ∀ z, VR K ι' H' d z → Q z H') → r v H Q
def OpLS (K : PySem.W.Frag) (E : EK) (r : List V → Hp → VK → Prop) (op : OpL) : Prop := ∀ (n0 : Nat) (ι : Io) (M : Hep) (H : Hp) (xs : List D) (vs : List V) (Q : VK), At K n0 ι M H → VRs K ι H xs vs →
  Wp K E n0 ι M H (op xs M) (fun d ι' M' H' => ∀ z, VR K ι' H' d z → Q z H') → r vs H Q
theorem Op2S.or {r r' : R2} {op : Op2} (h : ∀ n0 ι M H x y v u Q, At K n0 ι M H → VR K ι H x v → VR K ι H y u → Wp K E n0 ι M H (op x y M) (fun d ι' M' H' => ∀ z, VR K ι' H' d z → Q z H') → r v u H Q ∨ r' v u H Q) : Op2S K E (fun v u H Q => r v u H Q ∨ r' v u H Q) op :=
  fun n0 ι M H x y v u Q a b c d => h n0 ι M H x y v u Q a b c d
theorem opR_or {X : Cx} {f : Value → Value → Sem Value} {r r' : R2} (h : OpR X f r) (h' : OpR X f r') : OpR X f (fun v u H Q => r v u H Q ∨ r' v u H Q) := fun pins s σ H x y v u Q I a b c => by
  rcases c with c | c
  · exact h pins s σ H x y v u Q I a b c
  · exact h' pins s σ H x y v u Q I a b c
theorem callR_or {X : Cx} {f : Value} {r r' : List V → Hp → VK → Prop} (h : CallR X f r) (h' : CallR X f r') : CallR X f (fun v H Q => r v H Q ∨ r' v H Q) := fun pins s σ H xs us Q I a c => by
  rcases c with c | c
  · exact h pins s σ H xs us Q I a c
  · exact h' pins s σ H xs us Q I a c

/-- an answer without a change -/
theorem wp_here {r : Res D} {Q : VK} {d : D} (hs : SH K ι M H) (h : Wp K E n0 ι M H r (fun d ι' M' H' => ∀ z, VR K ι' H' d z → Q z H')) (e : r = .ok d M) {v : V} (hv : VR K ι H d v) : Q v H := by
  subst e
  exact h ι H (Post.refl hs) v hv

theorem T_var {X : Cx} {i : Nat} {e : Expr} (h : PE X e (tVar i)) : PE X e (T K E (eVar i)) := PE.to h fun σ H Q ⟨n0, ι, M, σd, b, q⟩ => by
  unfold eVar at q
  split at q
  · rename_i d e1
    obtain ⟨v, e2, r⟩ := b.er.2 i d e1
    exact ⟨v, e2, q ι H (Post.refl b.sh) v r⟩
  · exact q.elim
theorem T_C {X : Cx} {e : Expr} {v : V} {d : D} (h : PE X e (tC v)) (hd : ∀ ι H, VR K ι H d v) : PE X e (T K E (eC d)) := PE.to h fun σ H Q ⟨n0, ι, M, σd, b, q⟩ => q ι H (Post.refl b.sh) v (hd ι H)
theorem T_bin {X : Cx} {a b : Expr} {op : Operator} {pos : Pos} {fa fb : SemE} {r : R2} {o : Op2} (ho : OpR X (binaryOp op) r) (hs : Op2S K E r o) (ha : PE X a (T K E fa)) (hb : PE X b (T K E fb)) : PE X (.BinOp a op b pos) (T K E (eBin o fa fb)) :=
  PE.to (pe_op ho ha hb) fun σ H Q ⟨n0, ι, M, σd, b, q⟩ => by
    refine ⟨n0, ι, M, σd, b, (Wp.bind q).mono fun x ι1 M1 H1 p1 q1 v hv => ?_⟩
    refine ⟨n0, ι1, M1, σd, b.to p1, (Wp.bind q1).mono fun y ι2 M2 H2 p2 q2 u hu => ?_⟩
    exact hs n0 ι2 M2 H2 x y v u Q (b.at.to (p1.trans p2)) (hv.ext p2.ext) hu q2
theorem T_cmp {X : Cx} {a b : Expr} {op : CmpOp} {pos : Pos} {fa fb : SemE} {r : R2} {o : Op2} (ho : OpR X (compareOp op) r) (hs : Op2S K E r o) (ha : PE X a (T K E fa)) (hb : PE X b (T K E fb)) (hm : behindInMarks op b = false) : PE X (.Compare a [op] [b] pos) (T K E (eBin o fa fb)) :=
  PE.to (pe_cmpR ho ha hb hm) fun σ H Q ⟨n0, ι, M, σd, b, q⟩ => by
    refine ⟨n0, ι, M, σd, b, (Wp.bind q).mono fun x ι1 M1 H1 p1 q1 v hv => ?_⟩
    refine ⟨n0, ι1, M1, σd, b.to p1, (Wp.bind q1).mono fun y ι2 M2 H2 p2 q2 u hu => ?_⟩
    exact hs n0 ι2 M2 H2 x y v u Q (b.at.to (p1.trans p2)) (hv.ext p2.ext) hu q2
theorem T_un {X : Cx} {a : Expr} {op : UnaryOp} {pos : Pos} {fa : SemE} {r : V → Hp → VK → Prop} {o : Op1} (ho : UnR X (unaryOp op) r) (hs : Op1S K E r o) (ha : PE X a (T K E fa)) : PE X (.UnaryOp op a pos) (T K E (eUn o fa)) :=
  PE.to (pe_un ho ha) fun σ H Q ⟨n0, ι, M, σd, b, q⟩ => by
    refine ⟨n0, ι, M, σd, b, (Wp.bind q).mono fun x ι1 M1 H1 p1 q1 v hv => ?_⟩
    exact hs n0 ι1 M1 H1 x v Q (b.at.to p1) hv q1
theorem T_ix {X : Cx} {a b : Expr} {pos : Pos} {fa fb : SemE} {r : R2} {o : Op2} (ho : IxR X r) (hs : Op2S K E r o) (ha : PE X a (T K E fa)) (hb : PE X b (T K E fb)) (hp : PlainIx b) : PE X (.Subscript a b pos) (T K E (eBin o fa fb)) :=
  PE.to (pe_ix ho ha hb hp) fun σ H Q ⟨n0, ι, M, σd, b, q⟩ => by
    refine ⟨n0, ι, M, σd, b, (Wp.bind q).mono fun x ι1 M1 H1 p1 q1 v hv => ?_⟩
    refine ⟨n0, ι1, M1, σd, b.to p1, (Wp.bind q1).mono fun y ι2 M2 H2 p2 q2 u hu => ?_⟩
    exact hs n0 ι2 M2 H2 x y v u Q (b.at.to (p1.trans p2)) (hv.ext p2.ext) hu q2
theorem T_nil {X : Cx} : PA X [] (Tl K E lNil) := PA.to pa_nil fun σ H Q ⟨n0, ι, M, σd, b, q⟩ => q ι H (Post.refl b.sh) [] (by simp only [VRs])
theorem T_cons {X : Cx} {e : Expr} {es : List Expr} {fa : SemE} {fr : SemL} (ha : PE X e (T K E fa)) (hr : PA X es (Tl K E fr)) (hs : starEach (e :: es) X.env = (false, eval e X.env) :: starEach es X.env) : PA X (e :: es) (Tl K E (lCons fa fr)) :=
  PA.to (pa_cons ha hr hs) fun σ H Q ⟨n0, ι, M, σd, b, q⟩ => by
    refine ⟨n0, ι, M, σd, b, (Wp.bind q).mono fun x ι1 M1 H1 p1 q1 v hv => ?_⟩
    refine ⟨n0, ι1, M1, σd, b.to p1, (Wp.bind q1).mono fun ys ι2 M2 H2 p2 q2 us hu => ?_⟩
    refine q2 ι2 H2 (Post.refl p2.sh) (v :: us) ?_
    simp only [VRs]
    exact ⟨v, us, rfl, hv.ext p2.ext, hu⟩
theorem vrs_len : ∀ {ds : List D} {xs : List V}, VRs K ι H ds xs → ds.length = xs.length
  | [], xs, h => by simp only [VRs] at h; subst h; rfl
  | d :: ds, xs, h => by
    simp only [VRs] at h
    obtain ⟨x, r, rfl, _, h3⟩ := h
    simp [vrs_len h3]
theorem T_tup {X : Cx} {es : List Expr} {k : Nat} {pos : Pos} {f : SemL} (h : PA X es (Tl K E f)) : PE X (.Tuple es k pos) (T K E (eApp mkTup f)) :=
  PE.to (pe_tup h) fun σ H Q ⟨n0, ι, M, σd, b, q⟩ => by
    refine ⟨n0, ι, M, σd, b, (Wp.bind q).mono fun xs ι1 M1 H1 p1 q1 vs hv => ?_⟩
    unfold mkTup at q1
    split at q1
    · rename_i hl
      exact ⟨by rw [← vrs_len hv]; exact hl, fun p hp => q1 _ _ (post_new p1.sh hp) _ (vr_tup p1.sh hp hv)⟩
    · exact q1.elim
/-- a list, by what is made of it -/
theorem lst_made {m : Bool} {ds : List D} {xs : List V} {Q : VK} (a : At K n0 ι M H) (hv : VRs K ι H ds xs) (q : Wp K E n0 ι M H (mkLst m ds M) (fun d ι' M' H' => ∀ z, VR K ι' H' d z → Q z H')) : xs.length ≤ sizeLine ∧ ∀ p, H p = none → Q (.ref p) (upd H p (.lst xs)) := by
  unfold mkLst at q
  split at q
  · rename_i hl
    refine ⟨by rw [← vrs_len hv]; exact hl, fun p hp => ?_⟩
    cases m with
    | true =>
      rw [if_pos rfl] at q
      exact q _ _ (post_ref a.sh hp hv a.le) _ (vr_ref a.sh)
    | false =>
      rw [if_neg Bool.false_ne_true] at q
      exact q _ _ (post_new a.sh hp) _ (vr_fz a.sh hp hv)
  · exact q.elim
theorem T_lst {X : Cx} {es : List Expr} {pos : Pos} {f : SemL} (m : Bool) (h : PA X es (Tl K E f)) : PE X (.List es pos) (T K E (eApp (mkLst m) f)) :=
  PE.to (pe_lst h) fun σ H Q ⟨n0, ι, M, σd, b, q⟩ => by
    refine ⟨n0, ι, M, σd, b, (Wp.bind q).mono fun xs ι1 M1 H1 p1 q1 vs hv => ?_⟩
    exact lst_made (b.at.to p1) hv q1
/-- a built-in by its rule over values -/
theorem T_app {X : Cx} {e : Expr} {f : SemL} {r : List V → Hp → VK → Prop} {o : OpL} (he : PE X e (tCB r (Tl K E f))) (hs : OpLS K E r o) : PE X e (T K E (eApp o f)) :=
  PE.to he fun σ H Q ⟨n0, ι, M, σd, b, q⟩ => by
    refine ⟨n0, ι, M, σd, b, (Wp.bind q).mono fun xs ι1 M1 H1 p1 q1 vs hv => ?_⟩
    exact hs n0 ι1 M1 H1 xs vs Q (b.at.to p1) hv q1
/-- and, or, not of truths; a choice -/
def eAnd (a b : SemE) : SemE := fun n σ M => (a n σ M).bind fun x M1 => match x with
  | .bl true => b n σ M1
  | .bl false => .ok (.bl false) M1
  | _ => .stuck
def eOr (a b : SemE) : SemE := fun n σ M => (a n σ M).bind fun x M1 => match x with
  | .bl true => .ok (.bl true) M1
  | .bl false => b n σ M1
  | _ => .stuck
def eNot (a : SemE) : SemE := fun n σ M => (a n σ M).bind fun x M1 => match x with
  | .bl c => .ok (.bl (!c)) M1
  | _ => .stuck
theorem T_one {X : Cx} {op : PySem.BoolOp} {a : Expr} {pos : Pos} {t : TE} (h : PE X a t) : PE X (.BoolOp op [a] pos) t := pe_one h
theorem T_and {X : Cx} {a b : Expr} {rest : List Expr} {pos : Pos} {fa fb : SemE} (ha : PE X a (T K E fa)) (hb : PE X (.BoolOp .And (b :: rest) pos) (T K E fb)) : PE X (.BoolOp .And (a :: b :: rest) pos) (T K E (eAnd fa fb)) :=
  PE.to (pe_and ha hb) fun σ H Q ⟨n0, ι, M, σd, b, q⟩ => by
    refine ⟨n0, ι, M, σd, b, (Wp.bind q).mono fun x ι1 M1 H1 p1 q1 v hv => ?_⟩
    cases x with
    | bl c =>
      simp only [VR] at hv; subst hv
      refine ⟨c, rfl, ?_⟩
      cases c with
      | true => exact iteT ⟨n0, ι1, M1, σd, b.to p1, q1⟩
      | false => exact iteF (q1 ι1 H1 (Post.refl p1.sh) _ (by simp only [VR]))
    | _ => exact q1.elim
theorem T_or {X : Cx} {a b : Expr} {rest : List Expr} {pos : Pos} {fa fb : SemE} (ha : PE X a (T K E fa)) (hb : PE X (.BoolOp .Or (b :: rest) pos) (T K E fb)) : PE X (.BoolOp .Or (a :: b :: rest) pos) (T K E (eOr fa fb)) :=
  PE.to (pe_or ha hb) fun σ H Q ⟨n0, ι, M, σd, b, q⟩ => by
    refine ⟨n0, ι, M, σd, b, (Wp.bind q).mono fun x ι1 M1 H1 p1 q1 v hv => ?_⟩
    cases x with
    | bl c =>
      simp only [VR] at hv; subst hv
      refine ⟨c, rfl, ?_⟩
      cases c with
      | true => exact iteT (q1 ι1 H1 (Post.refl p1.sh) _ (by simp only [VR]))
      | false => exact iteF ⟨n0, ι1, M1, σd, b.to p1, q1⟩
    | _ => exact q1.elim
theorem T_not {X : Cx} {a : Expr} {pos : Pos} {fa : SemE} (ha : PE X a (T K E fa)) : PE X (.UnaryOp .Not a pos) (T K E (eNot fa)) :=
  PE.to (pe_not ha) fun σ H Q ⟨n0, ι, M, σd, b, q⟩ => by
    refine ⟨n0, ι, M, σd, b, (Wp.bind q).mono fun x ι1 M1 H1 p1 q1 v hv => ?_⟩
    cases x with
    | bl c =>
      simp only [VR] at hv; subst hv
      exact ⟨c, rfl, q1 ι1 H1 (Post.refl p1.sh) _ (by simp only [VR])⟩
    | _ => exact q1.elim
def eIf (c : SemT) (a b : SemE) : SemE := fun n σ M => (c n σ M).bind fun x M1 => if x then a n σ M1 else b n σ M1
theorem T_ifExp {X : Cx} {c a b : Expr} {pos : Pos} {fc : SemT} {fa fb : SemE} (hc : PT X c (Tt K E fc)) (ha : PE X a (T K E fa)) (hb : PE X b (T K E fb)) : PE X (.IfExp c a b pos) (T K E (eIf fc fa fb)) :=
  PE.to (pe_ifExp hc ha hb) fun σ H Q ⟨n0, ι, M, σd, b, q⟩ => by
    refine ⟨n0, ι, M, σd, b, (Wp.bind q).mono fun x ι1 M1 H1 p1 q1 => ?_⟩
    cases x with
    | true => exact iteT ⟨n0, ι1, M1, σd, b.to p1, by simpa using q1⟩
    | false => exact iteF ⟨n0, ι1, M1, σd, b.to p1, by simpa using q1⟩
/-! tests -/
def tOf (a : SemE) : SemT := fun n σ M => (a n σ M).bind fun x M1 => match x with
  | .bl c => .ok c M1
  | _ => .stuck
theorem Tt_val {X : Cx} {e : Expr} {f : SemE} (h : PT X e (tTest (T K E f))) : PT X e (Tt K E (tOf f)) :=
  PT.to h fun σ H Q ⟨n0, ι, M, σd, b, q⟩ => by
    refine ⟨n0, ι, M, σd, b, (Wp.bind q).mono fun x ι1 M1 H1 p1 q1 v hv => ?_⟩
    cases x with
    | bl c =>
      simp only [VR] at hv; subst hv
      exact ⟨c, rfl, q1 ι1 H1 (Post.refl p1.sh)⟩
    | _ => exact q1.elim
def tAnd (a b : SemT) : SemT := fun n σ M => (a n σ M).bind fun x M1 => if x then b n σ M1 else .ok false M1
def tOr (a b : SemT) : SemT := fun n σ M => (a n σ M).bind fun x M1 => if x then .ok true M1 else b n σ M1
def tNot (a : SemT) : SemT := fun n σ M => (a n σ M).bind fun x M1 => .ok (!x) M1
theorem Tt_and1 {X : Cx} {a : Expr} {pos : Pos} {fa : SemT} (ha : PT X a (Tt K E fa)) : PW X (.BoolOp .And [a] pos) (Tt K E fa) := pw_and1 ha
theorem Tt_or1 {X : Cx} {a : Expr} {pos : Pos} {fa : SemT} (ha : PT X a (Tt K E fa)) : PW X (.BoolOp .Or [a] pos) (Tt K E fa) := pw_or1 ha
theorem Tt_and {X : Cx} {a b : Expr} {rest : List Expr} {pos : Pos} {fa fb : SemT} (ha : PT X a (Tt K E fa)) (hb : PW X (.BoolOp .And (b :: rest) pos) (Tt K E fb)) : PW X (.BoolOp .And (a :: b :: rest) pos) (Tt K E (tAnd fa fb)) :=
  PW.to (pw_and ha hb) fun σ H Q ⟨n0, ι, M, σd, b, q⟩ => by
    refine ⟨n0, ι, M, σd, b, (Wp.bind q).mono fun x ι1 M1 H1 p1 q1 => ?_⟩
    cases x with
    | true => exact iteT ⟨n0, ι1, M1, σd, b.to p1, by simpa using q1⟩
    | false => exact iteF ((by simpa using q1 : Wp K E n0 ι1 M1 H1 (Res.ok false M1) _) ι1 H1 (Post.refl p1.sh))
theorem Tt_or {X : Cx} {a b : Expr} {rest : List Expr} {pos : Pos} {fa fb : SemT} (ha : PT X a (Tt K E fa)) (hb : PW X (.BoolOp .Or (b :: rest) pos) (Tt K E fb)) : PW X (.BoolOp .Or (a :: b :: rest) pos) (Tt K E (tOr fa fb)) :=
  PW.to (pw_or ha hb) fun σ H Q ⟨n0, ι, M, σd, b, q⟩ => by
    refine ⟨n0, ι, M, σd, b, (Wp.bind q).mono fun x ι1 M1 H1 p1 q1 => ?_⟩
    cases x with
    | false => exact iteF ⟨n0, ι1, M1, σd, b.to p1, by simpa using q1⟩
    | true => exact iteT ((by simpa using q1 : Wp K E n0 ι1 M1 H1 (Res.ok true M1) _) ι1 H1 (Post.refl p1.sh))
theorem Tt_not {X : Cx} {a : Expr} {pos : Pos} {fa : SemT} (ha : PT X a (Tt K E fa)) : PT X (.UnaryOp .Not a pos) (Tt K E (tNot fa)) :=
  PT.to (pt_not ha) fun σ H Q ⟨n0, ι, M, σd, b, q⟩ => ⟨n0, ι, M, σd, b, (Wp.bind q).mono fun x ι1 M1 H1 p1 q1 => q1 ι1 H1 (Post.refl p1.sh)⟩
end
end DL

namespace DL
open PySem PySem.Spec PyProof.Rows L2

inductive Fl where
  | nx | bk | ct | rt (d : D)
  deriving Inhabited
abbrev SemS := Nat → Sl → Hep → Res (Fl × Sl)
abbrev SemG := Nat → D → Sl → Hep → Res Sl
abbrev SemGs := Nat → List D → Sl → Hep → Res Sl
section
variable {K : PySem.W.Frag} {E : EK} {ι ι' : Io} {H H' : Hp} {M M' : Hep} {n0 : Nat}
def Fin (K : PySem.W.Frag) (Dn : Ends) : Fl × Sl → Io → Hep → Hp → Prop := fun p ι' M' H' => match p.1 with
  | .nx => ∀ σ', ER K ι' H' p.2 σ' → Dn.nx σ' H'
  | .bk => ∀ σ', ER K ι' H' p.2 σ' → Dn.bk σ' H'
  | .ct => ∀ σ', ER K ι' H' p.2 σ' → Dn.ct σ' H'
  | .rt d => ∀ v, VR K ι' H' d v → Dn.rt v H'
def Ts (K : PySem.W.Frag) (E : EK) (f : SemS) : TS := fun Dn σ H => ∃ n0 ι M σd, Bg K n0 ι M H σd σ ∧ Wp K E n0 ι M H (f n0 σd M) (Fin K Dn)
def Tg (K : PySem.W.Frag) (E : EK) (g : SemG) : TG := fun v σ H Q => ∃ n0 ι M σd d, Bg K n0 ι M H σd σ ∧ VR K ι H d v ∧ Wp K E n0 ι M H (g n0 d σd M) fun σd' ι' M' H' => ∀ σ', ER K ι' H' σd' σ' → Q σ' H'
def Tgs (K : PySem.W.Frag) (E : EK) (g : SemGs) : TGs := fun vs σ H Q => ∃ n0 ι M σd ds, Bg K n0 ι M H σd σ ∧ VRs K ι H ds vs ∧ Wp K E n0 ι M H (g n0 ds σd M) fun σd' ι' M' H' => ∀ σ', ER K ι' H' σd' σ' → Q σ' H'
theorem PS.to {X : Cx} {e : Stmt} {t t' : TS} (h : PS X e t) (i : ∀ Dn σ H, t' Dn σ H → t Dn σ H) : PS X e t' := ⟨fun pins s σ H Q I q => h.run pins s σ H Q I (i Q σ H q)⟩
theorem PSs.to {X : Cx} {e : List Stmt} {t t' : TS} (h : PSs X e t) (i : ∀ Dn σ H, t' Dn σ H → t Dn σ H) : PSs X e t' := ⟨fun pins s σ H Q I q => h.run pins s σ H Q I (i Q σ H q)⟩
theorem PG.to {X : Cx} {e : Expr} {t t' : TG} (h : PG X e t) (i : ∀ v σ H Q, t' v σ H Q → t v σ H Q) : PG X e t' := ⟨fun pins s σ H v u Q I r q => h.run pins s σ H v u Q I r (i v σ H Q q)⟩
theorem PGs.to {X : Cx} {e : List Expr} {t t' : TGs} (h : PGs X e t) (i : ∀ v σ H Q, t' v σ H Q → t v σ H Q) : PGs X e t' := ⟨fun pins s σ H v u Q I r q => h.run pins s σ H v u Q I r (i v σ H Q q)⟩

/-! blocks -/
def sNil : SemS := fun _ σ M => .ok (.nx, σ) M
def sSeq (a b : SemS) : SemS := fun n σ M => (a n σ M).bind fun p M1 => match p.1 with
  | .nx => b n p.2 M1
  | _ => .ok p M1
theorem S_nil {X : Cx} : PSs X [] (Ts K E sNil) := PSs.to pss_nil fun Dn σ H ⟨n0, ι, M, σd, b, q⟩ => q ι H (Post.refl b.sh) σ b.er
theorem Fin.seq {Dn : Ends} {u : TS} {p : Fl × Sl} (h : p.1 ≠ .nx) (q : Fin K Dn p ι' M' H') : Fin K { Dn with nx := u Dn } p ι' M' H' := by
  obtain ⟨f, σ⟩ := p
  cases f with
  | nx => exact absurd rfl h
  | _ => exact q
theorem Bg.er' {σd σd' : Sl} {σ σ' : St} (b : Bg K n0 ι M H σd σ) (p : Post K n0 ι M H ι' M' H') (e : ER K ι' H' σd' σ') : Bg K n0 ι' M' H' σd' σ' :=
  ⟨Nat.le_trans b.le p.keep.sz, p.keep.bel n0 (Nat.le_refl _) b.bel, p.sh, e⟩
theorem S_cons {X : Cx} {st : Stmt} {rest : List Stmt} {f g : SemS} (h1 : PS X st (Ts K E f)) (h2 : PSs X rest (Ts K E g)) : PSs X (st :: rest) (Ts K E (sSeq f g)) :=
  PSs.to (pss_cons h1 h2) fun Dn σ H ⟨n0, ι, M, σd, b, q⟩ => by
    refine ⟨n0, ι, M, σd, b, (Wp.bind q).mono fun p ι1 M1 H1 p1 q1 => ?_⟩
    obtain ⟨fl, σ1⟩ := p
    cases fl with
    | nx => exact fun σ' er => ⟨n0, ι1, M1, σ1, b.er' p1 er, q1⟩
    | bk => exact q1 ι1 H1 (Post.refl p1.sh)
    | ct => exact q1 ι1 H1 (Post.refl p1.sh)
    | rt d => exact q1 ι1 H1 (Post.refl p1.sh)
theorem S_one {X : Cx} {st : Stmt} {f : SemS} (h1 : PS X st (Ts K E f)) : PSs X [st] (Ts K E f) := pss_one h1
def sDrop (a : SemE) : SemS := fun n σ M => (a n σ M).bind fun _ M1 => .ok (.nx, σ) M1
theorem S_expr {X : Cx} {e : Expr} {pos : Pos} {f : SemE} (he : PE X e (T K E f)) (hs : swapsWith e none pos.line X.env = pure false) : PS X (.Expr e pos) (Ts K E (sDrop f)) :=
  PS.to (ps_expr he hs) fun Dn σ H ⟨n0, ι, M, σd, b, q⟩ => ⟨n0, ι, M, σd, b, (Wp.bind q).mono fun d ι1 M1 H1 p1 q1 v _ => q1 ι1 H1 (Post.refl p1.sh) σ (b.er.ext p1.ext)⟩
def sRet (a : SemE) : SemS := fun n σ M => (a n σ M).bind fun d M1 => .ok (.rt d, σ) M1
theorem S_ret {X : Cx} {e : Expr} {pos : Pos} {f : SemE} (he : PE X e (T K E f)) : PS X (.Return (some e) pos) (Ts K E (sRet f)) :=
  PS.to (ps_ret he) fun Dn σ H ⟨n0, ι, M, σd, b, q⟩ => ⟨n0, ι, M, σd, b, (Wp.bind q).mono fun d ι1 M1 H1 p1 q1 v hv => q1 ι1 H1 (Post.refl p1.sh) v hv⟩
def sRetN : SemS := fun _ σ M => .ok (.rt .non, σ) M
theorem S_retN {X : Cx} {pos : Pos} : PS X (.Return none pos) (Ts K E sRetN) :=
  PS.to ps_retN fun Dn σ H ⟨n0, ι, M, σd, b, q⟩ => q ι H (Post.refl b.sh) .non (by simp only [VR])
def sPass : SemS := fun _ σ M => .ok (.nx, σ) M
def sBreak : SemS := fun _ σ M => .ok (.bk, σ) M
def sCont : SemS := fun _ σ M => .ok (.ct, σ) M
theorem S_pass {X : Cx} {pos : Pos} : PS X (.Pass pos) (Ts K E sPass) := PS.to ps_pass fun Dn σ H ⟨n0, ι, M, σd, b, q⟩ => q ι H (Post.refl b.sh) σ b.er
theorem S_break {X : Cx} {pos : Pos} : PS X (.Break pos) (Ts K E sBreak) := PS.to ps_break fun Dn σ H ⟨n0, ι, M, σd, b, q⟩ => q ι H (Post.refl b.sh) σ b.er
theorem S_cont {X : Cx} {pos : Pos} : PS X (.Continue pos) (Ts K E sCont) := PS.to ps_continue fun Dn σ H ⟨n0, ι, M, σd, b, q⟩ => q ι H (Post.refl b.sh) σ b.er
def sIf (c : SemT) (a b : SemS) : SemS := fun n σ M => (c n σ M).bind fun x M1 => if x then a n σ M1 else b n σ M1
theorem S_if {X : Cx} {c : Expr} {a b : List Stmt} {pos : Pos} {fc : SemT} {fa fb : SemS} (hc : PT X c (Tt K E fc)) (ha : PSs X a (Ts K E fa)) (hb : PSs X b (Ts K E fb)) : PS X (.If c a b pos) (Ts K E (sIf fc fa fb)) :=
  PS.to (ps_if hc ha hb) fun Dn σ H ⟨n0, ι, M, σd, b, q⟩ => by
    refine ⟨n0, ι, M, σd, b, (Wp.bind q).mono fun x ι1 M1 H1 p1 q1 => ?_⟩
    cases x with
    | true => exact iteT ⟨n0, ι1, M1, σd, b.to p1, by simpa using q1⟩
    | false => exact iteF ⟨n0, ι1, M1, σd, b.to p1, by simpa using q1⟩

/-! targets -/
def gVar (i : Nat) : SemG := fun _ d σ M => if i < σ.length then .ok (σ.set i (some d)) M else .stuck
theorem ER.set {σd : Sl} {σ : St} (e : ER K ι H σd σ) {d : D} {v : V} (h : VR K ι H d v) (i : Nat) : ER K ι H (σd.set i (some d)) (σ.set i (some v)) := by
  refine ⟨by simp [e.1], fun j dj hj => ?_⟩
  by_cases z : j = i
  · subst z
    have hl : j < σd.length := by
      have := (List.getElem?_eq_some_iff.mp hj).1
      simpa using this
    rw [List.getElem?_set_self hl] at hj
    cases hj
    exact ⟨v, by rw [List.getElem?_set_self (by rw [← e.1]; exact hl)], h⟩
  · rw [List.getElem?_set_ne (Ne.symm z)] at hj
    obtain ⟨u, h1, h2⟩ := e.2 j dj hj
    exact ⟨u, by rw [List.getElem?_set_ne (Ne.symm z)]; exact h1, h2⟩
theorem G_var {X : Cx} {e : Expr} {i : Nat} (h : PG X e (gName i)) : PG X e (Tg K E (gVar i)) := PG.to h fun v σ H Q ⟨n0, ι, M, σd, d, b, hv, q⟩ => by
  unfold gVar at q
  split at q
  · exact q ι H (Post.refl b.sh) _ (b.er.set hv i)
  · exact q.elim
def gNil : SemGs := fun _ ds σ M => match ds with
  | [] => .ok σ M
  | _ => .stuck
def gCons (g : SemG) (r : SemGs) : SemGs := fun n ds σ M => match ds with
  | d :: ds => (g n d σ M).bind fun σ1 M1 => r n ds σ1 M1
  | [] => .stuck
theorem G_nil {X : Cx} : PGs X [] (Tgs K E gNil) := PGs.to pgs_nil fun vs σ H Q ⟨n0, ι, M, σd, ds, b, hv, q⟩ => by
  cases ds with
  | nil => simp only [VRs] at hv; exact ⟨hv, q ι H (Post.refl b.sh) σ b.er⟩
  | cons _ _ => exact q.elim
theorem G_cons {X : Cx} {e : Expr} {es : List Expr} {g : SemG} {r : SemGs} (h1 : PG X e (Tg K E g)) (h2 : PGs X es (Tgs K E r)) (hs : (assignEach (e :: es) X.env).map (·.2) = assign e X.env :: (assignEach es X.env).map (·.2)) : PGs X (e :: es) (Tgs K E (gCons g r)) :=
  PGs.to (pgs_cons h1 h2 hs) fun vs σ H Q ⟨n0, ι, M, σd, ds, b, hv, q⟩ => by
    cases ds with
    | nil => exact q.elim
    | cons d ds =>
      simp only [VRs] at hv
      obtain ⟨x, r', rfl, h3, h4⟩ := hv
      exact ⟨x, r', rfl, n0, ι, M, σd, d, b, h3, (Wp.bind q).mono fun σ1 ι1 M1 H1 p1 q1 σ' er => ⟨n0, ι1, M1, σ1, ds, b.er' p1 er, h4.ext p1.ext, q1⟩⟩
/-- the items of a tuple -/
def gTup (g : SemGs) : SemG := fun n d σ M => match d with
  | .tup ds => g n ds σ M
  | _ => .stuck
theorem gs_len {g : SemGs} : True := trivial
def gLen (k : Nat) (g : SemGs) : SemG := fun n d σ M => match d with
  | .tup ds => if ds.length = k then g n ds σ M else .stuck
  | _ => .stuck
theorem G_tup {X : Cx} {es : List Expr} {k n : Nat} {pos : Pos} {g : SemGs} (hc : X.calm = true) (hK : X.K = K) (h : PGs X es (Tgs K E g)) (hn : (assignEach es X.env).length = n) (hst : (assignEach es X.env).findIdx? (·.1) = none) : PG X (.Tuple es k pos) (Tg K E (gLen n g)) :=
  PG.to (pg_tup hc h hn hst) fun v σ H Q ⟨n0, ι, M, σd, d, b, hv, q⟩ => by
    cases d with
    | tup ds =>
      simp only [VR] at hv
      obtain ⟨a, xs, rfl, h2, h3⟩ := hv
      unfold gLen at q
      simp only at q
      split at q
      · rename_i hl
        exact ⟨a, xs, rfl, by rw [hK]; exact h2.sq, by rw [← vrs_len h3]; exact hl, n0, ι, M, σd, ds, b, h3, q⟩
      · exact q.elim
    | _ => exact q.elim
def sAsg (a : SemE) (g : SemG) : SemS := fun n σ M => (a n σ M).bind fun d M1 => (g n d σ M1).bind fun σ2 M2 => .ok (.nx, σ2) M2
theorem asg_read {f : SemE} {g : SemG} {Dn : Ends} {σ : St} {H : Hp} (h : Ts K E (sAsg f g) Dn σ H) : tAsg (T K E f) (Tg K E g) Dn σ H := by
  obtain ⟨n0, ι, M, σd, b, q⟩ := h
  exact ⟨n0, ι, M, σd, b, (Wp.bind q).mono fun d ι1 M1 H1 p1 q1 v hv => ⟨n0, ι1, M1, σd, d, b.to p1, hv, (Wp.bind q1).mono fun σ2 ι2 M2 H2 p2 q2 σ' er => q2 ι2 H2 (Post.refl p2.sh) σ' er⟩⟩
theorem S_asg {X : Cx} {tg e : Expr} {pos : Pos} {f : SemE} {g : SemG} (he : PE X e (T K E f)) (hg : PG X tg (Tg K E g)) (hs : swapsWithSole [tg] e pos.line X.env = pure false) (hw : swappedStores [tg] e X.env = pure none)
    (h1 : (assignEach [tg] X.env).map (·.2) = [assign tg X.env]) : PS X (.Assign [tg] e pos) (Ts K E (sAsg f g)) := PS.to (ps_asg he hg hs hw h1) fun Dn σ H h => asg_read h
/-- two names at once -/
def sPar (i j : Nat) (r : SemL) : SemS := fun n σ M => (r n σ M).bind fun ds M1 => match ds with
  | [a, b] => if i < σ.length ∧ j < σ.length then .ok (.nx, (σ.set i (some a)).set j (some b)) M1 else .stuck
  | _ => .stuck
theorem S_par {X : Cx} {st : Stmt} {i j : Nat} {f : SemL} (h : PS X st (tPar i j (Tl K E f))) : PS X st (Ts K E (sPar i j f)) :=
  PS.to h fun Dn σ H ⟨n0, ι, M, σd, b, q⟩ => by
    refine ⟨n0, ι, M, σd, b, (Wp.bind q).mono fun ds ι1 M1 H1 p1 q1 vs hv => ?_⟩
    match ds, q1 with
    | [x, y], q1 =>
      simp only [VRs] at hv
      obtain ⟨v, r, rfl, h1, w, r2, rfl, h2, rfl⟩ := hv
      simp only at q1
      split at q1
      · exact ⟨v, w, rfl, q1 ι1 H1 (Post.refl p1.sh) _ (((b.er.ext p1.ext).set h1 i).set h2 j)⟩
      · exact q1.elim
    | [], q1 => exact q1.elim
    | [_], q1 => exact q1.elim
    | _ :: _ :: _ :: _, q1 => exact q1.elim
/-- raise -/
def sRaise (c : Str) : SemS := fun _ _ M => .err c M
end
end DL

namespace DL
open PySem PySem.Spec PyProof.Rows L2

mutual
def D.eq : D → D → Bool
  | .non, .non => true
  | .bl a, .bl b => a == b
  | .int a, .int b => decide (a = b)
  | .str a, .str b => decide (a = b)
  | .tup a, .tup b => D.eqs a b
  | .fz a, .fz b => D.eqs a b
  | .ro a, .ro b => D.eqs a b
  | .ref a, .ref b => decide (a = b)
  | .ty a, .ty b => decide (a = b)
  | _, _ => false
def D.eqs : List D → List D → Bool
  | [], [] => true
  | a :: as, b :: bs => D.eq a b && D.eqs as bs
  | _, _ => false
end
mutual
theorem D.eq_of : ∀ (a b : D), D.eq a b = true → a = b
  | .non, b, h => by cases b <;> simp [D.eq] at h ⊢
  | .bl x, b, h => by cases b <;> simp [D.eq] at h ⊢; exact h
  | .int x, b, h => by cases b <;> simp [D.eq] at h ⊢; exact h
  | .str x, b, h => by cases b <;> simp [D.eq] at h ⊢; exact h
  | .ref x, b, h => by cases b <;> simp [D.eq] at h ⊢; exact h
  | .ty x, b, h => by cases b <;> simp [D.eq] at h ⊢; exact h
  | .tup x, b, h => by
    cases b <;> simp [D.eq] at h ⊢
    exact D.eqs_of _ _ h
  | .fz x, b, h => by
    cases b <;> simp [D.eq] at h ⊢
    exact D.eqs_of _ _ h
  | .ro x, b, h => by
    cases b <;> simp [D.eq] at h ⊢
    exact D.eqs_of _ _ h
theorem D.eqs_of : ∀ (a b : List D), D.eqs a b = true → a = b
  | [], b, h => by cases b <;> simp [D.eqs] at h ⊢
  | x :: xs, b, h => by
    cases b with
    | nil => simp [D.eqs] at h
    | cons y ys =>
      simp only [D.eqs, Bool.and_eq_true] at h
      rw [D.eq_of x y h.1, D.eqs_of xs ys h.2]
end
mutual
@[simp] theorem D.eq_self : ∀ a : D, D.eq a a = true
  | .non => by simp [D.eq]
  | .bl _ => by simp [D.eq]
  | .int _ => by simp [D.eq]
  | .str _ => by simp [D.eq]
  | .ref _ => by simp [D.eq]
  | .ty _ => by simp [D.eq]
  | .tup xs => by simp [D.eq, D.eqs_self xs]
  | .fz xs => by simp [D.eq, D.eqs_self xs]
  | .ro xs => by simp [D.eq, D.eqs_self xs]
@[simp] theorem D.eqs_self : ∀ a : List D, D.eqs a a = true
  | [] => by simp [D.eqs]
  | x :: xs => by simp [D.eqs, D.eq_self x, D.eqs_self xs]
end

def frzOb (n : Nat) (M : Hep) : Ob → Option Ob
  | .lst ds => (frzDs (look n M 8) ds).map .lst
  | .dct ks vs => (frzDs (look n M 8) ks).bind fun ks' => (frzDs (look n M 8) vs).map fun vs' => .dct ks' vs'
def frzObs (n : Nat) (M : Hep) : List Ob → Option (List Ob)
  | [] => some []
  | o :: os => (frzOb n M o).bind fun p => (frzObs n M os).map (p :: ·)
/-- all but the first n1 objects is forgotten: what still names it holds it as it stands -/
def settle (n0 n1 : Nat) (σ : Sl) (M : Hep) : Option (Sl × Hep) :=
  if M.length ≤ n1 then some (σ, M) else (frzObs n1 M ((M.take n1).drop n0)).map fun L => (σ.map fun o => o.bind (frz n1 M), M.take n0 ++ L)

section
variable {K : PySem.W.Frag} {E : EK} {ι ι' : Io} {H H' : Hp} {M M' : Hep} {n0 : Nat}
mutual
theorem vr_low {n n1 : Nat} (hn : n ≤ n1) : ∀ (d : D) (v : V), d.low n = true → VR K ι H d v → VR K (ι.take n1) H d v
  | .non, v, _, h => by simpa only [VR] using h
  | .bl _, v, _, h => by simpa only [VR] using h
  | .int _, v, _, h => by simpa only [VR] using h
  | .str _, v, _, h => by simpa only [VR] using h
  | .ty _, v, _, h => by simpa only [VR] using h
  | .ref m, v, l, h => by
    simp only [VR] at h ⊢
    simp only [D.low, decide_eq_true_eq] at l
    obtain ⟨a, e, q⟩ := h
    exact ⟨a, e, by rw [List.getElem?_take_of_lt (by omega)]; exact q⟩
  | .tup ds, v, l, h => by
    simp only [VR] at h ⊢
    simp only [D.low] at l
    obtain ⟨a, xs, e, q, r⟩ := h
    exact ⟨a, xs, e, q.take n1, vrs_low hn ds xs l r⟩
  | .fz ds, v, l, h => by
    simp only [VR] at h ⊢
    simp only [D.low] at l
    obtain ⟨a, xs, e, q, r⟩ := h
    exact ⟨a, xs, e, q.take n1, vrs_low hn ds xs l r⟩
  | .ro ds, v, l, h => by
    simp only [VR] at h ⊢
    simp only [D.low] at l
    obtain ⟨a, xs, e, q, r⟩ := h
    exact ⟨a, xs, e, q.take n1, vrs_low hn ds xs l r⟩
theorem vrs_low {n n1 : Nat} (hn : n ≤ n1) : ∀ (ds : List D) (xs : List V), lows n ds = true → VRs K ι H ds xs → VRs K (ι.take n1) H ds xs
  | [], xs, _, h => by simpa only [VRs] using h
  | d :: ds, xs, l, h => by
    simp only [VRs] at h ⊢
    simp only [lows, Bool.and_eq_true] at l
    obtain ⟨x, r, e, q, s⟩ := h
    exact ⟨x, r, e, vr_low hn d x l.1 q, vrs_low hn ds r l.2 s⟩
end
mutual
theorem vr_isLow : ∀ (d : D) (v : V), VR K ι H d v → d.low ι.length = true
  | .non, v, h => by simp only [D.low]
  | .bl _, v, h => by simp only [D.low]
  | .int _, v, h => by simp only [D.low]
  | .str _, v, h => by simp only [D.low]
  | .ty _, v, h => by simp only [D.low]
  | .ref m, v, h => by
    simp only [VR] at h
    obtain ⟨a, e, q⟩ := h
    simp only [D.low, decide_eq_true_eq]
    exact (List.getElem?_eq_some_iff.mp q).1
  | .tup ds, v, h => by
    simp only [VR] at h
    obtain ⟨a, xs, e, q, r⟩ := h
    simp only [D.low]; exact vrs_isLow ds xs r
  | .fz ds, v, h => by
    simp only [VR] at h
    obtain ⟨a, xs, e, q, r⟩ := h
    simp only [D.low]; exact vrs_isLow ds xs r
  | .ro ds, v, h => by
    simp only [VR] at h
    obtain ⟨a, xs, e, q, r⟩ := h
    simp only [D.low]; exact vrs_isLow ds xs r
theorem vrs_isLow : ∀ (ds : List D) (xs : List V), VRs K ι H ds xs → lows ι.length ds = true
  | [], xs, h => by simp only [lows]
  | d :: ds, xs, h => by
    simp only [VRs] at h
    obtain ⟨x, r, e, q, s⟩ := h
    simp only [lows, vr_isLow d x q, vrs_isLow ds r s, Bool.and_self]
end
theorem SH.bel (s : SH K ι M H) : Bel M.length M := fun i ob hi e => by
  have hl : i < ι.length := by rw [s.len]; exact hi
  have o := s.ob i ob ι[i] e (List.getElem?_eq_getElem hl)
  cases ob with
  | lst ds =>
    obtain ⟨xs, h1, h2⟩ := o
    show lows M.length ds = true
    rw [← s.len]; exact vrs_isLow ds xs h2
  | dct ks vs =>
    obtain ⟨xs, h1, h2, h3⟩ := o
    show (lows M.length ks && lows M.length vs) = true
    rw [← s.len, vrs_isLow ks _ h2, vrs_isLow vs _ h3]; rfl
theorem Ext.take (e : Ext ι H ι' H') : Ext ι H (ι'.take ι.length) H' := by
  obtain ⟨t, rfl, f⟩ := e.pre
  rw [List.take_append_of_le_length (Nat.le_refl _), List.take_length]
  exact ⟨⟨[], by simp, fun _ h => by simp at h⟩, e.frame, e.dom⟩
theorem Ext.take_eq (e : Ext ι H ι' H') : ι'.take ι.length = ι := by
  obtain ⟨t, rfl, f⟩ := e.pre
  rw [List.take_append_of_le_length (Nat.le_refl _), List.take_length]
theorem frzObs_get {n : Nat} : ∀ {os ps : List Ob} {i : Nat} {p : Ob}, frzObs n M os = some ps → ps[i]? = some p → ∃ o, os[i]? = some o ∧ frzOb n M o = some p
  | [], ps, i, p, e, h => by simp only [frzObs, Option.some.injEq] at e; subst e; simp at h
  | o :: os, ps, i, p, e, h => by
    simp only [frzObs, Option.bind_eq_some_iff, Option.map_eq_some_iff] at e
    obtain ⟨q, e1, qs, e2, rfl⟩ := e
    cases i with
    | zero => simp at h; subst h; exact ⟨o, by simp, e1⟩
    | succ i =>
      obtain ⟨o', h1, h2⟩ := frzObs_get e2 (by simpa using h)
      exact ⟨o', by simpa using h1, h2⟩
theorem frzObs_len {n : Nat} : ∀ {os ps : List Ob}, frzObs n M os = some ps → ps.length = os.length
  | [], ps, e => by simp only [frzObs, Option.some.injEq] at e; subst e; rfl
  | o :: os, ps, e => by
    simp only [frzObs, Option.bind_eq_some_iff, Option.map_eq_some_iff] at e
    obtain ⟨q, e1, qs, e2, rfl⟩ := e
    simp [frzObs_len e2]
/-- what is settled stands for the same -/
theorem settle_ok {n1 : Nat} {σd σd' : Sl} {σ : St} (s : SH K ι M H) (er : ER K ι H σd σ) (bel : Bel n0 M) (h0 : n0 ≤ n1) (h1 : n1 ≤ M.length) (e : settle n0 n1 σd M = some (σd', M')) :
    SH K (ι.take n1) M' H ∧ ER K (ι.take n1) H σd' σ ∧ M'.length = n1 ∧ ∀ i, i < n0 → M'[i]? = M[i]? := by
  unfold settle at e
  by_cases hl : M.length ≤ n1
  · rw [if_pos hl] at e
    cases e
    have : ι.take n1 = ι := List.take_of_length_le (by rw [s.len]; exact hl)
    rw [this]
    exact ⟨s, er, Nat.le_antisymm hl h1, fun _ _ => rfl⟩
  · rw [if_neg hl] at e
    simp only [Option.map_eq_some_iff] at e
    obtain ⟨L, e1, e2⟩ := e
    cases e2
    have lenL : L.length = n1 - n0 := by rw [frzObs_len e1]; simp; omega
    have len : (M.take n0 ++ L).length = n1 := by simp [lenL]; omega
    refine ⟨⟨s.nd.sublist (List.take_sublist _ _), by rw [len]; simp [s.len]; omega, fun i ob a q1 q2 => ?_⟩, ⟨by simpa using er.1, fun i d q => ?_⟩, len, fun i hi => ?_⟩
    · have hi : i < n1 := by
        have := (List.getElem?_eq_some_iff.mp q1).1
        omega
      rw [List.getElem?_take_of_lt hi] at q2
      by_cases z : i < n0
      · rw [List.getElem?_append_left (by simp; omega), List.getElem?_take_of_lt z] at q1
        have o := s.ob i ob a q1 q2
        have b := bel i ob z q1
        cases ob with
        | lst ds =>
          obtain ⟨xs, r1, r2⟩ := o
          exact ⟨xs, r1, vrs_low h0 ds xs b r2⟩
        | dct ks vs =>
          obtain ⟨xs, r1, r2, r3⟩ := o
          have b' : (lows n0 ks && lows n0 vs) = true := b
          simp only [Bool.and_eq_true] at b'
          exact ⟨xs, r1, vrs_low h0 ks _ b'.1 r2, vrs_low h0 vs _ b'.2 r3⟩
      · have hn : (M.take n0).length = n0 := by simp; omega
        rw [List.getElem?_append_right (by omega), hn] at q1
        obtain ⟨o, q3, q4⟩ := frzObs_get e1 q1
        have q5 : M[i]? = some o := by
          rw [List.getElem?_drop, List.getElem?_take_of_lt (by omega)] at q3
          rw [← q3]; congr 1; omega
        have oo := s.ob i o a q5 q2
        cases o with
        | lst ds =>
          obtain ⟨xs, r1, r2⟩ := oo
          simp only [frzOb, Option.map_eq_some_iff] at q4
          obtain ⟨es, q6, rfl⟩ := q4
          exact ⟨xs, r1, vrs_frzD n1 (vr_look s n1 8) ds es xs q6 r2⟩
        | dct ks vs =>
          obtain ⟨xs, r1, r2, r3⟩ := oo
          simp only [frzOb, Option.bind_eq_some_iff, Option.map_eq_some_iff] at q4
          obtain ⟨ks', q6, vs', q7, rfl⟩ := q4
          exact ⟨xs, r1, vrs_frzD n1 (vr_look s n1 8) ks ks' _ q6 r2, vrs_frzD n1 (vr_look s n1 8) vs vs' _ q7 r3⟩
    · rw [List.getElem?_map] at q
      simp only [Option.map_eq_some_iff] at q
      obtain ⟨o, q1, q2⟩ := q
      cases o with
      | none => cases q2
      | some d0 =>
        obtain ⟨v, r1, r2⟩ := er.2 i d0 q1
        exact ⟨v, r1, vr_frz s n1 q2 r2⟩
    · rw [List.getElem?_append_left (by simp; omega), List.getElem?_take_of_lt hi]

theorem Wp.bind2 {α β : Type} {r : Res α} {f : α → Hep → Res β} {k : β → Io → Hep → Hp → Prop} (h : Wp K E n0 ι M H (r.bind f) k) :
    Wp K E n0 ι M H r fun a ι' M' H' => Wp K E n0 ι M H (f a M') k := by
  cases r with
  | ok a M' => exact fun ι' H' p => h
  | err c M' => exact h
  | stuck => exact h
/-! ### what a for walks -/
structure Itm where
  ds : List D
  src : Option (Nat × List D) := none
abbrev SemI := Nat → Sl → Hep → Res Itm
def Itm.chk (it : Itm) (M : Hep) : Bool := match it.src with
  | none => true
  | some (m, ds) => match M[m]? with
    | some (.lst es) => D.eqs es ds
    | _ => false
structure Walks (K : PySem.W.Frag) (J : It) (it : Itm) (ι₀ : Io) (H₀ : Hp) : Prop where
  stop : ∀ ι M H, Ext ι₀ H₀ ι H → SH K ι M H → it.chk M = true → J.stop it.ds.length H
  turn : ∀ i d ι M H, it.ds[i]? = some d → Ext ι₀ H₀ ι H → SH K ι M H → it.chk M = true → J.go i H ∧ ∀ x H', J.yld i H x H' → Ext ι H ι H' ∧ SH K ι M H' ∧ VR K ι H' d x
def Ti (K : PySem.W.Frag) (E : EK) (f : SemI) : TI := fun σ H R => ∃ n0 ι M σd, Bg K n0 ι M H σd σ ∧ Wp K E n0 ι M H (f n0 σd M) fun it ι' M' H' => ∀ J, Walks K J it ι' H' → R J H'
def forL (g : SemG) (b : SemS) (it : Itm) (n1 n0 : Nat) : List D → Sl → Hep → Res (Fl × Sl)
  | [], σ, M => if it.chk M then .ok (.nx, σ) M else .stuck
  | d :: ds, σ, M => if it.chk M then (g n0 d σ M).bind fun σ1 M1 => (b n0 σ1 M1).bind fun p M2 => match p.1 with
      | .rt _ => .ok p M2
      | .bk => .ok (.nx, p.2) M2
      | _ => match settle n0 n1 p.2 M2 with
        | some (σ3, M3) => forL g b it n1 n0 ds σ3 M3
        | none => .stuck
    else .stuck
def sFor (fi : SemI) (g : SemG) (b : SemS) : SemS := fun n σ M => (fi n σ M).bind fun it M1 => forL g b it M1.length n it.ds σ M1
theorem Keep.settled {n1 : Nat} {M2 M3 : Hep} (k : Keep n0 M M2) (hn : M.length = n1) (h : M3.length = n1) (same : ∀ i, i < n0 → M3[i]? = M2[i]?) : Keep n0 M M3 :=
  ⟨by omega, fun n hle b i ob hi e => k.bel n hle b i ob hi (by rw [← same i (by omega)]; exact e)⟩
theorem S_for {X : Cx} {tg iter : Expr} {body : List Stmt} {pos : Pos} {fi : SemI} {g : SemG} {fb : SemS} (hp : PassesOwn (model X.prog X.w) X.A X.env X.xe) (hc : X.calm = true) (hi : PI X tg iter (Ti K E fi)) (hg : PG X tg (Tg K E g)) (hb : PSs X body (Ts K E fb)) (hfs : ∀ x, foldedSetIterable iter X.env x = pure x) : PS X (.For tg iter body [] pos) (Ts K E (sFor fi g fb)) :=
  PS.to (ps_for hp hc hi hg hb hfs) fun Dn σ H ⟨n0, ι, M, σd, b, q⟩ => by
    refine ⟨n0, ι, M, σd, b, (Wp.bind q).mono fun it ι1 M1 H1 p1 q1 J wk => ?_⟩
    have b1 := b.to p1
    refine ⟨fun i m σ H => ∃ M σd, i ≤ it.ds.length ∧ m = it.ds.length - i ∧ M.length = M1.length ∧ Ext ι1 H1 ι1 H ∧ Bg K n0 ι1 M H σd σ ∧ Wp K E n0 ι1 M H (forL g fb it M1.length n0 (it.ds.drop i) σd M) (Fin K Dn), ⟨_, M1, σd, Nat.zero_le _, rfl, rfl, Ext.refl _ _, b1, q1⟩, ?_⟩
    rintro i m σ H ⟨M, σd, hi, rfl, hM, ex, bg, wp⟩
    by_cases hlt : i < it.ds.length
    · right
      have e : it.ds.drop i = it.ds[i] :: it.ds.drop (i + 1) := List.drop_eq_getElem_cons hlt
      rw [e] at wp
      unfold forL at wp
      by_cases ck : it.chk M = true
      · rw [if_pos ck] at wp
        obtain ⟨t1, t2⟩ := wk.turn i it.ds[i] ι1 M H (List.getElem?_eq_getElem hlt) ex bg.sh ck
        refine ⟨t1, fun σ' H' => ∃ M σd, i + 1 ≤ it.ds.length ∧ M.length = M1.length ∧ Ext ι1 H1 ι1 H' ∧ Bg K n0 ι1 M H' σd σ' ∧ Wp K E n0 ι1 M H' (forL g fb it M1.length n0 (it.ds.drop (i + 1)) σd M) (Fin K Dn), fun σ' H' ⟨M', σd', a, b, c, d, e⟩ => ⟨it.ds.length - (i + 1), by omega, M', σd', a, rfl, b, c, d, e⟩, fun x H' y => ?_⟩
        obtain ⟨y1, y2, y3⟩ := t2 x H' y
        have py : Post K n0 ι1 M H ι1 M H' := ⟨y1, y2, Keep.refl _ _⟩
        refine ⟨n0, ι1, M, σd, it.ds[i], bg.to py, y3, (Wp.shift py (Wp.bind2 wp)).mono fun σ1 ι2 M2 H2 p2 q2 σ2 er => ?_⟩
        have py2 := py.trans p2
        refine ⟨n0, ι2, M2, σ1, (bg.to py).er' p2 er, (Wp.shift py2 (Wp.bind2 q2)).mono fun p ι3 M3 H3 p3 q3 => ?_⟩
        have pp := py2.trans p3
        have bgp := (bg.to pp)
        have next : Wp K E n0 ι1 M H (match settle n0 M1.length p.2 M3 with | some (σ3, M3) => forL g fb it M1.length n0 (it.ds.drop (i + 1)) σ3 M3 | none => Res.stuck) (Fin K Dn) → ∀ σ' : St, ER K ι3 H3 p.2 σ' → ∃ M σd, i + 1 ≤ it.ds.length ∧ M.length = M1.length ∧ Ext ι1 H1 ι1 H3 ∧ Bg K n0 ι1 M H3 σd σ' ∧ Wp K E n0 ι1 M H3 (forL g fb it M1.length n0 (it.ds.drop (i + 1)) σd M) (Fin K Dn) := by
          intro w σ' er'
          cases hs : settle n0 M1.length p.2 M3 with
          | none => rw [hs] at w; exact w.elim
          | some r =>
            obtain ⟨σ4, M4⟩ := r
            rw [hs] at w
            have w : Wp K E n0 ι1 M H (forL g fb it M1.length n0 (it.ds.drop (i + 1)) σ4 M4) (Fin K Dn) := w
            have l1 : ι1.length = M1.length := p1.sh.len
            have hle : M1.length ≤ M3.length := by have := pp.keep.sz; omega
            obtain ⟨s1, s2, s3, s4⟩ := settle_ok pp.sh er' bgp.bel b1.le hle hs
            have et : ι3.take M1.length = ι1 := by rw [← l1]; exact pp.ext.take_eq
            rw [et] at s1 s2
            have exx : Ext ι1 H ι1 H3 := by have := pp.ext.take; rw [pp.ext.take_eq] at this; exact this
            have ks : Keep n0 M M4 := pp.keep.settled hM s3 s4
            exact ⟨M4, σ4, hlt, s3, ex.trans exx, ⟨by rw [s3]; exact b1.le, ks.bel n0 (Nat.le_refl _) bg.bel, s1, s2⟩, Wp.shift ⟨exx, s1, ks⟩ w⟩
        cases hp1 : p.1 with
        | nx =>
          rw [hp1] at q3
          unfold Fin
          rw [hp1]
          exact next q3
        | ct =>
          rw [hp1] at q3
          unfold Fin
          rw [hp1]
          exact next q3
        | bk =>
          rw [hp1] at q3
          unfold Fin
          rw [hp1]
          exact fun σ' er => (Wp.shift pp q3 : Wp K E n0 ι3 M3 H3 (Res.ok (Fl.nx, p.2) M3) (Fin K Dn)) ι3 H3 (Post.refl p3.sh) σ' er
        | rt d =>
          rw [hp1] at q3
          have q4 := (Wp.shift pp q3 : Wp K E n0 ι3 M3 H3 (Res.ok p M3) (Fin K Dn)) ι3 H3 (Post.refl p3.sh)
          unfold Fin at q4 ⊢
          rw [hp1] at q4 ⊢
          exact q4
      · rw [if_neg ck] at wp
        exact wp.elim
    · left
      have e : i = it.ds.length := by omega
      subst e
      rw [List.drop_length] at wp
      unfold forL at wp
      by_cases ck : it.chk M = true
      · rw [if_pos ck] at wp
        exact ⟨wk.stop ι1 M H ex bg.sh ck, wp ι1 H (Post.refl bg.sh) σ bg.er⟩
      · rw [if_neg ck] at wp
        exact wp.elim
end
end DL

namespace DL
open PySem PySem.Spec PyProof.Rows L2
def whileL (c : SemT) (b : SemS) (n1 n0 : Nat) : Nat → Sl → Hep → Res (Fl × Sl)
  | 0, _, _ => .stuck
  | k + 1, σ, M => (c n0 σ M).bind fun x M1 => if x then (b n0 σ M1).bind fun p M2 => match p.1 with
      | .rt _ => .ok p M2
      | .bk => .ok (.nx, p.2) M2
      | _ => match settle n0 n1 p.2 M2 with
        | some (σ3, M3) => whileL c b n1 n0 k σ3 M3
        | none => .stuck
    else .ok (.nx, σ) M1
def wFuel : Nat := 1000000
def sWhile (c : SemT) (b : SemS) : SemS := fun n σ M => whileL c b M.length n wFuel σ M

/-- the k-th slots forgotten -/
def wipeD (σ : Sl) : List Nat → Sl
  | [] => σ
  | v :: vs => (wipeD σ vs).set v none
/-- one more item at the list n1 -/
def pushAt (n1 : Nat) (y : D) (M : Hep) : Res Unit := match M[n1]? with
  | some (.lst acc) => if acc.length < sizeLine then .ok () (M.set n1 (.lst (acc ++ [y]))) else .stuck
  | _ => .stuck
/-- no error leaves it -/
def Res.safe {α : Type} (r : Res α) : Res α := match r with
  | .err _ _ => .stuck
  | r => r
@[simp] theorem Res.safe_ok {α : Type} (a : α) (M : Hep) : (Res.ok a M).safe = .ok a M := rfl
@[simp] theorem Res.safe_err {α : Type} (c : Str) (M : Hep) : (Res.err c M : Res α).safe = .stuck := rfl
@[simp] theorem Res.safe_stuck {α : Type} : (Res.stuck : Res α).safe = .stuck := rfl
/-- the turns of a comprehension; keep: the items may be lists that change -/
def compL (g : SemG) (tt : SemT) (te : SemE) (it : Itm) (keep : Bool) (n1 n0 : Nat) (σw : Sl) : List D → Hep → Res Unit
  | [], M => if it.chk M then .ok () M else .stuck
  | d :: ds, M => if it.chk M then (g n0 d σw M).safe.bind fun σ1 M1 => (tt n0 σ1 M1).safe.bind fun b M2 =>
      (if b then (te n0 σ1 M2).safe.bind fun y M3 => pushAt n1 y M3 else .ok () M2).bind fun _ M4 =>
        if keep then compL g tt te it keep n1 n0 σw ds M4 else match settle n0 (n1 + 1) σw M4 with
          | some (_, M5) => compL g tt te it keep n1 n0 σw ds M5
          | none => .stuck
    else .stuck
/-- [te for g in fi if tt]: m: it may change -/
def eLc (m keep : Bool) (vs : List Nat) (fi : SemI) (g : SemG) (tt : SemT) (te : SemE) : SemE := fun n0 σ M => (fi n0 σ M).bind fun it M1 =>
  (compL g tt te it keep M1.length n0 (wipeD σ vs) it.ds (M1 ++ [.lst []])).bind fun _ M2 =>
    if m then .ok (.ref M1.length) M2 else match frz M1.length M2 (.ref M1.length), settle n0 M1.length [] M2 with
      | some d, some (_, M3) => .ok d M3
      | _, _ => .stuck
section
variable {K : PySem.W.Frag} {E : EK} {ι ι' : Io} {H H' : Hp} {M M' : Hep} {n0 : Nat}
theorem S_while {X : Cx} {c : Expr} {body : List Stmt} {pos : Pos} {fc : SemT} {fb : SemS} (hp : PassesOwn (model X.prog X.w) X.A X.env X.xe) (hc : PT X c (Tt K E fc)) (hb : PSs X body (Ts K E fb)) : PS X (.While c body [] pos) (Ts K E (sWhile fc fb)) :=
  PS.to (ps_while hp hc hb) fun Dn σ H ⟨n0, ι1, M1, σd, b1, q⟩ => by
    refine ⟨fun m σ H' => ∃ M σd, M.length = M1.length ∧ Ext ι1 H ι1 H' ∧ Bg K n0 ι1 M H' σd σ ∧ Wp K E n0 ι1 M H' (whileL fc fb M1.length n0 m σd M) (Fin K Dn), ⟨wFuel, M1, σd, rfl, Ext.refl _ _, b1, q⟩, ?_⟩
    rintro m σ H' ⟨M, σd, hM, ex, bg, wp⟩
    cases m with
    | zero => exact wp.elim
    | succ k =>
      unfold whileL at wp
      refine ⟨n0, ι1, M, σd, bg, (Wp.bind2 wp).mono fun x ι2 M2 H2 p2 q2 => ?_⟩
      cases x with
      | false =>
        rw [if_neg Bool.false_ne_true] at q2
        refine iteF ?_
        exact (Wp.shift p2 q2 : Wp K E n0 ι2 M2 H2 (Res.ok (Fl.nx, σd) M2) (Fin K Dn)) ι2 H2 (Post.refl p2.sh) σ (bg.er.ext p2.ext)
      | true =>
        rw [if_pos rfl] at q2
        refine iteT ?_
        refine ⟨fun σ' H' => ∃ M σd, M.length = M1.length ∧ Ext ι1 H ι1 H' ∧ Bg K n0 ι1 M H' σd σ' ∧ Wp K E n0 ι1 M H' (whileL fc fb M1.length n0 k σd M) (Fin K Dn), fun σ' H' h => ⟨k, Nat.lt_succ_self k, h⟩, ?_⟩
        refine ⟨n0, ι2, M2, σd, bg.to p2, (Wp.shift p2 (Wp.bind2 q2)).mono fun p ι3 M3 H3 p3 q3 => ?_⟩
        have pp := p2.trans p3
        have bgp := bg.to pp
        have next : Wp K E n0 ι1 M H' (match settle n0 M1.length p.2 M3 with | some (σ3, M3) => whileL fc fb M1.length n0 k σ3 M3 | none => Res.stuck) (Fin K Dn) → ∀ σ' : St, ER K ι3 H3 p.2 σ' → ∃ M σd, M.length = M1.length ∧ Ext ι1 H ι1 H3 ∧ Bg K n0 ι1 M H3 σd σ' ∧ Wp K E n0 ι1 M H3 (whileL fc fb M1.length n0 k σd M) (Fin K Dn) := by
          intro w σ' er'
          cases hs : settle n0 M1.length p.2 M3 with
          | none => rw [hs] at w; exact w.elim
          | some r =>
            obtain ⟨σ4, M4⟩ := r
            rw [hs] at w
            have w : Wp K E n0 ι1 M H' (whileL fc fb M1.length n0 k σ4 M4) (Fin K Dn) := w
            have l1 : ι1.length = M1.length := b1.sh.len
            have hle : M1.length ≤ M3.length := by have := pp.keep.sz; omega
            obtain ⟨s1, s2, s3, s4⟩ := settle_ok pp.sh er' bgp.bel b1.le hle hs
            have et : ι3.take M1.length = ι1 := by rw [← l1]; exact pp.ext.take_eq
            rw [et] at s1 s2
            have exx : Ext ι1 H' ι1 H3 := by have := pp.ext.take; rw [pp.ext.take_eq] at this; exact this
            have ks : Keep n0 M M4 := pp.keep.settled hM s3 s4
            exact ⟨M4, σ4, s3, ex.trans exx, ⟨by rw [s3]; exact b1.le, ks.bel n0 (Nat.le_refl _) bg.bel, s1, s2⟩, Wp.shift ⟨exx, s1, ks⟩ w⟩
        cases hp1 : p.1 with
        | nx =>
          rw [hp1] at q3
          unfold Fin
          rw [hp1]
          exact next q3
        | ct =>
          rw [hp1] at q3
          unfold Fin
          rw [hp1]
          exact next q3
        | bk =>
          rw [hp1] at q3
          unfold Fin
          rw [hp1]
          exact fun σ' er => (Wp.shift pp q3 : Wp K E n0 ι3 M3 H3 (Res.ok (Fl.nx, p.2) M3) (Fin K Dn)) ι3 H3 (Post.refl p3.sh) σ' er
        | rt d =>
          rw [hp1] at q3
          have q4 := (Wp.shift pp q3 : Wp K E n0 ι3 M3 H3 (Res.ok p M3) (Fin K Dn)) ι3 H3 (Post.refl p3.sh)
          unfold Fin at q4 ⊢
          rw [hp1] at q4 ⊢
          exact q4

/-! targets within a comprehension: they change its own slots alone -/
def Tgw (K : PySem.W.Frag) (E : EK) (vs : List Nat) (g : SemG) : TG := fun v σ H Q => ∃ n0 ι M σd d, Bg K n0 ι M H σd σ ∧ VR K ι H d v ∧ Wp K E n0 ι M H (g n0 d σd M) fun σd' ι' M' H' => ∀ σ', ER K ι' H' σd' σ' → wipe σ' vs = wipe σ vs → Q σ' H'
def Tgsw (K : PySem.W.Frag) (E : EK) (vs : List Nat) (g : SemGs) : TGs := fun ws σ H Q => ∃ n0 ι M σd ds, Bg K n0 ι M H σd σ ∧ VRs K ι H ds ws ∧ Wp K E n0 ι M H (g n0 ds σd M) fun σd' ι' M' H' => ∀ σ', ER K ι' H' σd' σ' → wipe σ' vs = wipe σ vs → Q σ' H'
theorem Tgw.weak {vs : List Nat} {X : Cx} {e : Expr} {g : SemG} (h : PG X e (Tgw K E vs g)) : PG X e (Tg K E g) := PG.to h fun v σ H Q ⟨n0, ι, M, σd, d, b, hv, q⟩ => ⟨n0, ι, M, σd, d, b, hv, q.mono fun σd' ι' M' H' p h σ' er _ => h σ' er⟩
theorem wipe_set {σ : St} {i : Nat} {x : Option V} : ∀ {vs : List Nat}, i ∈ vs → wipe (σ.set i x) vs = wipe σ vs
  | [], h => by simp at h
  | v :: vs, h => by
    have sw : ∀ (τ : St) (x : Option V) (ws : List Nat), i ∉ ws → wipe (τ.set i x) ws = (wipe τ ws).set i x := by
      intro τ x ws
      induction ws with
      | nil => intro _; rfl
      | cons w ws ih =>
        intro hn
        simp only [List.mem_cons, not_or] at hn
        unfold wipe
        rw [ih hn.2, List.set_comm _ _ hn.1]
    unfold wipe
    by_cases hm : i ∈ vs
    · rw [wipe_set hm]
    · rw [sw σ x vs hm]
      have : i = v := by simpa [hm] using h
      subst this
      rw [List.set_set]
theorem W_var {X : Cx} {e : Expr} {i : Nat} {vs : List Nat} (h : PG X e (gName i)) (hi : i ∈ vs) : PG X e (Tgw K E vs (gVar i)) := PG.to h fun v σ H Q ⟨n0, ι, M, σd, d, b, hv, q⟩ => by
  unfold gVar at q
  split at q
  · exact q ι H (Post.refl b.sh) _ (b.er.set hv i) (wipe_set hi)
  · exact q.elim
theorem W_nil {X : Cx} {vs : List Nat} : PGs X [] (Tgsw K E vs gNil) := PGs.to pgs_nil fun ws σ H Q ⟨n0, ι, M, σd, ds, b, hv, q⟩ => by
  cases ds with
  | nil => simp only [VRs] at hv; exact ⟨hv, q ι H (Post.refl b.sh) σ b.er rfl⟩
  | cons _ _ => exact q.elim
theorem W_cons {X : Cx} {vs : List Nat} {e : Expr} {es : List Expr} {g : SemG} {r : SemGs} (h1 : PG X e (Tgw K E vs g)) (h2 : PGs X es (Tgsw K E vs r)) (hs : (assignEach (e :: es) X.env).map (·.2) = assign e X.env :: (assignEach es X.env).map (·.2)) : PGs X (e :: es) (Tgsw K E vs (gCons g r)) :=
  PGs.to (pgs_cons h1 h2 hs) fun ws σ H Q ⟨n0, ι, M, σd, ds, b, hv, q⟩ => by
    cases ds with
    | nil => exact q.elim
    | cons d ds =>
      simp only [VRs] at hv
      obtain ⟨x, r', rfl, h3, h4⟩ := hv
      exact ⟨x, r', rfl, n0, ι, M, σd, d, b, h3, (Wp.bind q).mono fun σ1 ι1 M1 H1 p1 q1 σ' er ew => ⟨n0, ι1, M1, σ1, ds, b.er' p1 er, h4.ext p1.ext, q1.mono fun σ2 ι2 M2 H2 p2 q2 σ'' er2 ew2 => q2 σ'' er2 (ew2.trans ew)⟩⟩
theorem W_tup {X : Cx} {vs : List Nat} {es : List Expr} {k n : Nat} {pos : Pos} {g : SemGs} (hc : X.calm = true) (hK : X.K = K) (h : PGs X es (Tgsw K E vs g)) (hn : (assignEach es X.env).length = n) (hst : (assignEach es X.env).findIdx? (·.1) = none) : PG X (.Tuple es k pos) (Tgw K E vs (gLen n g)) :=
  PG.to (pg_tup hc h hn hst) fun v σ H Q ⟨n0, ι, M, σd, d, b, hv, q⟩ => by
    cases d with
    | tup ds =>
      simp only [VR] at hv
      obtain ⟨a, xs, rfl, h2, h3⟩ := hv
      unfold gLen at q
      simp only at q
      split at q
      · rename_i hl
        exact ⟨a, xs, rfl, by rw [hK]; exact h2.sq, by rw [← vrs_len h3]; exact hl, n0, ι, M, σd, ds, b, h3, q⟩
      · exact q.elim
    | _ => exact q.elim
theorem ER.wipe {σd : Sl} {σ : St} (e : ER K ι H σd σ) : ∀ vs : List Nat, ER K ι H (wipeD σd vs) (L2.wipe σ vs)
  | [] => e
  | v :: vs => by
    have ih := ER.wipe e vs
    unfold wipeD L2.wipe
    refine ⟨by simp [ih.1], fun i d h => ?_⟩
    by_cases z : i = v
    · subst z
      have hl := (List.getElem?_eq_some_iff.mp h).1
      rw [List.getElem?_set_self (by simpa using hl)] at h
      cases h
    · rw [List.getElem?_set_ne (Ne.symm z)] at h
      obtain ⟨u, h1, h2⟩ := ih.2 i d h
      exact ⟨u, by rw [List.getElem?_set_ne (Ne.symm z)]; exact h1, h2⟩
end
end DL

namespace DL
open PySem PySem.Spec PyProof.Rows L2
theorem Res.bind_assoc {α β γ : Type} (r : Res α) (f : α → Hep → Res β) (g : β → Hep → Res γ) : (r.bind f).bind g = r.bind fun a M => (f a M).bind g := by cases r <;> rfl
abbrev E0 : EK := fun _ _ _ _ => False
section
variable {K : PySem.W.Frag} {E : EK} {ι ι' : Io} {H H' : Hp} {M M' : Hep} {n0 : Nat}
theorem Wp.safe {α β : Type} {r : Res α} {f : α → Hep → Res β} {k : β → Io → Hep → Hp → Prop} (h : Wp K E n0 ι M H (r.safe.bind f) k) :
    Wp K E0 n0 ι M H r fun a ι' M' H' => Wp K E n0 ι M H (f a M') k := by
  cases r with
  | ok a M' => exact fun ι' H' p => h
  | err c M' => exact h.elim
  | stuck => exact h.elim
mutual
theorem D.low_mono {n m : Nat} (h : n ≤ m) : ∀ d : D, d.low n = true → d.low m = true
  | .non, _ => by simp only [D.low]
  | .bl _, _ => by simp only [D.low]
  | .int _, _ => by simp only [D.low]
  | .str _, _ => by simp only [D.low]
  | .ty _, _ => by simp only [D.low]
  | .ref k, l => by simp only [D.low, decide_eq_true_eq] at l ⊢; omega
  | .tup ds, l => by simp only [D.low] at l ⊢; exact lows_mono h ds l
  | .fz ds, l => by simp only [D.low] at l ⊢; exact lows_mono h ds l
  | .ro ds, l => by simp only [D.low] at l ⊢; exact lows_mono h ds l
theorem lows_mono {n m : Nat} (h : n ≤ m) : ∀ ds : List D, lows n ds = true → lows m ds = true
  | [], _ => by simp only [lows]
  | d :: ds, l => by
    simp only [lows, Bool.and_eq_true] at l ⊢
    exact ⟨D.low_mono h d l.1, lows_mono h ds l.2⟩
end
/-- an object of ours changes -/
theorem post_mut {m : Nat} {a : Addr} {ds' : List D} {xs xs' : List V} (s : SH K ι M H) (hm : ι[m]? = some a) (ha : H a = some (.lst xs)) (r : VRs K ι H ds' xs') (hp : n0 ≤ m ∨ lows 0 ds' = true) :
    Post K n0 ι M H ι (M.set m (.lst ds')) (upd H a (.lst xs')) := by
  have hml : m < M.length := by rw [← s.len]; exact (List.getElem?_eq_some_iff.mp hm).1
  have e : Ext ι H ι (upd H a (.lst xs')) := ⟨⟨[], by simp, fun _ h => by simp at h⟩, fun b o h n => by
      have : b ≠ a := fun z => n (by rw [z]; exact List.mem_of_getElem? hm)
      rw [upd_ne this]; exact h, fun b h => by
      by_cases z : b = a
      · rw [z, upd_same] at h; cases h
      · rw [upd_ne z] at h; exact h⟩
  refine ⟨e, ⟨s.nd, by simp [s.len], fun n ob b e1 e2 => ?_⟩, by simp, fun n hn bl i ob hi e1 => ?_⟩
  · by_cases z : n = m
    · subst z
      rw [hm] at e2; cases e2
      rw [List.getElem?_set_self hml] at e1
      cases e1
      exact ⟨xs', upd_same, r.ext e⟩
    · rw [List.getElem?_set_ne (Ne.symm z)] at e1
      have hb : b ≠ a := fun q => z ((List.getElem?_inj (List.getElem?_eq_some_iff.mp e2).1 s.nd).mp (by rw [e2, hm, q]))
      have o := s.ob n ob b e1 e2
      cases ob with
      | lst ds =>
        obtain ⟨ys, h1, h2⟩ := o
        exact ⟨ys, by rw [upd_ne hb]; exact h1, h2.ext e⟩
      | dct ks vs =>
        obtain ⟨ys, h1, h2, h3⟩ := o
        exact ⟨ys, by rw [upd_ne hb]; exact h1, h2.ext e, h3.ext e⟩
  · by_cases z : i = m
    · subst z
      rw [List.getElem?_set_self hml] at e1
      cases e1
      rcases hp with hp | hp
      · omega
      · exact lows_mono (Nat.zero_le n) ds' hp
    · rw [List.getElem?_set_ne (Ne.symm z)] at e1
      exact bl i ob hi e1
/-- a dict of ours changes -/
theorem post_mutD {m : Nat} {a : Addr} {ks' vs' : List D} {xs xs' : List (L2.Key × V)} (s : SH K ι M H) (hm : ι[m]? = some a) (ha : H a = some (.dK xs)) (r : VRs K ι H ks' (xs'.map fun p => kV p.1)) (r2 : VRs K ι H vs' (xs'.map (·.2))) (hp : n0 ≤ m ∨ (lows 0 ks' && lows 0 vs') = true) :
    Post K n0 ι M H ι (M.set m (.dct ks' vs')) (upd H a (.dK xs')) := by
  have hml : m < M.length := by rw [← s.len]; exact (List.getElem?_eq_some_iff.mp hm).1
  have e : Ext ι H ι (upd H a (.dK xs')) := ⟨⟨[], by simp, fun _ h => by simp at h⟩, fun b o h n => by
      have : b ≠ a := fun z => n (by rw [z]; exact List.mem_of_getElem? hm)
      rw [upd_ne this]; exact h, fun b h => by
      by_cases z : b = a
      · rw [z, upd_same] at h; cases h
      · rw [upd_ne z] at h; exact h⟩
  refine ⟨e, ⟨s.nd, by simp [s.len], fun n ob b e1 e2 => ?_⟩, by simp, fun n hn bl i ob hi e1 => ?_⟩
  · by_cases z : n = m
    · subst z
      rw [hm] at e2; cases e2
      rw [List.getElem?_set_self hml] at e1
      cases e1
      exact ⟨xs', upd_same, r.ext e, r2.ext e⟩
    · rw [List.getElem?_set_ne (Ne.symm z)] at e1
      have hb : b ≠ a := fun q => z ((List.getElem?_inj (List.getElem?_eq_some_iff.mp e2).1 s.nd).mp (by rw [e2, hm, q]))
      have o := s.ob n ob b e1 e2
      cases ob with
      | lst ds =>
        obtain ⟨ys, h1, h2⟩ := o
        exact ⟨ys, by rw [upd_ne hb]; exact h1, h2.ext e⟩
      | dct ks vs =>
        obtain ⟨ys, h1, h2, h3⟩ := o
        exact ⟨ys, by rw [upd_ne hb]; exact h1, h2.ext e, h3.ext e⟩
  · by_cases z : i = m
    · subst z
      rw [List.getElem?_set_self hml] at e1
      cases e1
      rcases hp with hp | hp
      · omega
      · simp only [Bool.and_eq_true] at hp
        show (lows n ks' && lows n vs') = true
        rw [lows_mono (Nat.zero_le n) ks' hp.1, lows_mono (Nat.zero_le n) vs' hp.2]; rfl
    · rw [List.getElem?_set_ne (Ne.symm z)] at e1
      exact bl i ob hi e1
theorem vrs_app : ∀ {ds es : List D} {xs ys : List V}, VRs K ι H ds xs → VRs K ι H es ys → VRs K ι H (ds ++ es) (xs ++ ys)
  | [], es, xs, ys, h, h' => by simp only [VRs] at h; subst h; simpa using h'
  | d :: ds, es, xs, ys, h, h' => by
    simp only [VRs, List.cons_append] at h ⊢
    obtain ⟨x, r, rfl, q, s⟩ := h
    exact ⟨x, r ++ ys, rfl, q, vrs_app s h'⟩
theorem Ext.takeN (e : Ext ι H ι' H') {n : Nat} (h : ι.length ≤ n) : Ext ι H (ι'.take n) H' := by
  obtain ⟨t, rfl, f⟩ := e.pre
  refine ⟨⟨t.take (n - ι.length), by rw [List.take_append, List.take_of_length_le h], fun a ha => f a (List.mem_of_mem_take ha)⟩, e.frame, e.dom⟩
theorem wipe_wipe (σ : St) : ∀ vs : List Nat, wipe (wipe σ vs) vs = wipe σ vs
  | [] => rfl
  | v :: vs => by
    show wipe ((wipe σ vs).set v none) (v :: vs) = _
    rw [wipe_set (List.mem_cons_self)]
    show (wipe (wipe σ vs) vs).set v none = (wipe σ vs).set v none
    rw [wipe_wipe σ vs]
def Tlc (K : PySem.W.Frag) (E : EK) (f : SemE) : TE := T K E f
theorem lc_read {fi : SemI} {g : SemG} {tt : SemT} {te : SemE} {vs : List Nat} (m keep : Bool) {σ : St} {H : Hp} {Q : VK} (h : T K E (eLc m keep vs fi g tt te) σ H Q) :
    tLc (Ti K E fi) (Tgw K E0 vs g) (Tt K E0 tt) (T K E0 te) vs σ H Q := by
  obtain ⟨n0, ι, M, σd, b, q⟩ := h
  refine ⟨n0, ι, M, σd, b, (Wp.bind q).mono fun it ι1 M1 H1 p1 q1 J wk D hD => ?_⟩
  have b1 := b.to p1
  have l1 : ι1.length = M1.length := p1.sh.len
  have pD : Post K n0 ι1 M1 H1 (ι1 ++ [D]) (M1 ++ [.lst []]) (upd H1 D (.lst [])) := post_ref p1.sh hD (by simp only [VRs]) b1.le
  generalize hrest : (fun (_ : Unit) M2 => if m = true then Res.ok (DL.D.ref M1.length) M2 else match frz M1.length M2 (DL.D.ref M1.length), settle n0 M1.length [] M2 with | some d, some (_, M3) => Res.ok d M3 | _, _ => Res.stuck) = rest at q1
  have q1 : Wp K E n0 ι1 M1 H1 ((compL g tt te it keep M1.length n0 (wipeD σd vs) it.ds (M1 ++ [.lst []])).bind rest) (fun d ι' M' H' => ∀ v, VR K ι' H' d v → Q v H') := q1
  let W : Nat → Hp → Prop := fun i H => ∃ ι M, i ≤ it.ds.length ∧ Post K n0 ι1 M1 H1 ι M H ∧ ι[M1.length]? = some D ∧
    Wp K E n0 ι1 M1 H1 ((compL g tt te it keep M1.length n0 (wipeD σd vs) (it.ds.drop i) M).bind rest) (fun d ι' M' H' => ∀ v, VR K ι' H' d v → Q v H')
  refine ⟨fun i k H => k = it.ds.length - i ∧ W i H, ⟨_, rfl, ι1 ++ [D], M1 ++ [.lst []], Nat.zero_le _, pD, by rw [List.getElem?_append_right (by omega), l1]; simp, by rw [List.drop_zero]; exact q1⟩, ?_⟩
  rintro i k H ⟨rfl, ι, M, hi, P, hιD, wp⟩
  have bg : Bg K n0 ι M H (wipeD σd vs) (wipe σ vs) := ⟨Nat.le_trans b1.le P.keep.sz, P.keep.bel n0 (Nat.le_refl _) b1.bel, P.sh, (b1.er.ext P.ext).wipe vs⟩
  by_cases hlt : i < it.ds.length
  · right
    have e : it.ds.drop i = it.ds[i] :: it.ds.drop (i + 1) := List.drop_eq_getElem_cons hlt
    rw [e] at wp
    unfold compL at wp
    by_cases ck : it.chk M = true
    · rw [if_pos ck, Res.bind_assoc] at wp
      obtain ⟨t1, t2⟩ := wk.turn i it.ds[i] ι M H (List.getElem?_eq_getElem hlt) P.ext P.sh ck
      refine ⟨t1, fun H' => W (i + 1) H', fun H' w => ⟨it.ds.length - (i + 1), by omega, rfl, w⟩, fun x H' y => ?_⟩
      obtain ⟨y1, y2, y3⟩ := t2 x H' y
      have py : Post K n0 ι M H ι M H' := ⟨y1, y2, Keep.refl _ _⟩
      have Py := P.trans py
      refine ⟨n0, ι, M, wipeD σd vs, it.ds[i], bg.to py, y3, (Wp.shift Py (Wp.safe wp)).mono fun σ1 ι2 M2 H2 p2 q2 σ2 er ew => ⟨ew.trans (wipe_wipe σ vs), ?_⟩⟩
      rw [Res.bind_assoc] at q2
      have P2 := Py.trans p2
      have bg2 : Bg K n0 ι2 M2 H2 σ1 σ2 := (bg.to py).er' p2 er
      refine ⟨n0, ι2, M2, σ1, bg2, (Wp.shift P2 (Wp.safe q2)).mono fun bb ι3 M3 H3 p3 q3 => ?_⟩
      have P3 := P2.trans p3
      rw [Res.bind_assoc] at q3
      -- from a state on, the rest
      have next : ∀ (ι4 : Io) (M4 : Hep) (H4 : Hp), Post K n0 ι1 M1 H1 ι4 M4 H4 → ι4[M1.length]? = some D →
          Wp K E n0 ι1 M1 H1 ((if keep = true then compL g tt te it keep M1.length n0 (wipeD σd vs) (it.ds.drop (i + 1)) M4 else match settle n0 (M1.length + 1) (wipeD σd vs) M4 with | some (_, M5) => compL g tt te it keep M1.length n0 (wipeD σd vs) (it.ds.drop (i + 1)) M5 | none => Res.stuck).bind rest) (fun d ι' M' H' => ∀ v, VR K ι' H' d v → Q v H') → W (i + 1) H4 := by
        intro ι4 M4 H4 P4 hD4 w
        cases keep with
        | true => exact ⟨ι4, M4, hlt, P4, hD4, w⟩
        | false =>
          simp only [Bool.false_eq_true, if_false] at w
          cases hs : settle n0 (M1.length + 1) (wipeD σd vs) M4 with
          | none => rw [hs] at w; exact w.elim
          | some r =>
            obtain ⟨σ5, M5⟩ := r
            rw [hs] at w
            have hle : M1.length + 1 ≤ M4.length := by rw [← P4.sh.len]; exact (List.getElem?_eq_some_iff.mp hD4).1
            have er4 : ER K ι4 H4 (wipeD σd vs) (wipe σ vs) := (b1.er.ext P4.ext).wipe vs
            obtain ⟨s1, s2, s3, s4⟩ := settle_ok P4.sh er4 (P4.keep.bel n0 (Nat.le_refl _) b1.bel) (Nat.le_succ_of_le b1.le) hle hs
            refine ⟨ι4.take (M1.length + 1), M5, hlt, ⟨P4.ext.takeN (by omega), s1, ⟨by omega, fun n hn bl j ob hj ej => P4.keep.bel n hn bl j ob hj (by rw [← s4 j (by omega)]; exact ej)⟩⟩, by rw [List.getElem?_take_of_lt (Nat.lt_succ_self _)]; exact hD4, w⟩
      cases bb with
      | false =>
        refine iteF (next ι3 M3 H3 P3 ((p3.ext.get (p2.ext.get (hιD)))) ?_)
        exact q3
      | true =>
        refine iteT ?_
        rw [if_pos rfl, Res.bind_assoc] at q3
        refine ⟨n0, ι3, M3, σ1, bg2.to p3, (Wp.shift P3 (Wp.safe q3)).mono fun yd ι4 M4 H4 p4 q4 y hy => ?_⟩
        have P4 := P3.trans p4
        have hD4 : ι4[M1.length]? = some D := p4.ext.get (p3.ext.get (p2.ext.get hιD))
        unfold pushAt at q4
        cases hM : M4[M1.length]? with
        | none => rw [hM] at q4; exact q4.elim
        | some ob =>
          cases ob with
          | dct ks vs => rw [hM] at q4; exact q4.elim
          | lst acc =>
            rw [hM] at q4
            obtain ⟨xs, hx1, hx2⟩ := P4.sh.ob _ _ _ hM hD4
            simp only at q4
            by_cases hz : acc.length < sizeLine
            · rw [if_pos hz] at q4
              refine ⟨xs, hx1, by rw [← vrs_len hx2]; exact hz, ?_⟩
              have pm : Post K n0 ι4 M4 H4 ι4 (M4.set M1.length (.lst (acc ++ [yd]))) (upd H4 D (.lst (xs ++ [y]))) := post_mut P4.sh hD4 hx1 (vrs_app hx2 (by simp only [VRs]; exact ⟨y, [], rfl, hy, rfl⟩)) (.inl b1.le)
              exact next ι4 _ _ (P4.trans pm) hD4 q4
            · rw [if_neg hz] at q4
              exact q4.elim
    · rw [if_neg ck] at wp
      exact wp.elim
  · left
    have e : i = it.ds.length := by omega
    subst e
    rw [List.drop_length] at wp
    unfold compL at wp
    by_cases ck : it.chk M = true
    · rw [if_pos ck] at wp
      refine ⟨wk.stop ι M H P.ext P.sh ck, ?_⟩
      have wp : Wp K E n0 ι1 M1 H1 (rest () M) (fun d ι' M' H' => ∀ v, VR K ι' H' d v → Q v H') := wp
      rw [← hrest] at wp
      have vD : VR K ι H (.ref M1.length) (.ref D) := by simp only [VR]; exact ⟨D, rfl, hιD⟩
      cases m with
      | true =>
        simp only [if_true] at wp
        exact wp ι H P _ vD
      | false =>
        simp only [Bool.false_eq_true, if_false] at wp
        cases hf : frz M1.length M (.ref M1.length) with
        | none => rw [hf] at wp; exact wp.elim
        | some d =>
          cases hs : settle n0 M1.length [] M with
          | none => rw [hf, hs] at wp; exact wp.elim
          | some r =>
            obtain ⟨σ5, M5⟩ := r
            rw [hf, hs] at wp
            have hle : M1.length ≤ M.length := P.keep.sz
            obtain ⟨s1, s2, s3, s4⟩ := settle_ok (σ := []) P.sh ⟨rfl, fun i d h => by simp at h⟩ (P.keep.bel n0 (Nat.le_refl _) b1.bel) b1.le hle hs
            have et : ι.take M1.length = ι1 := by rw [← l1]; exact P.ext.take_eq
            have vd := vr_frz P.sh M1.length hf vD
            rw [et] at s1 vd
            have ex : Ext ι1 H1 ι1 H := by have := P.ext.take; rw [P.ext.take_eq] at this; exact this
            exact wp ι1 H ⟨ex, s1, ⟨by omega, fun n hn bl j ob hj ej => P.keep.bel n hn bl j ob hj (by rw [← s4 j (by omega)]; exact ej)⟩⟩ _ vd
    · rw [if_neg ck] at wp
      exact wp.elim
end
end DL

namespace DL
open PySem PySem.Spec PyProof.Rows L2
section
variable {K : PySem.W.Frag} {E : EK} {ι ι' : Io} {H H' : Hp} {M M' : Hep} {n0 : Nat}
theorem vrs_get : ∀ {ds : List D} {xs : List V} {i : Nat} {d : D}, VRs K ι H ds xs → ds[i]? = some d → ∃ x, xs[i]? = some x ∧ VR K ι H d x
  | [], xs, i, d, h, e => by simp at e
  | d0 :: ds, xs, i, d, h, e => by
    simp only [VRs] at h
    obtain ⟨x, r, rfl, q, s⟩ := h
    cases i with
    | zero => simp at e; subst e; exact ⟨x, by simp, q⟩
    | succ i => simpa using vrs_get s (by simpa using e)
theorem PI.or {X : Cx} {tg e : Expr} {w1 w2 : TI} (h1 : PI X tg e w1) (h2 : PI X tg e w2) : PI X tg e (fun σ H R => w1 σ H R ∨ w2 σ H R) := ⟨fun pins s σ H R I h => h.elim (fun h => h1.run pins s σ H R I h) (fun h => h2.run pins s σ H R I h)⟩
theorem PI.to {X : Cx} {tg e : Expr} {w w' : TI} (h : PI X tg e w) (i : ∀ σ H R, w' σ H R → w σ H R) : PI X tg e w' := ⟨fun pins s σ H R I q => h.run pins s σ H R I (i σ H R q)⟩
theorem walks_lf {ds : List D} {a : Addr} {xs : List V} (h : LF ι H a xs) (r : VRs K ι H ds xs) : Walks K (Itl K a) ⟨ds, none⟩ ι H where
  stop := fun ι' M' H' e s _ => ⟨xs, (h.ext e).sq, by rw [← vrs_len r]; exact Nat.le_refl _⟩
  turn := fun i d ι' M' H' hd e s _ => by
    obtain ⟨x, q1, q2⟩ := vrs_get r hd
    refine ⟨⟨xs, x, (h.ext e).sq, q1⟩, fun y H2 ⟨e2, q⟩ => ?_⟩
    subst e2
    have := q xs (h.ext e).sq
    rw [q1] at this; cases this
    exact ⟨Ext.refl _ _, s, q2.ext e⟩
theorem walks_fz {ds : List D} {a : Addr} {xs : List V} (h : LL K ι H a xs) (r : VRs K ι H ds xs) : Walks K (Itl K a) ⟨ds, none⟩ ι H where
  stop := fun ι' M' H' e s _ => ⟨xs, (h.ext e).sq, by rw [← vrs_len r]; exact Nat.le_refl _⟩
  turn := fun i d ι' M' H' hd e s _ => by
    obtain ⟨x, q1, q2⟩ := vrs_get r hd
    refine ⟨⟨xs, x, (h.ext e).sq, q1⟩, fun y H2 ⟨e2, q⟩ => ?_⟩
    subst e2
    have := q xs (h.ext e).sq
    rw [q1] at this; cases this
    exact ⟨Ext.refl _ _, s, q2.ext e⟩
theorem walks_tup {ds : List D} {a : Addr} {xs : List V} (h : TT K ι H a xs) (r : VRs K ι H ds xs) : Walks K (Itt K a) ⟨ds, none⟩ ι H where
  stop := fun ι' M' H' e s _ => ⟨xs, (h.ext e).sq, by rw [← vrs_len r]; exact Nat.le_refl _⟩
  turn := fun i d ι' M' H' hd e s _ => by
    obtain ⟨x, q1, q2⟩ := vrs_get r hd
    refine ⟨⟨xs, x, (h.ext e).sq, q1⟩, fun y H2 ⟨e2, q⟩ => ?_⟩
    subst e2
    have := q xs (h.ext e).sq
    rw [q1] at this; cases this
    exact ⟨Ext.refl _ _, s, q2.ext e⟩
theorem chk_ref {ds fs : List D} {m : Nat} {M : Hep} (h : (Itm.mk fs (some (m, ds))).chk M = true) : M[m]? = some (.lst ds) := by
  unfold Itm.chk at h
  simp only at h
  split at h
  · rename_i es e
    rw [e, D.eqs_of _ _ h]
  · cases h
theorem walks_ref {ds : List D} {m : Nat} {a : Addr} (hm : ι[m]? = some a) : Walks K (Itl K a) ⟨ds, some (m, ds)⟩ ι H where
  stop := fun ι' M' H' e s c => by
    obtain ⟨xs, h1, h2⟩ := s.ob m _ a (chk_ref c) (e.get hm)
    exact ⟨xs, .inl (.inl h1), by rw [← vrs_len h2]; exact Nat.le_refl _⟩
  turn := fun i d ι' M' H' hd e s c => by
    obtain ⟨xs, h1, h2⟩ := s.ob m _ a (chk_ref c) (e.get hm)
    obtain ⟨x, q1, q2⟩ := vrs_get h2 hd
    refine ⟨⟨xs, x, .inl (.inl h1), q1⟩, fun y H2 ⟨e2, q⟩ => ?_⟩
    subst e2
    have := q xs (.inl (.inl h1))
    rw [q1] at this; cases this
    exact ⟨Ext.refl _ _, s, q2⟩
def charsOf (cs : List Nat) : List D := cs.map fun c => .str [c]
theorem walks_str {cs : List Nat} : Walks K (Its ⟨cs.toArray⟩) ⟨charsOf cs, none⟩ ι H where
  stop := fun ι' M' H' e s _ => by show _ ≤ _; simp [charsOf]
  turn := fun i d ι' M' H' hd e s _ => by
    simp only [charsOf, List.getElem?_map, Option.map_eq_some_iff] at hd
    obtain ⟨c, h1, rfl⟩ := hd
    refine ⟨by have := (List.getElem?_eq_some_iff.mp h1).1; show i < _; simpa using this, fun y H2 ⟨e2, c', h2, e3⟩ => ?_⟩
    subst e2 e3
    have : c' = c := by
      rw [List.getElem?_toArray, h1] at h2; cases h2; rfl
    subst this
    exact ⟨Ext.refl _ _, s, by simp only [VR]⟩
def intsFrom (lo : Int) (n : Nat) : List D := (List.range n).map fun i => .int (lo + (i : Nat))
theorem walks_range {lo : Int} {n : Nat} : Walks K (Itr lo n) ⟨intsFrom lo n, none⟩ ι H where
  stop := fun ι' M' H' e s _ => by show _ ≤ _; simp [intsFrom]
  turn := fun i d ι' M' H' hd e s _ => by
    simp only [intsFrom, List.getElem?_map, Option.map_eq_some_iff] at hd
    obtain ⟨c, h1, rfl⟩ := hd
    have hi : i < n := by have := (List.getElem?_eq_some_iff.mp h1).1; simpa using this
    have : c = i := by rw [List.getElem?_range hi] at h1; cases h1; rfl
    subst this
    exact ⟨hi, fun y H2 ⟨e2, e3⟩ => by subst e2 e3; exact ⟨Ext.refl _ _, s, by simp only [VR]⟩⟩

/-- what a for walks: a list, a tuple, a text -/
def itmOf (d : D) (M : Hep) : Option Itm := match d with
  | .fz ds => some ⟨ds, none⟩
  | .ro ds => some ⟨ds, none⟩
  | .tup ds => some ⟨ds, none⟩
  | .str cs => some ⟨charsOf cs, none⟩
  | .ref m => match M[m]? with
    | some (.lst ds) => some ⟨ds, some (m, ds)⟩
    | _ => none
  | _ => none
def iSeq (a : SemE) : SemI := fun n σ M => (a n σ M).bind fun d M1 => .of (itmOf d M1) M1
theorem I_seq {X : Cx} {tg e : Expr} {f : SemE} (hK : X.K = K) (he : PE X e (T K E f)) : PI X tg e (Ti K E (iSeq f)) :=
  PI.to (PI.or (pi_list he) (PI.or (pi_tup he) (pi_str he))) fun σ H R ⟨n0, ι, M, σd, b, q⟩ => by
    rw [hK]
    unfold iSeq at q
    have q := Wp.bind2 q
    cases hr : f n0 σd M with
    | stuck => rw [hr] at q; exact q.elim
    | err c M1 => rw [hr] at q; exact .inl ⟨n0, ι, M, σd, b, by rw [hr]; exact q⟩
    | ok d M1 =>
      rw [hr] at q
      cases d with
      | fz ds =>
        left
        refine ⟨n0, ι, M, σd, b, ?_⟩
        rw [hr]
        intro ι' H' p v hv
        simp only [VR] at hv
        obtain ⟨a, xs, rfl, h1, h2⟩ := hv
        exact ⟨a, rfl, ⟨xs, h1.sq⟩, q ι' H' p ι' H' p _ (walks_lf h1 h2)⟩
      | ro ds =>
        left
        refine ⟨n0, ι, M, σd, b, ?_⟩
        rw [hr]
        intro ι' H' p v hv
        simp only [VR] at hv
        obtain ⟨a, xs, rfl, h1, h2⟩ := hv
        exact ⟨a, rfl, ⟨xs, h1.sq⟩, q ι' H' p ι' H' p _ (walks_fz h1 h2)⟩
      | ref m =>
        left
        refine ⟨n0, ι, M, σd, b, ?_⟩
        rw [hr]
        intro ι' H' p v hv
        simp only [VR] at hv
        obtain ⟨a, rfl, h1⟩ := hv
        have q2 := q ι' H' p
        simp only [itmOf] at q2
        cases hm : M1[m]? with
        | none => rw [hm] at q2; exact q2.elim
        | some ob =>
          cases ob with
          | dct ks vs => rw [hm] at q2; exact q2.elim
          | lst ds =>
            rw [hm] at q2
            obtain ⟨xs, h2, h3⟩ := p.sh.ob m _ a hm h1
            exact ⟨a, rfl, ⟨xs, .inl (.inl h2)⟩, q2 ι' H' p _ (walks_ref h1)⟩
      | tup ds =>
        right; left
        refine ⟨n0, ι, M, σd, b, ?_⟩
        rw [hr]
        intro ι' H' p v hv
        simp only [VR] at hv
        obtain ⟨a, xs, rfl, h1, h2⟩ := hv
        exact ⟨a, rfl, ⟨xs, h1.sq⟩, q ι' H' p ι' H' p _ (walks_tup h1 h2)⟩
      | str cs =>
        right; right
        refine ⟨n0, ι, M, σd, b, ?_⟩
        rw [hr]
        intro ι' H' p v hv
        simp only [VR] at hv
        subst hv
        exact ⟨_, rfl, q ι' H' p ι' H' p _ walks_str⟩
      | _ =>
        left
        refine ⟨n0, ι, M, σd, b, ?_⟩
        rw [hr]
        exact fun ι' H' p v hv => (q ι' H' p).elim
end
end DL

namespace DL
open PySem PySem.Spec PyProof.Rows L2
/-- a def keeps a promise where nothing is being written out (the guards are empty) -/
structure FnG (P : Program) (w : World) (K : PySem.W.Frag) (mg : Str → Option Value) (base : Heap)
    (k : Nat) (f : Addr) (fd : FuncData) (ps : List Str) (sp : Sp) : Prop where
  len : ∀ vs H Q E, sp vs H Q E → vs.length = ps.length
  run : ∀ (A : Around) (ou : List Env) (s : Shared) (H : Hp) (ar : Args) (us : List Value) (vs : List V) (Q : VK) (E : XK),
    A.guards = some [] → Room k A → Env0 P w K mg base A ou s H → BindsTo s fd ar (ps.zip us) →
    Vals vs us → sp vs H Q E → codeAny (model P w) A (.call (.ref f) ar) (CR (L2.CX P w) ou P w H s Q E) s
section
variable {P : Program} {w : World} {K : PySem.W.Frag} {mg : Str → Option Value} {base : Heap}
theorem FnG.mono {j k : Nat} {f : Addr} {fd : FuncData} {ps : List Str} {sp : Sp}
    (F : FnG P w K mg base j f fd ps sp) (h : j ≤ k) : FnG P w K mg base k f fd ps sp :=
  ⟨F.len, fun A ou s H ar us vs Q E g r => F.run A ou s H ar us vs Q E g (r.mono h)⟩
theorem FnG.imp {k : Nat} {f : Addr} {fd : FuncData} {ps : List Str} {sp sp' : Sp}
    (F : FnG P w K mg base k f fd ps sp) (h : ∀ vs H Q E, sp' vs H Q E → sp vs H Q E) : FnG P w K mg base k f fd ps sp' :=
  ⟨fun vs H Q E q => F.len vs H Q E (h _ _ _ _ q), fun A ou s H ar us vs Q E g r e b v q => F.run A ou s H ar us vs Q E g r e b v (h _ _ _ _ q)⟩
/-- a def of the text, by its body -/
theorem fnG_of {x qual : Str} {st : Stmt} {f : Addr} {fd : FuncData} {N ps : List Str} {k : Nat} {sp : Sp}
    (F : Fun K x qual st f fd) (S : FnScope N ps (defScope st)) (len : ∀ vs H Q E, sp vs H Q E → vs.length = ps.length)
    (hb : ∀ (cdv : Value) (A : Around) (ou : List Env) (s : Shared) (H : Hp) (vs : List V) (Q : VK) (E : XK), A.guards = some [] →
      Room k (A.deeper (envOfC qual (defScope st) s.heap.objs.size f cdv)) → sp vs H Q E →
      ∃ t, PSs (cxOf (L2.CX P w) P w K mg base N qual (defScope st) f cdv A ou s H E) (defBody st) t ∧
        t { nx := fun _ H' => Q .non H', rt := Q } (L2.start N vs) H) :
    FnG P w K mg base (k + 1) f fd ps sp := by
  obtain ⟨oc, od, kV, doc, pm, an, cdv, ct, osl, rfl, lk, hcd⟩ := F.ex
  refine ⟨len, ?_⟩
  intro A ou s H ar us vs Q E hg hr e0 bnd rv hsp
  have hlen := len _ _ _ _ hsp
  have old : ∀ b o, base.get? b = some o → s.heap.get? b = some o := fun b o e => (e0.bs b o e).1
  have kin : K.In s.heap := e0.mod.kin.keeps old
  have nol : s.heap.NoLimit := e0.mod.nolimit.keeps old
  have kinds : ∀ y ∈ ps.zip us, (defScope st).names.lookup y.1 = some .local ∨
      ((defScope st).names.lookup y.1 = some .cell ∧ ((cellsFrom (s.heap.objs.size + 1) (defScope st).names []).lookup y.1).isSome = true) := by
    rintro ⟨n, v⟩ hy
    have hm := (List.of_mem_zip hy).1
    rcases S.par n hm with q | q
    · left; exact q
    · right; exact ⟨q, PySem.W.cellsFrom_some _ _ _ (.inl q)⟩
  refine codeAny_call_function hr.depth (kin _ _ lk) rfl S.co S.gen rfl (PySem.W.codeRec_of kin hcd) (bnd _ _ _ _ ?_)
  refine wpAny_newFunctionEnv_cells S.kind kinds fun env henv st1 hin => ?_
  subst henv
  have nol1 := nol.keeps hin.toInCall.keep
  refine ⟨nol1, codeAny_func ?_⟩
  obtain ⟨t, ht, hq⟩ := hb cdv A ou s H vs Q E hg (hr.deeper _) hsp
  have inv := inv_start (CX := L2.CX P w) (E := E) S hr.hd e0 hlen rv hin
  refine wpAny_mono (ht.run [] st1 _ H _ inv hq) (fun fl st2 hfl => ?_) fun e st2 he => he
  cases fl with
  | ret u => obtain ⟨v, τ, H', J, r1, q1⟩ := hfl; exact ⟨v, H', J.os, J.bare, J.base, J.hok, r1, q1⟩
  | next => obtain ⟨τ, H', J, q1⟩ := hfl; exact ⟨.non, H', J.os, J.bare, J.base, J.hok, rfl, q1⟩
  | brk => obtain ⟨_, _, _, q1⟩ := hfl; exact q1.elim
  | cont => obtain ⟨_, _, _, q1⟩ := hfl; exact q1.elim
end
section
variable {X : Cx} {k : Nat} {f : Addr} {fd : FuncData} {ps : List Str} {sp : Sp} {E : XK} {x : Str} {p pos : Pos}
theorem run_G {pins : List (Addr × Obj)} {σ : L2.St} {H : Hp} {s : Shared} {Q : VK} {us : List Value} {vs : List V}
    (F : FnG X.prog X.w X.K X.mg X.base k f fd ps sp) (hg : X.A.guards = some []) (hr : Room k X.A) (hb : Binds X.K fd ps [])
    (hx : Passes (L2.CX X.prog X.w) X E) (I : Inv X pins σ H s) (r : Vals vs us) (h : sp vs H Q E) :
    wpAny (model X.prog X.w) X.A (call (.ref f) us) (EP X pins σ Q) X.xe s := by
  have hl : us.length = ps.length := by rw [← r.length]; exact F.len _ _ _ _ h
  have b := hb s us I.kIn (by simpa using hl)
  rw [List.append_nil] at b
  refine wpAny_call (codeAny_mono (F.run X.A X.stack s H ⟨us, []⟩ us vs Q E hg hr I.env0 b r h) ?_)
  intro res s' hq
  cases res with
  | error e => exact hx pins σ H s e s' I hq
  | ok fl =>
    cases fl with
    | ret u => exact I.after hq
    | next => exact hq.elim
    | brk => exact hq.elim
    | cont => exact hq.elim
theorem call_G {e : Expr} {es : List Expr} {t : TA} (F : FnG X.prog X.w X.K X.mg X.base k f fd ps sp)
    (hg : X.A.guards = some []) (hr : Room k X.A) (gl : Gl X x) (hm : X.mg x = some (.ref f))
    (hk : PySem.W.keepIn X.K (.ref f) = true) (hb : Binds X.K fd ps []) (hx : Passes (L2.CX X.prog X.w) X E)
    (ha : PA X (e :: es) t) (hd : (x == ("__debug__" : Str)) = false)
    (he : starEach (e :: es) X.env = (false, eval e X.env) :: starEach es X.env)
    (hpl : (backTo pos (starEach es X.env)).any (·.1) = false) :
    PE X (.Call (.Name x p) (e :: es) [] pos) (tCall sp [] E t) := by
  constructor
  intro pins s σ H Q I h
  apply wpAny_Call_Name_kw
  refine ld_glob I gl hm ?_ hd
  have arg := thn (ha.run pos pins s σ H _ I h) fun us s1 ⟨vs, H1, I1, r, q⟩ =>
    (⟨I1.kIn, run_G F hg hr hb hx I1 r (by have q' : sp (vs ++ []) H1 Q E := q; rwa [List.append_nil] at q')⟩ : _ ∧ wpAny (model X.prog X.w) X.A (call (.ref f) us) (EP X pins σ Q) X.xe s1)
  exact PySem.W.callWith_K (h₀ := X.base) I.ok.mod.kin hk arg he hpl
theorem call0_G (F : FnG X.prog X.w X.K X.mg X.base k f fd ps sp)
    (hg : X.A.guards = some []) (hr : Room k X.A) (gl : Gl X x) (hm : X.mg x = some (.ref f))
    (hk : PySem.W.keepIn X.K (.ref f) = true) (hb : Binds X.K fd ps []) (hx : Passes (L2.CX X.prog X.w) X E)
    (hd : (x == ("__debug__" : Str)) = false) : PE X (.Call (.Name x p) [] [] pos) (tCall sp [] E tNil) := by
  constructor
  intro pins s σ H Q I h
  apply wpAny_Call_Name_kw
  refine ld_glob I gl hm ?_ hd
  exact PySem.W.callWith_K0 I.kIn hk (run_G (us := []) F hg hr hb hx I .nil h)
end
/-- what a law promises: True of every script -/
def spLaw (K : PySem.W.Frag) : Sp := fun vs H Q _ => ∃ (a : Addr) (ns : List Int), vs = [.ref a] ∧ SqL K H a (ns.map V.int) ∧ ns.length ≤ 63 ∧ Only H ∧ ∀ H', Q (.bl true) H'
/-- the law's call, behind the top -/
theorem law_G {P : Program} {w : World} {K : PySem.W.Frag} {mg mb : Str → Option Value} {k : Nat} {fa a : Addr}
    {fd : FuncData} {x : Str} {t : Shared} {us : List Value} {ns : List Int}
    (kin : K.In t.heap) (gns : t.heap.Ns mainGlobals mg) (bns : t.heap.Ns builtinsNs mb)
    (bbt : ∀ x : Str, x ≠ "__name__" → mb x = bootBuiltins x) (lim : t.heap.NoLimit) (gen : t.gens = #[])
    (at' : t.heap.get? a = some { cls := .type "list", data := .seq us.toArray }) (int : IntsAre us ns) (len : ns.length ≤ 63)
    (room : Room k callerA)
    (F : ∀ base : Heap, K.In base → base.Ns mainGlobals mg → FnG P w K mg base k fa fd [x] (spLaw K))
    (bnd : ∀ (s : Shared) (u : Value), BindsTo s fd ⟨[u], []⟩ [(x, u)]) :
    codeAny (model P w) callerA (.call (.ref fa) ⟨[.ref a], []⟩)
      (fun r s' => r = .ok (.ret (.bool true)) ∧ OldK t.heap s'.heap ∧ s'.os = t.os ∧ AllBare s'.gens) t := by
  have vals := vals_ints int
  have lenU := int.length
  have small : ns.length ≤ sizeLine := Nat.le_trans len (by decide)
  have main : ∀ H : Hp, Only H → SqL K H a (ns.map V.int) → HOk P w H t.heap → (∀ b, H b ≠ none → b = a) → (H a ≠ none → K.lookup a = none) →
      codeAny (model P w) callerA (.call (.ref fa) ⟨[.ref a], []⟩)
        (fun r s' => r = .ok (.ret (.bool true)) ∧ OldK t.heap s'.heap ∧ s'.os = t.os ∧ AllBare s'.gens) t := by
    intro H only seq ok onlyA noK
    have lift : ∀ {b : Addr} {o : Obj}, t.heap.get? b = some o → H b = none → (hidT t.heap H).get? b = some o := fun e n => hidT_get e n
    have free : ∀ {b : Addr} {o : Obj} {es : Array DictEntry} {ep : Nat}, t.heap.get? b = some o → o.data = .dict es ep → H b = none := by
      intro b o es ep e d
      cases q : H b with
      | none => rfl
      | some u =>
        have eb : b = a := onlyA b (by rw [q]; simp)
        rw [eb, at'] at e
        cases e
        cases d
    have nsOf : ∀ {b : Addr} {m : Str → Option Value}, t.heap.Ns b m → (hidT t.heap H).Ns b m := by
      rintro b m ⟨o, es, ep, e, d, r⟩
      exact ⟨o, es, ep, lift e (free e d), d, r⟩
    have kinB : K.In (hidT t.heap H) := by
      intro b o e
      refine lift (kin b o e) ?_
      cases q : H b with
      | none => rfl
      | some u =>
        have eb : b = a := onlyA b (by rw [q]; simp)
        rw [eb] at e
        rw [noK (by rw [← eb, q]; simp)] at e
        cases e
    have mod : Mod K mg (hidT t.heap H) := ⟨kinB, nsOf gns, ⟨mb, nsOf bns, bbt⟩, let ⟨mc, l1, l2⟩ := lim; ⟨mc, nsOf l1, l2⟩⟩
    have env0 : Env0 P w K mg (hidT t.heap H) callerA [] t H :=
      ⟨rfl, mod, fun b o e => of_hidT e, Nat.le_of_eq (hidT_size _ _), trivial, fun b hb => (nomatch hb), ok, .of_eq gen⟩
    have call := (F _ kinB (nsOf gns)).run callerA [] t H ⟨[.ref a], []⟩ [.ref a] [.ref a] (fun v _ => v = .bl true) (fun _ _ _ => False)
      rfl room env0 (bnd t (.ref a)) (.cons rfl .nil) ⟨a, ns, rfl, seq, len, only, fun _ => rfl⟩
    refine codeAny_mono call ?_
    intro res st hres
    cases res with
    | error e =>
      obtain ⟨_, _, _, _, _, _, _, _, _, _, _, _, bad⟩ := hres
      exact bad.elim
    | ok fl =>
      cases fl with
      | next => exact hres.elim
      | brk => exact hres.elim
      | cont => exact hres.elim
      | ret u =>
        obtain ⟨v, H', os, bare, un, ok', rel, q⟩ := hres
        have q : v = .bl true := q
        rw [q] at rel
        have eu : u = Value.bool true := rel
        rw [eu]
        refine ⟨rfl, OldK.of_keep ?_, os, bare⟩
        intro b o e
        cases hb : H b with
        | none => exact un.keep b o e hb (by intro z; cases z) (by intro z; cases z)
        | some u' =>
          rcases only b with z | ⟨ob, zs, z⟩
          · rw [hb] at z; cases z
          · obtain ⟨g1, _⟩ := ok b _ z
            obtain ⟨g2, _⟩ := ok' b _ (un.frzs b ob _ z)
            rw [e] at g1
            cases g1
            exact g2
  cases hk : K.lookup a with
  | some o =>
    have e := kin a o hk
    rw [at'] at e
    cases e
    have seq : SqL K (fun _ => none) a (ns.map V.int) :=
      .inr ⟨_, us.toArray, _, hk, rfl, rfl, rfl, by rw [List.size_toArray, lenU]; exact small, by simpa using vals⟩
    exact main (fun _ => none) (fun _ => .inl rfl) seq (fun b u z => by cases z) (fun b z => absurd rfl z) fun z => absurd rfl z
  | none =>
    let Hs : Hp := fun b => if b = a then some (.frz { cls := .type "list", data := .seq us.toArray } (.lst (ns.map V.int))) else none
    have at_a : Hs a = some (.frz { cls := .type "list", data := .seq us.toArray } (.lst (ns.map V.int))) := if_pos rfl
    have off : ∀ b, b ≠ a → Hs b = none := fun b hb => if_neg hb
    refine main Hs (fun b => ?_) (.inl (.inr ⟨_, at_a⟩)) (fun b u z => ?_) (fun b z => ?_) fun _ => hk
    · by_cases hb : b = a
      · rw [hb]; exact .inr ⟨_, _, at_a⟩
      · exact .inl (off b hb)
    · by_cases hb : b = a
      · subst hb
        rw [at_a] at z
        cases z
        exact ⟨at', by rw [List.length_map]; exact small, us, _, vals, at'⟩
      · rw [off b hb] at z; cases z
    · by_cases hb : b = a
      · exact hb
      · exact absurd (off b hb) z
/-- the end -/
theorem walkG {l : PySem.W.OpenLaw} {q : Program} {loose : List Str} {XP : (Str → Option Value) → Heap → Prop} {YP : World → Heap → Prop}
    {d : DefRec} {K : Params → PySem.W.Frag} {k : Nat} {x : Str} (room : Room k callerA) (most : l.most = some 63) (dflt : d.params.defaults = [])
    (hY : ∀ (w : World) (h : Heap), YP w h → (K w.params).In h)
    (F : ∀ (w : World) (mg : Str → Option Value) (fa : Addr) (h : Heap), (K w.params).In h → h.Ns mainGlobals mg → mg d.name = some (.ref fa) →
      ∃ fd : FuncData, (∀ (s : Shared) (u : Value), BindsTo s fd ⟨[u], []⟩ [(x, u)]) ∧
        ∀ base : Heap, (K w.params).In base → base.Ns mainGlobals mg → FnG l.prog w (K w.params) mg base k fa fd [x] (spLaw (K w.params))) :
    PySem.W.WalkO q loose XP YP l.row.toRowW d [] (fun f vs => PySem.call f vs) := by
  refine Att.attach_call most dflt ?_
  intro w s₀ t mg mb fa o pm cd doc a us ns G Y ho hd hcd hmg hobj hints hlen hg
  have kin := hY w _ Y
  obtain ⟨fd, bnd, promise⟩ := F w mg fa _ kin G.T.g hmg
  exact law_G kin G.T.g G.T.b G.T.builtins G.T.nolimit hg hobj hints hlen room promise bnd
end DL

namespace DL
open PySem PySem.Spec PyProof.Rows L2
abbrev DFun := List D → Hep → Res D
def finish (gc : Bool) (n : Nat) (r : Res D) : Res D := if gc then match r with
  | .ok d M1 => match frz n M1 d with
    | some e => .ok e (M1.take n)
    | none => .stuck
  | .err c M1 => .err c (M1.take n)
  | .stuck => .stuck else r
def told (r : Res (Fl × Sl)) : Res D := r.bind fun p M1 => match p.1 with
  | .nx => .ok .non M1
  | .rt d => .ok d M1
  | _ => .stuck
/-- a def as a function of data: gc: what it made and does not hand back is forgotten -/
def runF (gc : Bool) (nN np : Nat) (body : SemS) : DFun := fun ds M => if ds.length = np then finish gc M.length (told (body M.length (ds.map some ++ List.replicate (nN - np) none) M)) else .stuck
abbrev EKof (C : Str → Addr) (E : XK) : EK := fun c _ _ H' => E (.ref (C c)) none H'
def spD (K : PySem.W.Frag) (C : Str → Addr) (np : Nat) (F : DFun) : Sp := fun vs H Q E => vs.length = np ∧ ∃ ι M ds, SH K ι M H ∧ VRs K ι H ds vs ∧
  Wp K (EKof C E) M.length ι M H (F ds M) fun d ι' M' H' => ∀ v, VR K ι' H' d v → Q v H'
section
variable {K : PySem.W.Frag} {C : Str → Addr} {ι ι' : Io} {H H' : Hp} {M M' : Hep} {n0 : Nat}
theorem Wp.wide {α : Type} {E : EK} {n : Nat} {r : Res α} {k : α → Io → Hep → Hp → Prop} (hn : n0 ≤ n) (h : Wp K E n0 ι M H r k) : Wp K E n ι M H r k := by
  cases r with
  | ok a M' => exact fun ι' H' p => h ι' H' ⟨p.ext, p.sh, p.keep.mono hn⟩
  | err c M' => exact fun ι' H' p => h ι' H' ⟨p.ext, p.sh, p.keep.mono hn⟩
  | stuck => exact h
theorem post_take (s : SH K ι M H) (p : Post K M.length ι M H ι' M' H') : Post K M.length ι M H (ι'.take M.length) (M'.take M.length) H' := by
  have hl := s.len
  have sz := p.keep.sz
  have bel := p.keep.bel _ (Nat.le_refl _) s.bel
  refine ⟨p.ext.takeN (by omega), ⟨p.sh.nd.sublist (List.take_sublist _ _), by simp [p.sh.len], fun n ob a e1 e2 => ?_⟩, by simp; omega, fun n hn b i ob hi e => ?_⟩
  · have hi : n < M.length := by
      have := (List.getElem?_eq_some_iff.mp e1).1
      simp at this; omega
    rw [List.getElem?_take_of_lt hi] at e1 e2
    have o := p.sh.ob n ob a e1 e2
    have l := bel n ob hi e1
    cases ob with
    | lst ds =>
      obtain ⟨xs, h1, h2⟩ := o
      exact ⟨xs, h1, vrs_low (Nat.le_refl _) ds xs l h2⟩
    | dct ks vs =>
      obtain ⟨xs, h1, h2, h3⟩ := o
      have l' : (lows M.length ks && lows M.length vs) = true := l
      simp only [Bool.and_eq_true] at l'
      exact ⟨xs, h1, vrs_low (Nat.le_refl _) ks _ l'.1 h2, vrs_low (Nat.le_refl _) vs _ l'.2 h3⟩
  · rw [List.getElem?_take_of_lt (by omega)] at e
    exact p.keep.bel n hn b i ob hi e
theorem wp_finish {E : XK} {gc : Bool} {r : Res D} {Q : VK} (s : SH K ι M H) (h : Wp K (EKof C E) M.length ι M H (finish gc M.length r) fun d ι' M' H' => ∀ v, VR K ι' H' d v → Q v H') :
    Wp K (EKof C E) M.length ι M H r fun d ι' M' H' => ∀ v, VR K ι' H' d v → Q v H' := by
  cases gc with
  | false => exact h
  | true =>
    unfold finish at h
    rw [if_pos rfl] at h
    cases r with
    | stuck => exact h
    | err c M1 => exact fun ι' H' p => h _ H' (post_take s p)
    | ok d M1 =>
      intro ι' H' p v hv
      simp only at h
      cases hf : frz M.length M1 d with
      | none => rw [hf] at h; exact h.elim
      | some e =>
        rw [hf] at h
        exact h _ H' (post_take s p) v (vr_frz p.sh M.length hf hv)
theorem er_start {ds : List D} {vs : List V} (h : VRs K ι H ds vs) (N : List Str) : ER K ι H (ds.map some ++ List.replicate (N.length - ds.length) none) (start N vs) := by
  have hl := vrs_len h
  refine ⟨by simp [L2.start, hl], fun i d e => ?_⟩
  by_cases z : i < ds.length
  · rw [List.getElem?_append_left (by simpa using z)] at e
    simp only [List.getElem?_map, Option.map_eq_some_iff] at e
    obtain ⟨d', e1, e2⟩ := e
    cases e2
    obtain ⟨x, e3, e4⟩ := vrs_get h e1
    exact ⟨x, by unfold L2.start; rw [List.getElem?_append_left (by simp; omega)]; simp [e3], e4⟩
  · rw [List.getElem?_append_right (by simp; omega), List.getElem?_replicate] at e
    split at e <;> cases e
variable {P : Program} {w : World} {mg : Str → Option Value} {base : Heap}
/-- THE RULE for a def -/
theorem fn_ok {x qual : Str} {st : Stmt} {f : Addr} {fd : FuncData} {N ps : List Str} {k : Nat} {gc : Bool} {body : SemS} (Fn : Fun K x qual st f fd) (S : FnScope N ps (defScope st))
    (hb : ∀ (cdv : Value) (A : Around) (outer : List Env) (s : Shared) (H : Hp) (E : XK), A.guards = some [] → Room k (A.deeper (envOfC qual (defScope st) s.heap.objs.size f cdv)) →
      PSs (cxOf (L2.CX P w) P w K mg base N qual (defScope st) f cdv A outer s H E) (defBody st) (Ts K (EKof C E) body)) :
    FnG P w K mg base (k + 1) f fd ps (spD K C ps.length (runF gc N.length ps.length body)) := by
  refine fnG_of Fn S (fun vs H Q E h => h.1) fun cdv A outer s H vs Q E hg hr h => ⟨_, hb cdv A outer s H E hg hr, ?_⟩
  obtain ⟨hl, ι, M, ds, sh, hv, wp⟩ := h
  have hd := vrs_len hv
  unfold runF at wp
  rw [if_pos (by omega)] at wp
  have wp := Wp.bind2 (wp_finish sh wp)
  have er : ER K ι H (ds.map some ++ List.replicate (N.length - ps.length) none) (start N vs) := by
    have := er_start hv N
    rw [hd, hl] at this; exact this
  refine ⟨M.length, ι, M, _, ⟨Nat.le_refl _, sh.bel, sh, er⟩, wp.mono fun p ι' M' H' post q => ?_⟩
  obtain ⟨fl, σ'⟩ := p
  cases fl with
  | nx => exact fun σ2 _ => (Wp.shift post q : Wp K (EKof C E) M.length ι' M' H' (Res.ok DL.D.non M') _) ι' H' (Post.refl post.sh) .non (by simp only [VR])
  | rt d => exact fun v hv => (Wp.shift post q : Wp K (EKof C E) M.length ι' M' H' (Res.ok d M') _) ι' H' (Post.refl post.sh) v hv
  | bk => exact q.elim
  | ct => exact q.elim
/-- an own def called -/
theorem T_call {X : Cx} {e : Expr} {fl : SemL} {np : Nat} {F : DFun} {E : XK} (he : PE X e (tCall (spD K C np F) [] E (Tl K (EKof C E) fl))) (hF : ∀ ds M, ds.length ≠ np → F ds M = .stuck) : PE X e (T K (EKof C E) (eApp F fl)) :=
  PE.to he fun σ H Q ⟨n0, ι, M, σd, b, q⟩ => by
    refine ⟨n0, ι, M, σd, b, (Wp.bind q).mono fun xs ι1 M1 H1 p1 q1 vs hv => ?_⟩
    have hl := vrs_len hv
    by_cases hn : xs.length = np
    · exact ⟨by simp; omega, ι1, M1, xs, p1.sh, by simpa using hv, Wp.wide (b.to p1).le q1⟩
    · rw [hF xs M1 hn] at q1; exact q1.elim
theorem runF_len {gc : Bool} {nN np : Nat} {body : SemS} (ds : List D) (M : Hep) (h : ds.length ≠ np) : runF gc nN np body ds M = .stuck := if_neg h
end
end DL

namespace DL
open PySem PySem.Spec PyProof.Rows L2

/-- the items of a list that is read -/
def lst? (d : D) (M : Hep) : Option (List D) := match d with
  | .fz ds => some ds
  | .ro ds => some ds
  | .ref m => match M[m]? with
    | some (.lst ds) => some ds
    | _ => none
  | _ => none
/-- .. of one of ours -/
def lstM? (d : D) (M : Hep) : Option (List D) := match d with
  | .fz ds => some ds
  | .ref m => match M[m]? with
    | some (.lst ds) => some ds
    | _ => none
  | _ => none
def seq? (d : D) (M : Hep) : Option (List D) := match d with
  | .tup ds => some ds
  | d => lst? d M
section
variable {K : PySem.W.Frag} {E : EK} {ι ι' : Io} {H H' : Hp} {M M' : Hep} {n0 : Nat}
theorem sqL_of (s : SH K ι M H) {d : D} {v : V} {ds : List D} (e : lst? d M = some ds) (h : VR K ι H d v) : ∃ a xs, v = .ref a ∧ SqL K H a xs ∧ VRs K ι H ds xs := by
  cases d with
  | fz es =>
    cases e
    simp only [VR] at h
    obtain ⟨a, xs, e1, e2, e3⟩ := h
    exact ⟨a, xs, e1, e2.sq, e3⟩
  | ro es =>
    cases e
    simp only [VR] at h
    obtain ⟨a, xs, e1, e2, e3⟩ := h
    exact ⟨a, xs, e1, e2.sq, e3⟩
  | ref m =>
    simp only [lst?] at e
    simp only [VR] at h
    obtain ⟨a, e1, e2⟩ := h
    cases hm : M[m]? with
    | none => rw [hm] at e; cases e
    | some ob =>
      cases ob with
      | dct ks vs => rw [hm] at e; cases e
      | lst es =>
        rw [hm] at e; cases e
        obtain ⟨xs, h1, h2⟩ := s.ob m _ a hm e2
        exact ⟨a, xs, e1, .inl (.inl h1), h2⟩
  | _ => cases e
theorem lstM_of (s : SH K ι M H) {d : D} {v : V} {ds : List D} (e : lstM? d M = some ds) (h : VR K ι H d v) : ∃ a xs, v = .ref a ∧ H a = some (.lst xs) ∧ VRs K ι H ds xs := by
  cases d with
  | fz es =>
    cases e
    simp only [VR] at h
    obtain ⟨a, xs, e1, e2, e3⟩ := h
    exact ⟨a, xs, e1, e2.1, e3⟩
  | ref m =>
    simp only [lstM?] at e
    simp only [VR] at h
    obtain ⟨a, e1, e2⟩ := h
    cases hm : M[m]? with
    | none => rw [hm] at e; cases e
    | some ob =>
      cases ob with
      | dct ks vs => rw [hm] at e; cases e
      | lst es =>
        rw [hm] at e; cases e
        obtain ⟨xs, h1, h2⟩ := s.ob m _ a hm e2
        exact ⟨a, xs, e1, h1, h2⟩
  | _ => cases e
theorem tup_of {ds : List D} {v : V} (h : VR K ι H (.tup ds) v) : ∃ a xs, v = .ref a ∧ SqT K H a xs ∧ VRs K ι H ds xs := by
  simp only [VR] at h
  obtain ⟨a, xs, e1, e2, e3⟩ := h
  exact ⟨a, xs, e1, e2.sq, e3⟩
/-- a thing's truth -/
def truD (x : D) (M : Hep) : Option Bool := match x with
  | .non => some false
  | .bl c => some c
  | .int i => some (i != 0)
  | .tup ds => some (!ds.isEmpty)
  | x => (lst? x M).map fun ds => !ds.isEmpty
theorem vrs_empty {ds : List D} {xs : List V} (h : VRs K ι H ds xs) : ds.isEmpty = xs.isEmpty := by
  cases ds with
  | nil => simp only [VRs] at h; subst h; rfl
  | cons d ds => simp only [VRs] at h; obtain ⟨x, r, rfl, _⟩ := h; rfl
theorem tru_of (s : SH K ι M H) {d : D} {v : V} {b : Bool} (e : truD d M = some b) (h : VR K ι H d v) : TruV K v H b := by
  have ls : ∀ ds, lst? d M = some ds → b = (!ds.isEmpty) → TruV K v H b := fun ds h1 h2 => by
    obtain ⟨a, xs, rfl, q1, q2⟩ := sqL_of s h1 h
    subst h2
    exact .inl ⟨xs, q1, by rw [vrs_empty q2]⟩
  cases d with
  | non => cases e; simp only [VR] at h; subst h; rfl
  | bl c => cases e; simp only [VR] at h; subst h; rfl
  | int i => cases e; simp only [VR] at h; subst h; rfl
  | tup ds =>
    cases e
    obtain ⟨a, xs, rfl, q1, q2⟩ := tup_of h
    exact .inr (.inl ⟨xs, q1, by rw [vrs_empty q2]⟩)
  | str cs => cases e
  | ty n => cases e
  | fz ds => exact Exists.elim (Option.map_eq_some_iff.mp (show (lst? (.fz ds) M).map (fun ds : List D => !ds.isEmpty) = some b from e)) fun es q => ls es q.1 q.2.symm
  | ro ds => exact Exists.elim (Option.map_eq_some_iff.mp (show (lst? (.ro ds) M).map (fun ds : List D => !ds.isEmpty) = some b from e)) fun es q => ls es q.1 q.2.symm
  | ref m => exact Exists.elim (Option.map_eq_some_iff.mp (show (lst? (.ref m) M).map (fun ds : List D => !ds.isEmpty) = some b from e)) fun es q => ls es q.1 q.2.symm
/-- a test by a thing's truth -/
def tTr (a : SemE) : SemT := fun n σ M => (a n σ M).bind fun x M1 => .of (truD x M1) M1
theorem int_of {i : Int} {v : V} (h : VR K ι H (.int i) v) : v = .int i := by simpa only [VR] using h
theorem bl_of {i : Bool} {v : V} (h : VR K ι H (.bl i) v) : v = .bl i := by simpa only [VR] using h
theorem str_of {i : List Nat} {v : V} (h : VR K ι H (.str i) v) : v = .str ⟨i.toArray⟩ := by simpa only [VR] using h
@[simp] theorem vr_int {i : Int} : VR K ι H (.int i) (.int i) := by simp only [VR]
@[simp] theorem vr_bl {i : Bool} : VR K ι H (.bl i) (.bl i) := by simp only [VR]
@[simp] theorem vr_non : VR K ι H .non .non := by simp only [VR]
theorem vr_str {i : List Nat} : VR K ι H (.str i) (.str ⟨i.toArray⟩) := by simp only [VR]
/-- pure answers -/
theorem wp_ok {Q : D → Io → Hep → Hp → Prop} {d : D} (a : At K n0 ι M H) (h : Wp K E n0 ι M H (.ok d M) Q) : Q d ι M H := h ι H (Post.refl a.sh)

/-! operations by kinds: none where the kinds are others -/
abbrev P2 := D → D → Hep → Option (Res D)
abbrev P1 := D → Hep → Option (Res D)
abbrev PL := List D → Hep → Option (Res D)
abbrev Got (K : PySem.W.Frag) (E : EK) (n0 : Nat) (ι : Io) (M : Hep) (H : Hp) (Q : VK) (r : Res D) : Prop := Wp K E n0 ι M H r fun d ι' M' H' => ∀ z, VR K ι' H' d z → Q z H'
def P2S (K : PySem.W.Frag) (E : EK) (r : R2) (op : P2) : Prop := ∀ (n0 : Nat) (ι : Io) (M : Hep) (H : Hp) (x y : D) (v u : V) (Q : VK) (res : Res D), At K n0 ι M H → VR K ι H x v → VR K ι H y u → op x y M = some res → Got K E n0 ι M H Q res → r v u H Q
def P1S (K : PySem.W.Frag) (E : EK) (r : V → Hp → VK → Prop) (op : P1) : Prop := ∀ (n0 : Nat) (ι : Io) (M : Hep) (H : Hp) (x : D) (v : V) (Q : VK) (res : Res D), At K n0 ι M H → VR K ι H x v → op x M = some res → Got K E n0 ι M H Q res → r v H Q
def PLS (K : PySem.W.Frag) (E : EK) (r : List V → Hp → VK → Prop) (op : PL) : Prop := ∀ (n0 : Nat) (ι : Io) (M : Hep) (H : Hp) (xs : List D) (vs : List V) (Q : VK) (res : Res D), At K n0 ι M H → VRs K ι H xs vs → op xs M = some res → Got K E n0 ι M H Q res → r vs H Q
def P2.or (a b : P2) : P2 := fun x y M => match a x y M with
  | some r => some r
  | none => b x y M
def P1.or (a b : P1) : P1 := fun x M => match a x M with
  | some r => some r
  | none => b x M
def PL.or (a b : PL) : PL := fun x M => match a x M with
  | some r => some r
  | none => b x M
def P2.op (a : P2) : Op2 := fun x y M => (a x y M).getD .stuck
def P1.op (a : P1) : Op1 := fun x M => (a x M).getD .stuck
def PL.op (a : PL) : OpL := fun x M => (a x M).getD .stuck
theorem P2S.or {r r' : R2} {a b : P2} (h : P2S K E r a) (h' : P2S K E r' b) : P2S K E (fun v u H Q => r v u H Q ∨ r' v u H Q) (a.or b) := fun n0 ι M H x y v u Q res at' hx hy e g => by
  unfold P2.or at e
  split at e
  · rename_i r1 e1
    cases e
    exact .inl (h n0 ι M H x y v u Q _ at' hx hy e1 g)
  · exact .inr (h' n0 ι M H x y v u Q _ at' hx hy e g)
theorem P1S.or {r r' : V → Hp → VK → Prop} {a b : P1} (h : P1S K E r a) (h' : P1S K E r' b) : P1S K E (fun v H Q => r v H Q ∨ r' v H Q) (a.or b) := fun n0 ι M H x v Q res at' hx e g => by
  unfold P1.or at e
  split at e
  · rename_i r1 e1
    cases e
    exact .inl (h n0 ι M H x v Q _ at' hx e1 g)
  · exact .inr (h' n0 ι M H x v Q _ at' hx e g)
theorem PLS.or {r r' : List V → Hp → VK → Prop} {a b : PL} (h : PLS K E r a) (h' : PLS K E r' b) : PLS K E (fun v H Q => r v H Q ∨ r' v H Q) (a.or b) := fun n0 ι M H x v Q res at' hx e g => by
  unfold PL.or at e
  split at e
  · rename_i r1 e1
    cases e
    exact .inl (h n0 ι M H x v Q _ at' hx e1 g)
  · exact .inr (h' n0 ι M H x v Q _ at' hx e g)
theorem P2S.op {r : R2} {a : P2} (h : P2S K E r a) : Op2S K E r a.op := fun n0 ι M H x y v u Q at' hx hy g => by
  unfold P2.op at g
  cases e : a x y M with
  | none => rw [e] at g; exact g.elim
  | some res => rw [e] at g; exact h n0 ι M H x y v u Q res at' hx hy e g
theorem P1S.op {r : V → Hp → VK → Prop} {a : P1} (h : P1S K E r a) : Op1S K E r a.op := fun n0 ι M H x v Q at' hx g => by
  unfold P1.op at g
  cases e : a x M with
  | none => rw [e] at g; exact g.elim
  | some res => rw [e] at g; exact h n0 ι M H x v Q res at' hx e g
theorem PLS.op {r : List V → Hp → VK → Prop} {a : PL} (h : PLS K E r a) : OpLS K E r a.op := fun n0 ι M H x v Q at' hx g => by
  unfold PL.op at g
  cases e : a x M with
  | none => rw [e] at g; exact g.elim
  | some res => rw [e] at g; exact h n0 ι M H x v Q res at' hx e g

/-! + -/
def pI (f : Int → Int → D) : P2 := fun x y M => match x, y with
  | .int i, .int j => some (.ok (f i j) M)
  | _, _ => none
def pIc (c : Int → Int → Bool) (f : Int → Int → D) : P2 := fun x y M => match x, y with
  | .int i, .int j => if c i j then some (.ok (f i j) M) else none
  | _, _ => none
theorem pI_ok {f : Int → Int → D} {g : Int → Int → V} (hv : ∀ i j ι H, VR K ι H (f i j) (g i j)) : P2S K E (rI0 g) (pI f) := fun n0 ι M H x y v u Q res a hx hy e h => by
  unfold pI at e
  split at e
  · cases e
    exact ⟨_, _, int_of hx, int_of hy, wp_ok a h _ (hv _ _ _ _)⟩
  · cases e
theorem pIc_ok {c : Int → Int → Bool} {C : Int → Int → Prop} {f : Int → Int → D} {g : Int → Int → V} (hv : ∀ i j ι H, VR K ι H (f i j) (g i j)) (hc : ∀ i j, c i j = true → C i j) : P2S K E (rI C g) (pIc c f) := fun n0 ι M H x y v u Q res a hx hy e h => by
  unfold pIc at e
  split at e
  · split at e
    · rename_i hcc
      cases e
      exact ⟨_, _, int_of hx, int_of hy, hc _ _ hcc, wp_ok a h _ (hv _ _ _ _)⟩
    · cases e
  · cases e
def strFits (n : Nat) : Bool := decide (n ≤ sizeLine)
theorem strFits_of {n : Nat} (h : strFits n = true) : n ≤ sizeLine := of_decide_eq_true h
def pAddS : P2 := fun x y M => match x, y with
  | .str a, .str b => if strFits (a.length + b.length) then some (.ok (.str (a ++ b)) M) else none
  | _, _ => none
theorem pAddS_ok : P2S K E (fun x y H Q => ∃ i j, x = V.str i ∧ y = V.str j ∧ i.length + j.length ≤ sizeLine ∧ Q (V.str (i ++ j)) H) pAddS := fun n0 ι M H x y v u Q res a hx hy e h => by
  unfold pAddS at e
  split at e
  · split at e
    · rename_i a' b' hl
      cases e
      refine ⟨_, _, str_of hx, str_of hy, strFits_of hl, ?_⟩
      have := wp_ok a h _ vr_str
      have e2 : (⟨a'.toArray⟩ ++ ⟨b'.toArray⟩ : Str) = ⟨(a' ++ b').toArray⟩ := by
        show Str.append _ _ = _
        unfold Str.append
        simp
      rw [e2]; exact this
    · cases e
  · cases e
def pAddT : P2 := fun x y M => match x, y with
  | .tup a, .tup b => if strFits (a.length + b.length) then some (.ok (.tup (a ++ b)) M) else none
  | _, _ => none
theorem pAddT_ok : P2S K E (rCatA K) pAddT := fun n0 ι M H x y v u Q res a hx hy e h => by
  unfold pAddT at e
  split at e
  · split at e
    · rename_i i j hl
      cases e
      obtain ⟨p, xs, rfl, h1, h2⟩ := tup_of hx
      obtain ⟨p', ys, rfl, h3, h4⟩ := tup_of hy
      have l1 := vrs_len h2
      have l2 := vrs_len h4
      have hl := strFits_of hl
      refine ⟨p, p', xs, ys, rfl, rfl, h1, h3, by omega, fun e => ?_, fun _ e => ?_, fun _ _ q hq => ?_⟩
      · subst e
        have : i = [] := List.length_eq_zero_iff.mp l1
        subst this
        exact wp_ok a h _ hy
      · subst e
        have : j = [] := List.length_eq_zero_iff.mp l2
        subst this
        rw [List.append_nil] at h
        exact wp_ok a h _ hx
      · exact h _ _ (post_new a.sh hq) _ (vr_tup a.sh hq (vrs_app h2 h4))
    · cases e
  · cases e
def pAddL (m : Bool) : P2 := fun x y M => match lstM? x M, lstM? y M with
  | some a, some b => some (mkLst m (a ++ b) M)
  | _, _ => none
theorem pAddL_ok (m : Bool) : P2S K E rCat (pAddL m) := fun n0 ι M H x y v u Q res a hx hy e h => by
  unfold pAddL at e
  split at e
  · rename_i ds es h1 h2
    cases e
    obtain ⟨p, xs, rfl, q1, q2⟩ := lstM_of a.sh h1 hx
    obtain ⟨p', ys, rfl, q3, q4⟩ := lstM_of a.sh h2 hy
    obtain ⟨z1, z2⟩ := lst_made a (vrs_app q2 q4) h
    exact ⟨p, p', xs, ys, rfl, rfl, q1, q3, by simpa using z1, z2⟩
  · cases e
def opAdd (m : Bool) : Op2 := (((pI fun i j => .int (i + j)).or pAddS).or (pAddT.or (pAddL m))).op
theorem b_add {X : Cx} {a b : Expr} {pos : Pos} {fa fb : SemE} (hK : X.K = K) (m : Bool) (ha : PE X a (T K E fa)) (hb : PE X b (T K E fb)) : PE X (.BinOp a .Add b pos) (T K E (eBin (opAdd m) fa fb)) := by
  subst hK
  exact T_bin (opR_or (opR_or op_add op_add_str) (opR_or op_catA op_cat)) (((pI_ok fun _ _ _ _ => vr_int).or pAddS_ok).or (pAddT_ok.or (pAddL_ok m))).op ha hb
def opSub : Op2 := (pI fun i j => .int (i - j)).op
theorem b_sub {X : Cx} {a b : Expr} {pos : Pos} {fa fb : SemE} (ha : PE X a (T K E fa)) (hb : PE X b (T K E fb)) : PE X (.BinOp a .Sub b pos) (T K E (eBin opSub fa fb)) := T_bin op_sub (pI_ok fun _ _ _ _ => vr_int).op ha hb
/-- a factor that is not too great -/
def smallF (i : Int) : Bool := decide (-(2 ^ 64) < i) && decide (i < 2 ^ 64)
def mulFits (i j : Int) : Bool := smallF i || smallF j
theorem mulFits_of {i j : Int} (h : mulFits i j = true) : CMul i j := by
  unfold mulFits smallF at h
  simp only [Bool.or_eq_true, Bool.and_eq_true, decide_eq_true_eq] at h
  exact h
/-- a list so often -/
def repL {α : Type} (k : Nat) (xs : List α) : List α := (List.replicate k xs).flatten
theorem vrs_rep {ds : List D} {xs : List V} (h : VRs K ι H ds xs) : ∀ k, VRs K ι H (repL k ds) (repL k xs)
  | 0 => by simp [repL, VRs]
  | k + 1 => by
    unfold repL
    rw [List.replicate_succ, List.replicate_succ, List.flatten_cons, List.flatten_cons]
    exact vrs_app h (vrs_rep h k)
def pMulL (m : Bool) : P2 := fun x y M => match lstM? x M, y with
  | some a, .int k => if decide (-(2 ^ 63) ≤ k) && decide (k < 2 ^ 63) && strFits (a.length * k.toNat) then some (mkLst m (repL k.toNat a) M) else none
  | _, _ => none
theorem pMulL_ok (m : Bool) : P2S K E rRep (pMulL m) := fun n0 ι M H x y v u Q res a hx hy e h => by
  unfold pMulL at e
  split at e
  · rename_i ds k h1
    split at e
    · rename_i hc
      cases e
      simp only [Bool.and_eq_true, decide_eq_true_eq] at hc
      obtain ⟨p, xs, rfl, q1, q2⟩ := lstM_of a.sh h1 hx
      obtain ⟨z1, z2⟩ := lst_made a (vrs_rep q2 k.toNat) h
      exact ⟨p, k, xs, rfl, int_of hy, q1, hc.1.1, hc.1.2, by rw [← vrs_len q2]; exact strFits_of hc.2, z2⟩
    · cases e
  · cases e
def pMulT : P2 := fun x y M => match x, y with
  | .tup a, .int k => if !a.isEmpty && decide (2 ≤ k) && decide (k ≤ 1000) && decide (a.length ≤ 1000) then some (.ok (.tup (repL k.toNat a)) M)
    else if !a.isEmpty && decide (k = 1) then some (.ok (.tup a) M)
    else if !a.isEmpty && decide (k ≤ 0) && decide (-(2 ^ 62) ≤ k) then some (.ok (.tup []) M) else none
  | _, _ => none
end
end DL

namespace DL
open PySem PySem.Spec PyProof.Rows L2
/-- a text so often -/
def repS (n : Nat) (cs : List Nat) : List Nat := (List.replicate n cs).flatten
theorem foldl_repA (cs : Array Nat) : ∀ (n : Nat) (acc : Array Nat), ((List.replicate n cs).foldl (fun x1 x2 => x1 ++ x2) acc).toList = acc.toList ++ (List.replicate n cs.toList).flatten
  | 0, acc => by simp
  | n + 1, acc => by
    rw [List.replicate_succ, List.foldl_cons, foldl_repA cs n]
    simp [List.replicate_succ]
theorem txt_mul {x : Str} {n : Nat} : (Txt.mul x (n : Int)).cps.toList = repS n x.cps.toList := by
  unfold Txt.mul repS
  by_cases h : (n : Int) < 1
  · rw [if_pos h]
    have : n = 0 := by omega
    subst this
    rfl
  · rw [if_neg h]
    by_cases h2 : ((n : Int) == 1 || x.length == 0) = true
    · rw [if_pos h2]
      simp only [Bool.or_eq_true, beq_iff_eq] at h2
      rcases h2 with h2 | h2
      · have : n = 1 := by omega
        subst this
        simp
      · have : x.cps.toList = [] := by
          have : x.cps.size = 0 := h2
          rw [← List.length_eq_zero_iff, Array.length_toList]; exact this
        rw [this]
        simp
    · rw [if_neg h2]
      show (List.foldl (· ++ ·) #[] _).toList = _
      have := foldl_repA x.cps n #[]
      simpa using this
theorem op_mul_str {X : Cx} : OpR X (binaryOp .Mult) (fun x y H Q => ∃ (i : Str) (k : Nat), x = .str i ∧ y = .int (k : Int) ∧ k ≤ 1000 ∧ i.length ≤ 1000 ∧ Q (.str (Txt.mul i (k : Int))) H) := by
  intro pins s σ H x y v u Q I rx ry h
  obtain ⟨i, k, rfl, rfl, h1, h2, q⟩ := h
  obtain ⟨t, rfl⟩ := rx
  obtain ⟨t', rfl⟩ := ry
  refine SB.mul ⟨?_, ?_, ?_⟩ (fun t' tk => ⟨.str (Txt.mul i (k : Int)), H, I.tok _, ⟨_, rfl⟩, q⟩)
  · have a : ¬ (k : Int) < -(2 ^ 63 : Int) := by omega
    have b : ¬ (k : Int) ≥ 2 ^ 63 := by omega
    rw [decide_eq_false a, decide_eq_false b]; rfl
  · intro a _
    have : (1000 : Int) ≤ (2 ^ 63 - 1) / (k : Int) := by
      rw [Int.le_ediv_iff_mul_le (by omega)]
      omega
    omega
  · intro _ _
    have : i.length * k ≤ 1000 * 1000 := Nat.mul_le_mul h2 h1
    simp only [Int.toNat_natCast]
    exact decide_eq_false (by show ¬ _ > _; unfold sizeLine; omega)
section
variable {K : PySem.W.Frag} {E : EK}
def pMulS : P2 := fun x y M => match x, y with
  | .str cs, .int k => if 0 ≤ k ∧ k ≤ 1000 ∧ cs.length ≤ 1000 then some (.ok (.str (repS k.toNat cs)) M) else none
  | _, _ => none
theorem pMulS_ok : P2S K E (fun x y H Q => ∃ (i : Str) (k : Nat), x = .str i ∧ y = .int (k : Int) ∧ k ≤ 1000 ∧ i.length ≤ 1000 ∧ Q (.str (Txt.mul i (k : Int))) H) pMulS := fun n0 ι M H x y v u Q res a hx hy e h => by
  unfold pMulS at e
  split at e
  · rename_i cs k
    split at e
    · rename_i hk
      cases e
      obtain ⟨j, rfl⟩ := Int.eq_ofNat_of_zero_le hk.1
      refine ⟨⟨cs.toArray⟩, j, str_of hx, int_of hy, by omega, by simpa [Str.length] using hk.2.2, ?_⟩
      have e : Txt.mul ⟨cs.toArray⟩ (j : Int) = ⟨(repS j cs).toArray⟩ := by
        have := txt_mul (x := ⟨cs.toArray⟩) (n := j)
        cases hh : Txt.mul ⟨cs.toArray⟩ (j : Int) with
        | mk c =>
          rw [hh] at this
          simp only [Str.mk.injEq]
          rw [← this]
      rw [e]
      exact wp_ok a h _ vr_str
    · cases e
  · cases e
end
end DL

set_option maxHeartbeats 4000000
namespace DL
open PySem PySem.Spec PyProof.Rows L2
/-! tuple * 1, tuple * 0 -/
theorem tuple_by1 (l : Addr) (items : Array Value) (n : Nat) (sl : Array (Option Value)) (dd : Option Addr) (u : Tok) :
    Meets (Builtin.«tuple.__mul__» ⟨[.ref l, .int 1 u], []⟩) (fun _ R s => s.heap.get? l = some { cls := .type "tuple", dict := dd, data := .seq items n, slots := sl } ∧ R (.ok (.ret (Value.ref l))) s) :=
  .of_wp fun prog w A R s h => by
    obtain ⟨hp, g, d, tk, os⟩ := s
    obtain ⟨hl, h⟩ := h
    have f1 := AutoSeq1.idx_int
    wp_walk using wpAny_loadPart' hl
    repeat (first
      | (refine wpAny_ite_false (decide_eq_false (by decide)) ?_; wp_walk using wpAny_loadPart' hl)
      | (refine wpAny_ite_true (decide_eq_true (by simp)) ?_; wp_walk using wpAny_loadPart' hl))
    exact ⟨_, rfl, h⟩
theorem tuple_by0 (l : Addr) (items : Array Value) (n : Nat) (dd : Option Addr) (sl : Array (Option Value)) (x : Int) (u : Tok) (c0 : (decide (x < -(2 ^ 63)) || decide (x ≥ 2 ^ 63)) = false) (c1 : (items.isEmpty || x == 1) = false) (c2 : (decide (x ≤ 0) || items.isEmpty) = true) :
    Meets (Builtin.«tuple.__mul__» ⟨[.ref l, .int x u], []⟩) (fun _ R s => s.heap.get? l = some { cls := .type "tuple", dict := dd, data := .seq items n, slots := sl } ∧
      R (.ok (.ret (Value.ref s.heap.objs.size))) { s with heap := s.heap.push { cls := Value.type "tuple", data := Data.seq #[] }, toks := s.toks }) :=
  .of_wp fun prog w A R s h => by
    obtain ⟨hp, g, d, tk, os⟩ := s
    obtain ⟨hl, h⟩ := h
    have f1 := AutoSeq1.idx_int
    wp_walk using wpAny_loadPart' hl
    repeat (first
      | (refine wpAny_ite_false (decide_eq_false (by rw [c0]; exact Bool.false_ne_true)) ?_; wp_walk using wpAny_loadPart' hl)
      | (refine wpAny_ite_false (decide_eq_false (by rw [c1]; exact Bool.false_ne_true)) ?_; wp_walk using wpAny_loadPart' hl)
      | (refine wpAny_ite_true (decide_eq_true (by rw [c2])) ?_; wp_walk using wpAny_loadPart' hl))
    exact ⟨_, rfl, h⟩
def rRepT1 (K : PySem.W.Frag) : R2 := fun x y H Q => ∃ l k xs, x = .ref l ∧ y = .int k ∧ SqT K H l xs ∧ xs ≠ [] ∧ ((k = 1 ∧ Q (.ref l) H) ∨ (k ≤ 0 ∧ -(2 ^ 62) ≤ k ∧ ∀ p, H p = none → Q (.ref p) (upd H p (.tup []))))
section
variable {X : Cx}
theorem op_repT1 : OpR X (binaryOp .Mult) (rRepT1 X.K) := by
  intro pins s σ H x y v u Q I rx ry h
  obtain ⟨l, k, xs, rfl, rfl, hT, hne, q⟩ := h
  cases rx
  obtain ⟨t, rfl⟩ := ry
  obtain ⟨its, r, ⟨⟨cls, dd, data, sl⟩, ho, hc, n, hd⟩, hs⟩ := I.tuple hT
  simp only at hc hd
  subst hc hd
  have hle : its.length = xs.length := r.length.symm
  have hn : its ≠ [] := fun e => hne (by
    rw [e] at hle
    exact List.eq_nil_of_length_eq_zero hle.symm)
  have hi : its.toArray.isEmpty = false := by
    cases its with
    | nil => exact absurd rfl hn
    | cons a b => rfl
  rcases q with ⟨rfl, q⟩ | ⟨k0, k1, q⟩
  · refine wpAny_binaryOp_repeat_ref (T := "tuple") (U := "int") (by decide) ⟨_, ho, rfl⟩ (fun s' => typeIs_int s' 1 t) noFill_tuple_mul F.fills_int_mul F.slot_int_rmul repeat_tuple F.slot_int_index.lookup
      (call_meets F.slot_int_rmul (typeIs_int s 1 t) F.entry_int_rmul (F.args_int_rmul_2 _ _) (int_rmul_tuple 1 t l its.toArray n dd sl)
        ⟨ho, rfl, ⟨_, ho, rfl⟩, call_meets F.slot_tuple_mul ⟨_, ho, rfl⟩ F.entry_tuple_mul (F.args_tuple_mul_2 _ _) (tuple_by1 l its.toArray n sl dd t) ⟨ho, ?_⟩⟩)
    exact ⟨.ref l, H, I.tok _, rfl, q⟩
  · have c0 : (decide (k < -(2 ^ 63)) || decide (k ≥ 2 ^ 63)) = false := by
      rw [decide_eq_false (by omega), decide_eq_false (by omega)] <;> rfl
    have c1 : (its.toArray.isEmpty || k == 1) = false := by
      rw [hi, Bool.false_or]
      exact beq_eq_false_iff_ne.mpr (by omega)
    have c2 : (decide (k ≤ 0) || its.toArray.isEmpty) = true := by
      rw [hi, Bool.or_false]
      exact decide_eq_true (by omega)
    refine wpAny_binaryOp_repeat_ref (T := "tuple") (U := "int") (by decide) ⟨_, ho, rfl⟩ (fun s' => typeIs_int s' k t) noFill_tuple_mul F.fills_int_mul F.slot_int_rmul repeat_tuple F.slot_int_index.lookup
      (call_meets F.slot_int_rmul (typeIs_int s k t) F.entry_int_rmul (F.args_int_rmul_2 _ _) (int_rmul_tuple k t l its.toArray n dd sl)
        ⟨ho, rfl, ⟨_, ho, rfl⟩, call_meets F.slot_tuple_mul ⟨_, ho, rfl⟩ F.entry_tuple_mul (F.args_tuple_mul_2 _ _) (tuple_by0 l its.toArray n dd sl k t c0 c1 c2) ⟨ho, ?_⟩⟩)
    refine ⟨.ref s.heap.objs.size, _, I.laid (t' := s.toks) (o := .tup []) (fun b ob q => Heap.get?_push_of_some _ q) (Nat.le_refl _) ?_, rfl, q _ (I.hok.fresh (Nat.le_refl _))⟩
    exact ⟨by simp, [], .nil, IsTup.new _ _⟩
end
end DL

namespace DL
open PySem PySem.Spec PyProof.Rows L2
section
variable {K : PySem.W.Frag} {E : EK} {ι ι' : Io} {H H' : Hp} {M M' : Hep} {n0 : Nat}
theorem pMulT_ok : P2S K E (fun x y H Q => rRepT K x y H Q ∨ rRepT1 K x y H Q) pMulT := fun n0 ι M H x y v u Q res a hx hy e h => by
  unfold pMulT at e
  split at e
  · rename_i ds k
    split at e
    · rename_i hc
      cases e
      simp only [Bool.and_eq_true, decide_eq_true_eq, Bool.not_eq_true', List.isEmpty_eq_false_iff] at hc
      obtain ⟨p, xs, rfl, h1, h2⟩ := tup_of hx
      have l := vrs_len h2
      refine .inl ⟨p, k, xs, rfl, int_of hy, h1, fun z => hc.1.1.1 (List.length_eq_zero_iff.mp (by rw [l, z]; rfl)), hc.1.1.2, hc.1.2, by omega, fun q hq => ?_⟩
      exact h _ _ (post_new a.sh hq) _ (vr_tup a.sh hq (vrs_rep h2 k.toNat))
    · split at e
      · rename_i hc
        cases e
        simp only [Bool.and_eq_true, decide_eq_true_eq, Bool.not_eq_true', List.isEmpty_eq_false_iff] at hc
        have hx' := hx
        obtain ⟨p, xs, rfl, h1, h2⟩ := tup_of hx
        have l := vrs_len h2
        exact .inr ⟨p, k, xs, rfl, int_of hy, h1, fun z => hc.1 (List.length_eq_zero_iff.mp (by rw [l, z]; rfl)), .inl ⟨hc.2, wp_ok a h _ hx'⟩⟩
      · split at e
        · rename_i hc
          cases e
          simp only [Bool.and_eq_true, decide_eq_true_eq, Bool.not_eq_true', List.isEmpty_eq_false_iff] at hc
          obtain ⟨p, xs, rfl, h1, h2⟩ := tup_of hx
          have l := vrs_len h2
          refine .inr ⟨p, k, xs, rfl, int_of hy, h1, fun z => hc.1.1 (List.length_eq_zero_iff.mp (by rw [l, z]; rfl)), .inr ⟨hc.1.2, hc.2, fun q hq => ?_⟩⟩
          exact h _ _ (post_new a.sh hq) _ (vr_tup a.sh hq (by simp only [VRs]))
        · cases e
  · cases e
def opMul (m : Bool) : Op2 := ((((pIc mulFits fun i j => .int (i * j)).or (pMulL m)).or pMulT).or pMulS).op
theorem b_mul {X : Cx} {a b : Expr} {pos : Pos} {fa fb : SemE} (hK : X.K = K) (m : Bool) (ha : PE X a (T K E fa)) (hb : PE X b (T K E fb)) : PE X (.BinOp a .Mult b pos) (T K E (eBin (opMul m) fa fb)) := by
  subst hK
  exact T_bin (opR_or (opR_or (opR_or op_mul op_rep) (opR_or op_repT op_repT1)) op_mul_str) ((((pIc_ok (fun _ _ _ _ => vr_int) fun i j h => mulFits_of h).or (pMulL_ok m)).or pMulT_ok).or pMulS_ok).op ha hb
def opMod : Op2 := (pIc (fun _ j => decide (j ≠ 0)) fun i j => .int (i.fmod j)).op
theorem b_mod {X : Cx} {a b : Expr} {pos : Pos} {fa fb : SemE} (ha : PE X a (T K E fa)) (hb : PE X b (T K E fb)) : PE X (.BinOp a .Mod b pos) (T K E (eBin opMod fa fb)) := T_bin op_modN (pIc_ok (fun _ _ _ _ => vr_int) fun i j h => of_decide_eq_true h).op ha hb
def opFdiv : Op2 := (pIc (fun _ j => decide (j ≠ 0) && decide (j.natAbs < 1073741824)) fun i j => .int (i.fdiv j)).op
theorem b_fdiv {X : Cx} {a b : Expr} {pos : Pos} {fa fb : SemE} (ha : PE X a (T K E fa)) (hb : PE X b (T K E fb)) : PE X (.BinOp a .FloorDiv b pos) (T K E (eBin opFdiv fa fb)) := T_bin op_fdivN (pIc_ok (fun _ _ _ _ => vr_int) fun i j h => by
  simp only [Bool.and_eq_true, decide_eq_true_eq] at h; exact h).op ha hb
def opPow : Op2 := (pIc (fun i j => decide (0 ≤ j) && decide (j ≤ 1000000) && decide (i.natAbs < 2 ^ 64)) fun i j => .int (i ^ j.toNat)).op
theorem b_pow {X : Cx} {a b : Expr} {pos : Pos} {fa fb : SemE} (ha : PE X a (T K E fa)) (hb : PE X b (T K E fb)) : PE X (.BinOp a .Pow b pos) (T K E (eBin opPow fa fb)) := T_bin op_pow (pIc_ok (fun _ _ _ _ => vr_int) fun i j h => by
  simp only [Bool.and_eq_true, decide_eq_true_eq] at h; exact ⟨h.1.1, h.1.2, h.2⟩).op ha hb
def p1I (f : Int → D) : P1 := fun x M => match x with
  | .int i => some (.ok (f i) M)
  | _ => none
def opNeg : Op1 := (p1I fun i => .int (-i)).op
theorem b_neg {X : Cx} {a : Expr} {pos : Pos} {fa : SemE} (ha : PE X a (T K E fa)) : PE X (.UnaryOp .USub a pos) (T K E (eUn opNeg fa)) := T_un un_neg (P1S.op (r := rU fun i => .int (-i)) fun n0 ι M H x v Q res a hx e h => by
  unfold p1I at e
  split at e
  · cases e
    exact ⟨_, int_of hx, wp_ok a h _ vr_int⟩
  · cases e) ha

/-! comparisons of order -/
def ltL (a b : List Nat) : Bool := decide (a < b)
def pStr (f : List Nat → List Nat → Bool) : P2 := fun x y M => match x, y with
  | .str a, .str b => some (.ok (.bl (f a b)) M)
  | _, _ => none
theorem pStr_ok {f : List Nat → List Nat → Bool} : P2S K E (fun x y H Q => ∃ i j : Str, x = V.str i ∧ y = V.str j ∧ Q (V.bl (f i.cps.toList j.cps.toList)) H) (pStr f) := fun n0 ι M H x y v u Q res a hx hy e h => by
  unfold pStr at e
  split at e
  · rename_i a' b'
    cases e
    refine ⟨⟨a'.toArray⟩, ⟨b'.toArray⟩, str_of hx, str_of hy, ?_⟩
    exact wp_ok a h _ vr_bl
  · cases e
def intsO : List D → Option (List Int)
  | [] => some []
  | .int i :: ds => (intsO ds).map (i :: ·)
  | _ => none
theorem intsO_V : ∀ {ds : List D} {xs : List V} {ns : List Int}, intsO ds = some ns → VRs K ι H ds xs → xs = ns.map V.int
  | [], xs, ns, e, r => by simp only [VRs] at r; cases e; exact r
  | d :: ds, xs, ns, e, r => by
    cases d with
    | int i =>
      simp only [intsO, Option.map_eq_some_iff] at e
      obtain ⟨ms, e1, rfl⟩ := e
      simp only [VRs] at r
      obtain ⟨x, r', rfl, r1, r2⟩ := r
      rw [int_of r1, intsO_V e1 r2]; rfl
    | _ => cases e
/-- tuples of ints, by their first unlike -/
def pLtT : P2 := fun x y M => match x, y with
  | .tup a, .tup b => match intsO a, intsO b with
    | some ns, some ms => some (.ok (.bl (HT.lexLt ns ms)) M)
    | _, _ => none
  | _, _ => none
theorem pLtT_ok : P2S K E (rLtT K) pLtT := fun n0 ι M H x y v u Q res a hx hy e h => by
  unfold pLtT at e
  split at e
  · split at e
    · rename_i a' b' _ _ ns ms e1 e2
      cases e
      obtain ⟨p, xs, rfl, h1, h2⟩ := tup_of hx
      obtain ⟨p', ys, rfl, h3, h4⟩ := tup_of hy
      rw [intsO_V e1 h2] at h1
      rw [intsO_V e2 h4] at h3
      exact ⟨p, p', ns, ms, rfl, rfl, h1, h3, wp_ok a h _ vr_bl⟩
    · cases e
  · cases e
def opLtI : Op2 := ((pI fun i j => .bl (decide (i < j))).or (pStr fun a b => ltL a b)).op
def opLt : Op2 := (((pI fun i j => .bl (decide (i < j))).or (pStr fun a b => ltL a b)).or pLtT).op
def opLe : Op2 := ((pI fun i j => .bl (decide (i ≤ j))).or (pStr fun a b => !ltL b a)).op
def opGt : Op2 := ((pI fun i j => .bl (decide (i > j))).or (pStr fun a b => ltL b a)).op
def opGe : Op2 := ((pI fun i j => .bl (decide (i ≥ j))).or (pStr fun a b => !ltL a b)).op
end
end DL

namespace DL
open PySem PySem.Spec PyProof.Rows L2
/-! ### dicts: numbers and texts as keys -/
def keyD : D → Bool
  | .int _ => true
  | .str _ => true
  | _ => false
def toKey : D → L2.Key
  | .int i => .inl i
  | .str cs => .inr ⟨cs.toArray⟩
  | _ => .inl 0
section
variable {K : PySem.W.Frag} {E : EK} {ι ι' : Io} {H H' : Hp} {M M' : Hep} {n0 : Nat}
theorem key_V {d : D} {v : V} (h : keyD d = true) (r : VR K ι H d v) : v = kV (toKey d) := by
  cases d <;> (first | (cases h; done) | skip) <;> simp only [VR] at r <;> exact r
theorem V_key {d : D} {k : L2.Key} (r : VR K ι H d (kV k)) : keyD d = true ∧ toKey d = k := by
  cases k with
  | inl i =>
    cases d <;> simp only [VR, kV] at r <;> (first | (cases r; done) | (obtain ⟨_, _, r, _⟩ := r; cases r; done) | (obtain ⟨_, r, _⟩ := r; cases r; done) | skip)
    cases r; exact ⟨rfl, rfl⟩
  | inr x =>
    cases d <;> simp only [VR, kV] at r <;> (first | (cases r; done) | (obtain ⟨_, _, r, _⟩ := r; cases r; done) | (obtain ⟨_, r, _⟩ := r; cases r; done) | skip)
    cases r; exact ⟨rfl, rfl⟩
theorem key_inj {a b : D} (ha : keyD a = true) (hb : keyD b = true) : D.eq a b = decide (toKey a = toKey b) := by
  cases a <;> (first | (cases ha; done) | skip) <;> cases b <;> (first | (cases hb; done) | skip) <;> simp [D.eq, toKey]
theorem keys_of : ∀ {ks : List D} {kvs : List (L2.Key × V)}, VRs K ι H ks (kvs.map fun p => kV p.1) → ks.all keyD = true ∧ ks.map toKey = kvs.map (·.1)
  | [], [], _ => ⟨rfl, rfl⟩
  | [], _ :: _, h => by simp only [VRs, List.map_cons] at h; cases h
  | k :: ks, [], h => by simp only [VRs, List.map_nil] at h; obtain ⟨_, _, h, _⟩ := h; cases h
  | k :: ks, p :: kvs, h => by
    simp only [VRs, List.map_cons] at h
    obtain ⟨x, r, e, h1, h2⟩ := h
    cases e
    obtain ⟨a, b⟩ := V_key h1
    obtain ⟨c, d⟩ := keys_of h2
    exact ⟨by simp only [List.all_cons, a, c, Bool.and_self], by simp only [List.map_cons, b, d]⟩
/-- what stands at a key -/
def valD (ks vs : List D) (k : D) : Option D := match ks, vs with
  | k' :: ks, v :: vs => if D.eq k' k then some v else valD ks vs k
  | _, _ => none
theorem valD_V {k : D} (hk : keyD k = true) : ∀ {ks vs : List D} {kvs : List (L2.Key × V)}, VRs K ι H ks (kvs.map fun p => kV p.1) → VRs K ι H vs (kvs.map (·.2)) →
    (∀ d, valD ks vs k = some d → ∃ v, valV kvs (toKey k) = some v ∧ VR K ι H d v) ∧ (valD ks vs k = none → valV kvs (toKey k) = none)
  | [], vs, kvs, h, h2 => by
    have : kvs = [] := by
      cases kvs with
      | nil => rfl
      | cons _ _ => simp only [VRs, List.map_cons] at h; cases h
    subst this
    exact ⟨fun d e => by simp [valD] at e, fun _ => rfl⟩
  | k' :: ks, vs, kvs, h, h2 => by
    simp only [VRs] at h
    obtain ⟨x, r, e, h1, h3⟩ := h
    cases kvs with
    | nil => simp at e
    | cons p kvs =>
      simp only [List.map_cons, List.cons.injEq] at e
      obtain ⟨rfl, rfl⟩ := e
      cases vs with
      | nil => simp only [VRs, List.map_cons] at h2; cases h2
      | cons v vs =>
        simp only [VRs, List.map_cons] at h2
        obtain ⟨y, r2, e2, h4, h5⟩ := h2
        cases e2
        obtain ⟨kd, tk⟩ := V_key h1
        unfold valD
        rw [key_inj kd hk, tk]
        by_cases z : p.1 = toKey k
        · rw [if_pos (by simpa using z)]
          exact ⟨fun d ed => by cases ed; exact ⟨p.2, valV_pos z, h4⟩, fun e => by cases e⟩
        · rw [if_neg (by simpa using z), valV_neg z]
          exact valD_V hk h3 h5
/-- the values behind d[k] = v -/
def setV (ks vs : List D) (k v : D) : List D := match ks, vs with
  | k' :: ks, w :: vs => (if D.eq k' k then v else w) :: setV ks vs k v
  | _, _ => []
def putD (ks vs : List D) (k v : D) : List D × List D := if ks.any fun k' => D.eq k' k then (ks, setV ks vs k v) else (ks ++ [k], vs ++ [v])
theorem any_V {k : D} (hk : keyD k = true) : ∀ {ks : List D} {kvs : List (L2.Key × V)}, VRs K ι H ks (kvs.map fun p => kV p.1) → (ks.any fun k' => D.eq k' k) = kvs.any fun kv => decide (kv.1 = toKey k)
  | [], kvs, h => by
    cases kvs with
    | nil => rfl
    | cons _ _ => simp only [VRs, List.map_cons] at h; cases h
  | k' :: ks, kvs, h => by
    simp only [VRs] at h
    obtain ⟨x, r, e, h1, h3⟩ := h
    cases kvs with
    | nil => simp at e
    | cons p kvs =>
      simp only [List.map_cons, List.cons.injEq] at e
      obtain ⟨rfl, rfl⟩ := e
      obtain ⟨kd, tk⟩ := V_key h1
      rw [List.any_cons, List.any_cons, key_inj kd hk, tk, any_V hk h3]
theorem setV_V {k v : D} {u : V} (hk : keyD k = true) (hv : VR K ι H v u) : ∀ {ks vs : List D} {kvs : List (L2.Key × V)}, VRs K ι H ks (kvs.map fun p => kV p.1) → VRs K ι H vs (kvs.map (·.2)) →
    VRs K ι H (setV ks vs k v) ((kvs.map fun kv => if kv.1 = toKey k then (kv.1, u) else kv).map (·.2))
  | [], vs, kvs, h, h2 => by
    have : kvs = [] := by
      cases kvs with
      | nil => rfl
      | cons _ _ => simp only [VRs, List.map_cons] at h; cases h
    subst this
    unfold setV; simp only [List.map_nil, VRs]
  | k' :: ks, vs, kvs, h, h2 => by
    simp only [VRs] at h
    obtain ⟨x, r, e, h1, h3⟩ := h
    cases kvs with
    | nil => simp at e
    | cons p kvs =>
      simp only [List.map_cons, List.cons.injEq] at e
      obtain ⟨rfl, rfl⟩ := e
      cases vs with
      | nil => simp only [VRs, List.map_cons] at h2; cases h2
      | cons w vs =>
        simp only [VRs, List.map_cons] at h2
        obtain ⟨y, r2, e2, h4, h5⟩ := h2
        cases e2
        obtain ⟨kd, tk⟩ := V_key h1
        unfold setV
        simp only [List.map_cons, VRs]
        refine ⟨_, _, rfl, ?_, setV_V hk hv h3 h5⟩
        rw [key_inj kd hk, tk]
        by_cases z : p.1 = toKey k
        · rw [if_pos (by simpa using z), if_pos z]; exact hv
        · rw [if_neg (by simpa using z), if_neg z]; exact h4
theorem map_fst {k : L2.Key} {u : V} : ∀ kvs : List (L2.Key × V), (kvs.map fun kv => if kv.1 = k then (kv.1, u) else kv).map (fun p => kV p.1) = kvs.map fun p => kV p.1
  | [] => rfl
  | p :: kvs => by
    simp only [List.map_cons, map_fst kvs]
    split <;> rfl
theorem putD_V {k v : D} {u : V} {ks vs : List D} {kvs : List (L2.Key × V)} (hk : keyD k = true) (hkr : VR K ι H k (kV (toKey k))) (hv : VR K ι H v u) (h : VRs K ι H ks (kvs.map fun p => kV p.1)) (h2 : VRs K ι H vs (kvs.map (·.2))) :
    VRs K ι H (putD ks vs k v).1 ((putK kvs (toKey k) u).map fun p => kV p.1) ∧ VRs K ι H (putD ks vs k v).2 ((putK kvs (toKey k) u).map (·.2)) := by
  unfold putD putK
  rw [any_V hk h]
  by_cases z : (kvs.any fun kv => decide (kv.1 = toKey k)) = true
  · rw [if_pos z, if_pos z]
    exact ⟨by rw [map_fst]; exact h, setV_V hk hv h h2⟩
  · rw [if_neg z, if_neg z]
    have app : ∀ {ds es : List D} {xs ys : List V}, VRs K ι H ds xs → VRs K ι H es ys → VRs K ι H (ds ++ es) (xs ++ ys) := fun {ds} => vrs_app
    refine ⟨?_, ?_⟩
    · rw [List.map_append]; exact app h (by simp only [List.map_cons, List.map_nil, VRs]; exact ⟨_, _, rfl, hkr, rfl⟩)
    · rw [List.map_append]; exact app h2 (by simp only [List.map_cons, List.map_nil, VRs]; exact ⟨_, _, rfl, hv, rfl⟩)
def dct? (d : D) (M : Hep) : Option (List D × List D) := match d with
  | .ref m => match M[m]? with
    | some (.dct ks vs) => some (ks, vs)
    | _ => none
  | _ => none
theorem dct_of (s : SH K ι M H) {d : D} {v : V} {ks vs : List D} (e : dct? d M = some (ks, vs)) (h : VR K ι H d v) : ∃ m a kvs, d = .ref m ∧ v = .ref a ∧ ι[m]? = some a ∧ H a = some (.dK kvs) ∧ VRs K ι H ks (kvs.map fun p => kV p.1) ∧ VRs K ι H vs (kvs.map (·.2)) := by
  cases d with
  | ref m =>
    simp only [dct?] at e
    simp only [VR] at h
    obtain ⟨a, e1, e2⟩ := h
    cases hm : M[m]? with
    | none => rw [hm] at e; cases e
    | some ob =>
      cases ob with
      | lst es => rw [hm] at e; cases e
      | dct ks' vs' =>
        rw [hm] at e; cases e
        obtain ⟨kvs, h1, h2, h3⟩ := s.ob m _ a hm e2
        exact ⟨m, a, kvs, rfl, e1, e2, h1, h2, h3⟩
  | _ => cases e
/-- d[k] -/
def rIxDc : R2 := fun x y H Q => ∃ a v, x = .ref a ∧ DGet H a y (some v) ∧ Q v H
theorem ix_dct {X : Cx} (hu : X.A.units + 1 < cLine) : IxR X rIxDc := by
  intro value slice pins s σ H x y v u Q I rx ry h hs
  obtain ⟨a, w, rfl, g, q⟩ := h
  obtain rfl : v = Value.ref a := rx
  exact tail_any (dict_typeIs I g) PySem.F.slot_dict_getitem.lookup (d_getItem hu I g ry fun w' s' I' r' => ⟨w, H, I', r', q⟩) hs
def pIxD : P2 := fun x y M => match dct? x M with
  | some (ks, vs) => if keyD y then (valD ks vs y).map fun d => .ok d M else none
  | none => none
theorem pIxD_ok : P2S K E rIxDc pIxD := fun n0 ι M H x y v u Q res a hx hy e h => by
  unfold pIxD at e
  split at e
  · rename_i ks vs e1
    split at e
    · rename_i hk
      simp only [Option.map_eq_some_iff] at e
      obtain ⟨d, e2, rfl⟩ := e
      obtain ⟨m, b, kvs, rfl, rfl, _, h1, h2, h3⟩ := dct_of a.sh e1 hx
      obtain ⟨w, e3, e4⟩ := (valD_V hk h2 h3).1 d e2
      have := key_V hk hy
      subst this
      exact ⟨b, w, rfl, by rw [← e3]; exact DGet.k h1, wp_ok a h _ e4⟩
    · cases e
  · cases e
/-- k in d -/
def rInDc (neg : Bool) : R2 := fun x y H Q => ∃ a o, y = .ref a ∧ DGet H a x o ∧ Q (.bl (if neg then !o.isSome else o.isSome)) H
theorem op_inDc {X : Cx} (hu : X.A.units + 1 < cLine) : OpR X (compareOp .In) (rInDc false) := by
  intro pins s σ H x y v u Q I rx ry h
  obtain ⟨a, o, rfl, g, q⟩ := h
  obtain rfl : u = Value.ref a := ry
  exact d_in hu I g rx fun s' I' => ⟨.bl o.isSome, H, I', rfl, q⟩
theorem op_notInDc {X : Cx} (hu : X.A.units + 1 < cLine) : OpR X (compareOp .NotIn) (rInDc true) := by
  intro pins s σ H x y v u Q I rx ry h
  obtain ⟨a, o, rfl, g, q⟩ := h
  obtain rfl : u = Value.ref a := ry
  exact d_notIn hu I g rx fun s' I' => ⟨.bl (!o.isSome), H, I', rfl, q⟩
def pInDc (neg : Bool) : P2 := fun x y M => match dct? y M with
  | some (ks, vs) => if keyD x then some (.ok (.bl (if neg then !(valD ks vs x).isSome else (valD ks vs x).isSome)) M) else none
  | none => none
theorem pInDc_ok (neg : Bool) : P2S K E (rInDc neg) (pInDc neg) := fun n0 ι M H x y v u Q res a hx hy e h => by
  unfold pInDc at e
  split at e
  · rename_i ks vs e1
    split at e
    · rename_i hk
      cases e
      obtain ⟨m, b, kvs, rfl, rfl, _, h1, h2, h3⟩ := dct_of a.sh e1 hy
      have := key_V hk hx
      subst this
      refine ⟨b, _, rfl, DGet.k h1, ?_⟩
      have e : (valV kvs (toKey x)).isSome = (valD ks vs x).isSome := by
        cases hv : valD ks vs x with
        | none => rw [(valD_V hk h2 h3).2 hv]; rfl
        | some d => obtain ⟨w, e3, _⟩ := (valD_V hk h2 h3).1 d hv; rw [e3]; rfl
      rw [e]
      exact wp_ok a h _ vr_bl
    · cases e
  · cases e
end
end DL

namespace DL
open PySem PySem.Spec PyProof.Rows L2
section
variable {K : PySem.W.Frag} {E : EK} {ι ι' : Io} {H H' : Hp} {M M' : Hep} {n0 : Nat}
variable {X : Cx} {a b : Expr} {pos : Pos} {fa fb : SemE}
theorem b_lt {k : Nat} (hK : X.K = K) (hr : Room k X.A) (ha : PE X a (T K E fa)) (hb : PE X b (T K E fb)) (hm : behindInMarks .Lt b = false) : PE X (.Compare a [.Lt] [b] pos) (T K E (eBin opLt fa fb)) := by
  subst hK
  exact T_cmp (opR_or (opR_or op_lt op_lt_str) (op_ltT (by have := hr.units; omega))) (((pI_ok fun _ _ _ _ => vr_bl).or pStr_ok).or pLtT_ok).op ha hb hm
theorem b_le (ha : PE X a (T K E fa)) (hb : PE X b (T K E fb)) (hm : behindInMarks .LtE b = false) : PE X (.Compare a [.LtE] [b] pos) (T K E (eBin opLe fa fb)) := T_cmp (opR_or op_le op_le_str) ((pI_ok fun _ _ _ _ => vr_bl).or pStr_ok).op ha hb hm
theorem b_gt (ha : PE X a (T K E fa)) (hb : PE X b (T K E fb)) (hm : behindInMarks .Gt b = false) : PE X (.Compare a [.Gt] [b] pos) (T K E (eBin opGt fa fb)) := T_cmp (opR_or op_gt op_gt_str) ((pI_ok fun _ _ _ _ => vr_bl).or pStr_ok).op ha hb hm
theorem b_ge (ha : PE X a (T K E fa)) (hb : PE X b (T K E fb)) (hm : behindInMarks .GtE b = false) : PE X (.Compare a [.GtE] [b] pos) (T K E (eBin opGe fa fb)) := T_cmp (opR_or op_ge op_ge_str) ((pI_ok fun _ _ _ _ => vr_bl).or pStr_ok).op ha hb hm

/-! the operators of order, for chains -/
inductive Ord where
  | lt | le | gt | ge
  deriving DecidableEq
def Ord.cmp : Ord → CmpOp
  | .lt => .Lt
  | .le => .LtE
  | .gt => .Gt
  | .ge => .GtE
def Ord.op : Ord → Op2
  | .lt => opLtI
  | .le => opLe
  | .gt => opGt
  | .ge => opGe
theorem Ord.rule (X : Cx) (K : PySem.W.Frag) (E : EK) : ∀ o : Ord, ∃ r, OpR X (compareOp o.cmp) r ∧ Op2S K E r o.op
  | .lt => ⟨_, opR_or op_lt op_lt_str, ((pI_ok fun _ _ _ _ => vr_bl).or pStr_ok).op⟩
  | .le => ⟨_, opR_or op_le op_le_str, ((pI_ok fun _ _ _ _ => vr_bl).or pStr_ok).op⟩
  | .gt => ⟨_, opR_or op_gt op_gt_str, ((pI_ok fun _ _ _ _ => vr_bl).or pStr_ok).op⟩
  | .ge => ⟨_, opR_or op_ge op_ge_str, ((pI_ok fun _ _ _ _ => vr_bl).or pStr_ok).op⟩
def eChain (o o' : Ord) (a b c : SemE) : SemE := fun n σ M => (a n σ M).bind fun x M1 => (b n σ M1).bind fun y M2 => (o.op x y M2).bind fun r M3 => match r with
  | .bl true => (c n σ M3).bind fun z M4 => o'.op y z M4
  | .bl false => .ok (.bl false) M3
  | _ => .stuck
theorem b_chain {c : Expr} {fc : SemE} (o o' : Ord) (ha : PE X a (T K E fa)) (hb : PE X b (T K E fb)) (hc : PE X c (T K E fc)) (hm : lastMarks [o.cmp, o'.cmp] [b, c] = false) : PE X (.Compare a [o.cmp, o'.cmp] [b, c] pos) (T K E (eChain o o' fa fb fc)) := by
  obtain ⟨r, h1, h2⟩ := o.rule X K E
  obtain ⟨r', h3, h4⟩ := o'.rule X K E
  refine PE.to (pe_chain h1 h3 ha hb hc hm) fun σ H Q ⟨n0, ι, M, σd, b, q⟩ => ?_
  refine ⟨n0, ι, M, σd, b, (Wp.bind q).mono fun x ι1 M1 H1 p1 q1 v hv => ?_⟩
  refine ⟨n0, ι1, M1, σd, b.to p1, (Wp.bind q1).mono fun y ι2 M2 H2 p2 q2 u hu => ?_⟩
  refine h2 n0 ι2 M2 H2 x y v u _ (b.at.to (p1.trans p2)) (hv.ext p2.ext) hu ((Wp.bind q2).mono fun d ι3 M3 H3 p3 q3 z hz => ?_)
  cases d with
  | bl k =>
    refine ⟨k, bl_of hz, ?_⟩
    cases k with
    | false => exact iteF (q3 ι3 H3 (Post.refl p3.sh) _ vr_bl)
    | true =>
      refine iteT ⟨n0, ι3, M3, σd, b.to (p1.trans (p2.trans p3)), (Wp.bind q3).mono fun w' ι4 M4 H4 p4 q4 t ht => ?_⟩
      exact h4 n0 ι4 M4 H4 y w' u t Q (b.at.to (p1.trans (p2.trans (p3.trans p4)))) (hu.ext (p3.ext.trans p4.ext)) ht q4
  | _ => exact q3.elim

/-! == and != -/
mutual
def D.py : D → Option PyData
  | .non => some .none
  | .bl b => some (.bool b)
  | .int i => some (.int i)
  | .str cs => some (.str ⟨cs.toArray⟩)
  | .tup ds => (pys ds).map .tuple
  | .fz ds => (pys ds).map .list
  | .ro ds => (pys ds).map .list
  | .ref _ => none
  | .ty _ => none
def pys : List D → Option (List PyData)
  | [] => some []
  | d :: ds => d.py.bind fun p => (pys ds).map (p :: ·)
end
mutual
theorem dp_of : ∀ (d : D) (p : PyData) (v : V), d.py = some p → VR K [] H d v → Dp K H v p
  | .non, p, v, e, h => by simp only [D.py, Option.some.injEq] at e; subst e; simp only [VR] at h; subst h; exact .non
  | .bl b, p, v, e, h => by simp only [D.py, Option.some.injEq] at e; subst e; simp only [VR] at h; subst h; exact .bl b
  | .int b, p, v, e, h => by simp only [D.py, Option.some.injEq] at e; subst e; simp only [VR] at h; subst h; exact .int b
  | .str b, p, v, e, h => by simp only [D.py, Option.some.injEq] at e; subst e; simp only [VR] at h; subst h; exact .str _
  | .tup ds, p, v, e, h => by
    simp only [D.py, Option.map_eq_some_iff] at e
    obtain ⟨ps, e1, rfl⟩ := e
    simp only [VR] at h
    obtain ⟨a, xs, rfl, h1, h2⟩ := h
    exact .tup h1.sq (dps_of ds ps xs e1 h2)
  | .fz ds, p, v, e, h => by
    simp only [D.py, Option.map_eq_some_iff] at e
    obtain ⟨ps, e1, rfl⟩ := e
    simp only [VR] at h
    obtain ⟨a, xs, rfl, h1, h2⟩ := h
    exact .lst h1.sq (dps_of ds ps xs e1 h2)
  | .ro ds, p, v, e, h => by
    simp only [D.py, Option.map_eq_some_iff] at e
    obtain ⟨ps, e1, rfl⟩ := e
    simp only [VR] at h
    obtain ⟨a, xs, rfl, h1, h2⟩ := h
    exact .lst h1.sq (dps_of ds ps xs e1 h2)
  | .ref _, p, v, e, h => by simp only [D.py] at e; cases e
  | .ty _, p, v, e, h => by simp only [D.py] at e; cases e
theorem dps_of : ∀ (ds : List D) (ps : List PyData) (xs : List V), pys ds = some ps → VRs K [] H ds xs → DpAll K H xs ps
  | [], ps, xs, e, h => by simp only [pys, Option.some.injEq] at e; subst e; simp only [VRs] at h; subst h; exact .nil
  | d :: ds, ps, xs, e, h => by
    simp only [pys, Option.bind_eq_some_iff, Option.map_eq_some_iff] at e
    obtain ⟨p, e1, qs, e2, rfl⟩ := e
    simp only [VRs] at h
    obtain ⟨x, r, rfl, h1, h2⟩ := h
    exact .cons (dp_of d p x e1 h1) (dps_of ds qs r e2 h2)
end
/-- a value as data of the library -/
def pyOf (M : Hep) (d : D) : Option PyData := (frz 0 M d).bind D.py
theorem dp_pyOf (s : SH K ι M H) {d : D} {p : PyData} {v : V} (e : pyOf M d = some p) (h : VR K ι H d v) : Dp K H v p := by
  unfold pyOf at e
  simp only [Option.bind_eq_some_iff] at e
  obtain ⟨d', e1, e2⟩ := e
  exact dp_of d' p v e2 (vr_read s e1 h)
def pEqD (f : Bool → Bool) : P2 := fun x y M => match pyOf M x, pyOf M y with
  | some p, some q => if SeqAt.shaped p && SeqAt.shaped q then some (.ok (.bl (f (PyData.eqv p q))) M) else none
  | _, _ => none
def pEqS (f : Bool → Bool) : P2 := fun x y M => match x, y with
  | .str a, .str b => some (.ok (.bl (f (decide (a = b)))) M)
  | _, _ => none
theorem str_same (a b : List Nat) : decide (V.str ⟨a.toArray⟩ = V.str ⟨b.toArray⟩) = decide (a = b) := by
  rw [Bool.eq_iff_iff, decide_eq_true_eq, decide_eq_true_eq]
  constructor
  · intro h
    injection h with h
    injection h with h
    simpa using h
  · intro h; rw [h]
theorem eqS_ok : P2S K E rEq (pEqS id) := fun n0 ι M H x y v u Q res a hx hy e h => by
  unfold pEqS at e
  split at e
  · cases e
    simp only [VR] at hx hy
    subst hx hy
    refine ⟨rfl, ?_⟩
    rw [str_same]
    exact wp_ok a h _ vr_bl
  · cases e
theorem neS_ok : P2S K E rNe (pEqS not) := fun n0 ι M H x y v u Q res a hx hy e h => by
  unfold pEqS at e
  split at e
  · cases e
    simp only [VR] at hx hy
    subst hx hy
    refine ⟨rfl, ?_⟩
    rw [str_same]
    exact wp_ok a h _ vr_bl
  · cases e
theorem eqD_okP {f : Bool → Bool} {r : R2} (hr : ∀ x y H Q, (∃ d e, Dp K H x d ∧ Dp K H y e ∧ SeqAt.shaped d = true ∧ SeqAt.shaped e = true ∧ Q (.bl (f (PyData.eqv d e))) H) → r x y H Q) : P2S K E r (pEqD f) := fun n0 ι M H x y v u Q res a hx hy e h => by
  unfold pEqD at e
  split at e
  · rename_i p q e1 e2
    split at e
    · rename_i hs
      cases e
      simp only [Bool.and_eq_true] at hs
      exact hr _ _ _ _ ⟨p, q, dp_pyOf a.sh e1 hx, dp_pyOf a.sh e2 hy, hs.1, hs.2, wp_ok a h _ vr_bl⟩
    · cases e
  · cases e
def opEq : Op2 := ((pEqS id).or (pEqD id)).op
def opNe : Op2 := ((pEqS not).or (pEqD not)).op
theorem eq_okA : Op2S K E (fun x y H Q => rEq x y H Q ∨ rEqD K x y H Q) opEq := P2S.op (P2S.or eqS_ok (eqD_okP fun _ _ _ _ h => h))
theorem ne_okA : Op2S K E (fun x y H Q => rNe x y H Q ∨ rNeD K x y H Q) opNe := P2S.op (P2S.or neS_ok (eqD_okP fun _ _ _ _ h => h))
theorem b_eq {k : Nat} (hK : X.K = K) (hr : Room k X.A) (ha : PE X a (T K E fa)) (hb : PE X b (T K E fb)) (hm : behindInMarks .Eq b = false) : PE X (.Compare a [.Eq] [b] pos) (T K E (eBin opEq fa fb)) := by
  subst hK
  exact T_cmp (opR_or op_eq (op_eqD hr.units)) eq_okA ha hb hm
theorem b_ne {k : Nat} (hK : X.K = K) (hr : Room k X.A) (ha : PE X a (T K E fa)) (hb : PE X b (T K E fb)) (hm : behindInMarks .NotEq b = false) : PE X (.Compare a [.NotEq] [b] pos) (T K E (eBin opNe fa fb)) := by
  subst hK
  exact T_cmp (opR_or op_ne (op_neD hr.units)) ne_okA ha hb hm
def D.isNon : D → Bool
  | .non => true
  | _ => false
def opIsN : Op2 := fun x y M => match y with
  | .non => .ok (.bl x.isNon) M
  | _ => .stuck
theorem non_iff {x : D} {v : V} (h : VR K ι H x v) : decide (v = .non) = x.isNon := by
  cases x with
  | non => simp only [VR] at h; subst h; rfl
  | tup _ => simp only [VR] at h; obtain ⟨_, _, rfl, _⟩ := h; rfl
  | fz _ => simp only [VR] at h; obtain ⟨_, _, rfl, _⟩ := h; rfl
  | ro _ => simp only [VR] at h; obtain ⟨_, _, rfl, _⟩ := h; rfl
  | ref _ => simp only [VR] at h; obtain ⟨_, rfl, _⟩ := h; rfl
  | _ => simp only [VR] at h; subst h; rfl
theorem b_isN (ha : PE X a (T K E fa)) (hb : PE X b (T K E fb)) (hm : behindInMarks .Is b = false) : PE X (.Compare a [.Is] [b] pos) (T K E (eBin opIsN fa fb)) := T_cmp op_isN (fun n0 ι M H x y v u Q a hx hy h => by
  cases y with
  | non =>
    refine ⟨by simpa only [VR] using hy, ?_⟩
    rw [non_iff hx]
    exact wp_ok a h _ vr_bl
  | _ => exact h.elim) ha hb hm
def opNotN : Op2 := fun x y M => match y with
  | .non => .ok (.bl (!x.isNon)) M
  | _ => .stuck
theorem b_notN (ha : PE X a (T K E fa)) (hb : PE X b (T K E fb)) (hm : behindInMarks .IsNot b = false) : PE X (.Compare a [.IsNot] [b] pos) (T K E (eBin opNotN fa fb)) := T_cmp op_notN (fun n0 ι M H x y v u Q a hx hy h => by
  cases y with
  | non =>
    refine ⟨by simpa only [VR] using hy, ?_⟩
    rw [non_iff hx]
    exact wp_ok a h _ vr_bl
  | _ => exact h.elim) ha hb hm

/-! items -/
def atD {α : Type} (xs : List α) (i : Int) : Option α := (ixN xs.length i).bind fun j => xs[j]?
theorem vrs_at {ds : List D} {xs : List V} {i : Int} {d : D} (h : VRs K ι H ds xs) (e : atD ds i = some d) : ∃ x, atI xs i = some x ∧ VR K ι H d x := by
  unfold atD at e
  rw [vrs_len h] at e
  simp only [Option.bind_eq_some_iff] at e
  obtain ⟨j, e1, e2⟩ := e
  obtain ⟨x, e3, e4⟩ := vrs_get h e2
  exact ⟨x, by unfold atI; rw [e1]; exact e3, e4⟩
def pIxL : P2 := fun x y M => match lst? x M, y with
  | some ds, .int i => (atD ds i).map fun d => .ok d M
  | _, _ => none
def pIxT : P2 := fun x y M => match x, y with
  | .tup ds, .int i => (atD ds i).map fun d => .ok d M
  | _, _ => none
def pIxS : P2 := fun x y M => match x, y with
  | .str cs, .int i => if strFits cs.length then (atD cs i).map fun c => .ok (.str [c]) M else none
  | _, _ => none
def opIx : Op2 := (pIxL.or (pIxT.or (pIxS.or pIxD))).op
theorem b_ix {k : Nat} (hK : X.K = K) (hr : Room k X.A) (ha : PE X a (T K E fa)) (hb : PE X b (T K E fb)) (hp : PlainIx b) : PE X (.Subscript a b pos) (T K E (eBin opIx fa fb)) := by
  subst hK
  refine T_ix (IxR.or ix_list (IxR.or ix_tup (IxR.or ix_str (ix_dct (by have := hr.un; omega))))) (P2S.op (P2S.or (r := rIxL X.K) (fun n0 ι M H x y v u Q res a hx hy e h => ?_) (P2S.or (r := rIxT X.K) (fun n0 ι M H x y v u Q res a hx hy e h => ?_) (P2S.or (r := rIxS) (fun n0 ι M H x y v u Q res a hx hy e h => ?_) pIxD_ok)))) ha hb hp
  · unfold pIxL at e
    split at e
    · rename_i ds i e1
      simp only [Option.map_eq_some_iff] at e
      obtain ⟨d, e2, rfl⟩ := e
      obtain ⟨p, xs, rfl, h1, h2⟩ := sqL_of a.sh e1 hx
      obtain ⟨z, e3, e4⟩ := vrs_at h2 e2
      exact ⟨p, xs, i, z, rfl, int_of hy, h1, e3, wp_ok a h _ e4⟩
    · cases e
  · unfold pIxT at e
    split at e
    · rename_i ds i
      simp only [Option.map_eq_some_iff] at e
      obtain ⟨d, e2, rfl⟩ := e
      obtain ⟨p, xs, rfl, h1, h2⟩ := tup_of hx
      obtain ⟨z, e3, e4⟩ := vrs_at h2 e2
      exact ⟨p, xs, i, z, rfl, int_of hy, h1, e3, wp_ok a h _ e4⟩
    · cases e
  · unfold pIxS at e
    split at e
    · rename_i cs i
      split at e
      · rename_i hl
        simp only [Option.map_eq_some_iff] at e
        obtain ⟨c, e2, rfl⟩ := e
        exact ⟨⟨cs.toArray⟩, i, c, str_of hx, int_of hy, by simpa [Str.length] using strFits_of hl, e2, wp_ok a h _ vr_str⟩
      · cases e
    · cases e
end
end DL

namespace DL
open PySem PySem.Spec PyProof.Rows L2
section
variable {K : PySem.W.Frag} {E : EK} {ι ι' : Io} {H H' : Hp} {M M' : Hep} {n0 : Nat}
variable {X : Cx} {a b : Expr} {pos : Pos} {fa fb : SemE}
/-! slices -/
abbrev SemO := Nat → Sl → Hep → Res (Option Int)
def oNone : SemO := fun _ _ M => .ok none M
def oSome (a : SemE) : SemO := fun n σ M => (a n σ M).bind fun x M1 => match x with
  | .int i => .ok (some i) M1
  | _ => .stuck
def To (K : PySem.W.Frag) (E : EK) (f : SemO) : TO := fun σ H Q => ∃ n0 ι M σd, Bg K n0 ι M H σd σ ∧ Wp K E n0 ι M H (f n0 σd M) fun o ι' M' H' => Q o H'
theorem PO.to {e : Option Expr} {t t' : TO} (h : PO X e t) (i : ∀ σ H Q, t' σ H Q → t σ H Q) : PO X e t' := ⟨fun pins s σ H Q I q => h.run pins s σ H Q I (i σ H Q q)⟩
theorem O_none : PO X none (To K E oNone) := PO.to po_none fun σ H Q ⟨n0, ι, M, σd, b, q⟩ => q ι H (Post.refl b.sh)
theorem O_some (ha : PE X a (T K E fa)) : PO X (some a) (To K E (oSome fa)) := PO.to (po_some ha) fun σ H Q ⟨n0, ι, M, σd, b, q⟩ => ⟨n0, ι, M, σd, b, (Wp.bind q).mono fun x ι1 M1 H1 p1 q1 v hv => by
  cases x with
  | int i => exact ⟨i, int_of hv, q1 ι1 H1 (Post.refl p1.sh)⟩
  | _ => exact q1.elim⟩
abbrev OpS := D → Option Int → Option Int → Hep → Res D
def eSl (op : OpS) (a : SemE) (l h : SemO) : SemE := fun n σ M => (a n σ M).bind fun x M1 => (l n σ M1).bind fun lo M2 => (h n σ M2).bind fun hi M3 => op x lo hi M3
def cutD {α : Type} (ds : List α) (lo hi : Option Int) : List α := (ds.drop (HT.sIx ds.length 0 lo)).take (HT.sIx ds.length ds.length hi - HT.sIx ds.length 0 lo)
theorem vrs_drop : ∀ {ds : List D} {xs : List V} (n : Nat), VRs K ι H ds xs → VRs K ι H (ds.drop n) (xs.drop n)
  | _, _, 0, h => by simpa using h
  | [], xs, n + 1, h => by simp only [VRs] at h; subst h; simp [VRs]
  | d :: ds, xs, n + 1, h => by
    simp only [VRs] at h
    obtain ⟨x, r, rfl, _, h2⟩ := h
    simpa using vrs_drop n h2
theorem vrs_take : ∀ {ds : List D} {xs : List V} (n : Nat), VRs K ι H ds xs → VRs K ι H (ds.take n) (xs.take n)
  | _, _, 0, h => by simp [VRs]
  | [], xs, n + 1, h => by simp only [VRs] at h; subst h; simp [VRs]
  | d :: ds, xs, n + 1, h => by
    simp only [VRs] at h
    obtain ⟨x, r, rfl, h1, h2⟩ := h
    simp only [List.take_succ_cons, VRs]
    exact ⟨x, _, rfl, h1, vrs_take n h2⟩
theorem vrs_cut {ds : List D} {xs : List V} (h : VRs K ι H ds xs) (lo hi : Option Int) : VRs K ι H (cutD ds lo hi) (cutV xs lo hi) := by
  unfold cutD cutV
  rw [vrs_len h]
  exact vrs_take _ (vrs_drop _ h)
def opSl (m : Bool) : OpS := fun x lo hi M => match x with
  | .str cs => if strFits cs.length then .ok (.str (cutD cs lo hi)) M else .stuck
  | .tup ds => .ok (.tup (cutD ds lo hi)) M
  | x => match lst? x M with
    | some ds => mkLst m (cutD ds lo hi) M
    | none => .stuck
def SlS (K : PySem.W.Frag) (E : EK) (r : V → Option Int → Option Int → Hp → VK → Prop) (op : OpS) : Prop := ∀ (n0 : Nat) (ι : Io) (M : Hep) (H : Hp) (x : D) (v : V) (lo hi : Option Int) (Q : VK), At K n0 ι M H → VR K ι H x v → Got K E n0 ι M H Q (op x lo hi M) → r v lo hi H Q
theorem slR_or {r r' : V → Option Int → Option Int → Hp → VK → Prop} (h : SlR X r) (h' : SlR X r') : SlR X (fun v lo hi H Q => r v lo hi H Q ∨ r' v lo hi H Q) := fun pins s σ H x v vl vu lo hi sl Q I a b c d e => by
  rcases e with e | e
  · exact h pins s σ H x v vl vu lo hi sl Q I a b c d e
  · exact h' pins s σ H x v vl vu lo hi sl Q I a b c d e
theorem cut_all {ds : List D} {lo hi : Option Int} (h : HT.sIx ds.length 0 lo = 0 ∧ HT.sIx ds.length ds.length hi = ds.length) : cutD ds lo hi = ds := by
  unfold cutD
  rw [h.1, h.2]; simp
theorem opSl_ok (m : Bool) : SlS K E (fun v lo hi H Q => rSlL K v lo hi H Q ∨ rSlA K v lo hi H Q ∨ rSlS v lo hi H Q) (opSl m) := fun n0 ι M H x v lo hi Q a hx h => by
  cases x with
  | str cs =>
    simp only [opSl] at h
    split at h
    · rename_i hl
      refine .inr (.inr ⟨⟨cs.toArray⟩, str_of hx, by simpa [Str.length] using strFits_of hl, ?_⟩)
      have := wp_ok a h _ vr_str
      simpa [cutS, cutD, Str.length] using this
    · exact h.elim
  | tup ds =>
    simp only [opSl] at h
    obtain ⟨p, xs, e, h1, h2⟩ := tup_of hx
    subst e
    have hl := vrs_len h2
    refine .inr (.inl ⟨p, xs, rfl, h1, fun w => ?_, fun w q hq => ?_⟩)
    · rw [← hl] at w
      rw [cut_all w] at h
      exact wp_ok a h _ hx
    · exact h _ _ (post_new a.sh hq) _ (vr_tup a.sh hq (vrs_cut h2 lo hi))
  | _ =>
    simp only [opSl] at h
    split at h
    · rename_i ds e1
      obtain ⟨p, xs, rfl, h1, h2⟩ := sqL_of a.sh e1 hx
      obtain ⟨z1, z2⟩ := lst_made a (vrs_cut h2 lo hi) h
      exact .inl ⟨p, xs, rfl, h1, z2⟩
    · exact h.elim
theorem b_sl {lo hi : Option Expr} {p2 : Pos} {fl fh : SemO} (m : Bool) (hK : X.K = K) (ha : PE X a (T K E fa)) (hl : PO X lo (To K E fl)) (hh : PO X hi (To K E fh)) : PE X (.Subscript a (.Slice lo hi none p2) pos) (T K E (eSl (opSl m) fa fl fh)) := by
  subst hK
  refine PE.to (pe_slice (slR_or sl_list (slR_or sl_tupA sl_str)) ha hl hh) fun σ H Q ⟨n0, ι, M, σd, b, q⟩ => ?_
  refine ⟨n0, ι, M, σd, b, (Wp.bind q).mono fun x ι1 M1 H1 p1 q1 v hv => ?_⟩
  refine ⟨n0, ι1, M1, σd, b.to p1, (Wp.bind q1).mono fun l ι2 M2 H2 p2 q2 => ?_⟩
  refine ⟨n0, ι2, M2, σd, b.to (p1.trans p2), (Wp.bind q2).mono fun u ι3 M3 H3 p3 q3 => ?_⟩
  exact opSl_ok m n0 ι3 M3 H3 x v l u Q (b.at.to (p1.trans (p2.trans p3))) (hv.ext (p2.ext.trans p3.ext)) q3

/-! built-ins by their values -/
theorem vrs1 {ds : List D} {vs : List V} {d : D} (h : VRs K ι H [d] vs) : ∃ v, vs = [v] ∧ VR K ι H d v := by
  simp only [VRs] at h
  obtain ⟨x, r, rfl, h1, rfl⟩ := h
  exact ⟨x, rfl, h1⟩
theorem vrs2 {ds : List D} {vs : List V} {d e : D} (h : VRs K ι H [d, e] vs) : ∃ v u, vs = [v, u] ∧ VR K ι H d v ∧ VR K ι H e u := by
  simp only [VRs] at h
  obtain ⟨x, r, rfl, h1, y, r2, rfl, h2, rfl⟩ := h
  exact ⟨x, y, rfl, h1, h2⟩
def pLen : PL := fun ds M => match ds with
  | [.str cs] => if strFits cs.length then some (.ok (.int cs.length) M) else none
  | [.tup es] => some (.ok (.int es.length) M)
  | [d] => (lst? d M).map fun es => .ok (.int es.length) M
  | _ => none
def rLenV (K : PySem.W.Frag) : List V → Hp → VK → Prop := fun xs H Q => ∃ x n, xs = [x] ∧ LenV K x H n ∧ Q (V.int ↑n) H
theorem len_ok : PLS K E (rLenV K) pLen := fun n0 ι M H xs vs Q res a hx e h => by
  unfold pLen at e
  split at e
  · rename_i cs
    split at e
    · rename_i hl
      cases e
      obtain ⟨v, rfl, hv⟩ := vrs1 (ds := []) hx
      exact ⟨v, cs.length, rfl, by rw [str_of hv]; exact ⟨by simpa [Str.length] using strFits_of hl, by simp [Str.length]⟩, wp_ok a h _ vr_int⟩
    · cases e
  · cases e
    obtain ⟨v, rfl, hv⟩ := vrs1 (ds := []) hx
    obtain ⟨p, xs, rfl, h1, h2⟩ := tup_of hv
    exact ⟨_, _, rfl, .inr ⟨xs, h1, rfl⟩, by rw [← vrs_len h2]; exact wp_ok a h _ vr_int⟩
  · simp only [Option.map_eq_some_iff] at e
    obtain ⟨es, e1, rfl⟩ := e
    obtain ⟨v, rfl, hv⟩ := vrs1 (ds := []) hx
    obtain ⟨p, xs, rfl, h1, h2⟩ := sqL_of a.sh e1 hv
    exact ⟨_, _, rfl, .inl ⟨xs, h1, rfl⟩, by rw [← vrs_len h2]; exact wp_ok a h _ vr_int⟩
  · cases e
/-- list(x), x a list or a tuple -/
def pList (m : Bool) : PL := fun ds M => match ds with
  | [d] => (seq? d M).map fun es => mkLst m es M
  | _ => none
def rListV (K : PySem.W.Frag) : List V → Hp → VK → Prop := fun xs H Q => ∃ p ys, xs = [V.ref p] ∧ (SqL K H p ys ∨ SqT K H p ys) ∧ ∀ (l : Addr), H l = none → Q (V.ref l) (upd H l (HO.lst ys))
theorem seq_of (s : SH K ι M H) {d : D} {v : V} {ds : List D} (e : seq? d M = some ds) (h : VR K ι H d v) : ∃ a xs, v = .ref a ∧ (SqL K H a xs ∨ SqT K H a xs) ∧ VRs K ι H ds xs := by
  unfold seq? at e
  split at e
  · cases e
    obtain ⟨p, xs, rfl, h1, h2⟩ := tup_of h
    exact ⟨p, xs, rfl, .inr h1, h2⟩
  · obtain ⟨p, xs, rfl, h1, h2⟩ := sqL_of s e h
    exact ⟨p, xs, rfl, .inl h1, h2⟩
theorem list_ok (m : Bool) : PLS K E (rListV K) (pList m) := fun n0 ι M H xs vs Q res a hx e h => by
  unfold pList at e
  split at e
  · simp only [Option.map_eq_some_iff] at e
    obtain ⟨es, e1, rfl⟩ := e
    obtain ⟨v, rfl, hv⟩ := vrs1 (ds := []) hx
    obtain ⟨p, xs, rfl, h1, h2⟩ := seq_of a.sh e1 hv
    exact ⟨p, xs, rfl, h1, (lst_made a h2 h).2⟩
  · cases e
def pTuple : PL := fun ds M => match ds with
  | [.tup es] => some (.ok (.tup es) M)
  | [d] => (lst? d M).map fun es => .ok (.tup es) M
  | _ => none
def rTupV (K : PySem.W.Frag) : List V → Hp → VK → Prop := fun xs H Q => ∃ p ys, xs = [V.ref p] ∧ ((SqL K H p ys ∧ ∀ (l : Addr), H l = none → Q (V.ref l) (upd H l (HO.tup ys))) ∨ SqT K H p ys ∧ Q (V.ref p) H)
theorem tuple_ok : PLS K E (rTupV K) pTuple := fun n0 ι M H xs vs Q res a hx e h => by
  unfold pTuple at e
  split at e
  · cases e
    obtain ⟨v, rfl, hv⟩ := vrs1 (ds := []) hx
    obtain ⟨p, xs, rfl, h1, h2⟩ := tup_of hv
    exact ⟨p, xs, rfl, .inr ⟨h1, wp_ok a h _ hv⟩⟩
  · simp only [Option.map_eq_some_iff] at e
    obtain ⟨es, e1, rfl⟩ := e
    obtain ⟨v, rfl, hv⟩ := vrs1 (ds := []) hx
    obtain ⟨p, xs, rfl, h1, h2⟩ := sqL_of a.sh e1 hv
    exact ⟨p, xs, rfl, .inl ⟨h1, fun l hl => h _ _ (post_new a.sh hl) _ (vr_tup a.sh hl h2)⟩⟩
  · cases e
def boolsOf : List D → Option (List Bool)
  | [] => some []
  | .bl b :: ds => (boolsOf ds).map (b :: ·)
  | _ => none
def intsOf : List D → Option (List Int)
  | [] => some []
  | .int b :: ds => (intsOf ds).map (b :: ·)
  | _ => none
def strsOf : List D → Option (List (List Nat))
  | [] => some []
  | .str b :: ds => (strsOf ds).map (b :: ·)
  | _ => none
theorem bools_of : ∀ {ds : List D} {bs : List Bool} {xs : List V}, boolsOf ds = some bs → VRs K ι H ds xs → xs = bs.map V.bl
  | [], bs, xs, e, h => by simp only [boolsOf, Option.some.injEq] at e; subst e; simp only [VRs] at h; rw [h]; rfl
  | d :: ds, bs, xs, e, h => by
    cases d with
    | bl b =>
      simp only [boolsOf, Option.map_eq_some_iff] at e
      obtain ⟨cs, e1, rfl⟩ := e
      simp only [VRs] at h
      obtain ⟨x, r, rfl, h1, h2⟩ := h
      rw [bl_of h1, bools_of e1 h2]; rfl
    | _ => simp [boolsOf] at e
theorem ints_of : ∀ {ds : List D} {bs : List Int} {xs : List V}, intsOf ds = some bs → VRs K ι H ds xs → xs = bs.map V.int
  | [], bs, xs, e, h => by simp only [intsOf, Option.some.injEq] at e; subst e; simp only [VRs] at h; rw [h]; rfl
  | d :: ds, bs, xs, e, h => by
    cases d with
    | int b =>
      simp only [intsOf, Option.map_eq_some_iff] at e
      obtain ⟨cs, e1, rfl⟩ := e
      simp only [VRs] at h
      obtain ⟨x, r, rfl, h1, h2⟩ := h
      rw [int_of h1, ints_of e1 h2]; rfl
    | _ => simp [intsOf] at e
def S (cs : List Nat) : Str := ⟨cs.toArray⟩
theorem strs_of : ∀ {ds : List D} {bs : List (List Nat)} {xs : List V}, strsOf ds = some bs → VRs K ι H ds xs → xs = (bs.map S).map V.str
  | [], bs, xs, e, h => by simp only [strsOf, Option.some.injEq] at e; subst e; simp only [VRs] at h; rw [h]; rfl
  | d :: ds, bs, xs, e, h => by
    cases d with
    | str b =>
      simp only [strsOf, Option.map_eq_some_iff] at e
      obtain ⟨cs, e1, rfl⟩ := e
      simp only [VRs] at h
      obtain ⟨x, r, rfl, h1, h2⟩ := h
      rw [str_of h1, strs_of e1 h2]; rfl
    | _ => simp [strsOf] at e
def pAll : PL := fun ds M => match ds with
  | [d] => ((lst? d M).bind boolsOf).map fun bs => .ok (.bl (bs.all id)) M
  | _ => none
theorem all_ok : PLS K E (rAll K) pAll := fun n0 ι M H xs vs Q res a hx e h => by
  unfold pAll at e
  split at e
  · simp only [Option.map_eq_some_iff, Option.bind_eq_some_iff] at e
    obtain ⟨bs, ⟨es, e1, e2⟩, rfl⟩ := e
    obtain ⟨v, rfl, hv⟩ := vrs1 (ds := []) hx
    obtain ⟨p, xs, rfl, h1, h2⟩ := sqL_of a.sh e1 hv
    rw [bools_of e2 h2] at h1
    exact ⟨p, bs, rfl, h1, wp_ok a h _ vr_bl⟩
  · cases e
def pAny : PL := fun ds M => match ds with
  | [d] => ((lst? d M).bind boolsOf).map fun bs => .ok (.bl (bs.any id)) M
  | _ => none
theorem any_ok : PLS K E (rAny K) pAny := fun n0 ι M H xs vs Q res a hx e h => by
  unfold pAny at e
  split at e
  · simp only [Option.map_eq_some_iff, Option.bind_eq_some_iff] at e
    obtain ⟨bs, ⟨es, e1, e2⟩, rfl⟩ := e
    obtain ⟨v, rfl, hv⟩ := vrs1 (ds := []) hx
    obtain ⟨p, xs, rfl, h1, h2⟩ := sqL_of a.sh e1 hv
    rw [bools_of e2 h2] at h1
    exact ⟨p, bs, rfl, h1, wp_ok a h _ vr_bl⟩
  · cases e
def pSum : PL := fun ds M => match ds with
  | [d] => ((lst? d M).bind intsOf).map fun bs => .ok (.int bs.sum) M
  | _ => none
theorem sum_ok : PLS K E (rSum K) pSum := fun n0 ι M H xs vs Q res a hx e h => by
  unfold pSum at e
  split at e
  · simp only [Option.map_eq_some_iff, Option.bind_eq_some_iff] at e
    obtain ⟨bs, ⟨es, e1, e2⟩, rfl⟩ := e
    obtain ⟨v, rfl, hv⟩ := vrs1 (ds := []) hx
    obtain ⟨p, xs, rfl, h1, h2⟩ := sqL_of a.sh e1 hv
    rw [ints_of e2 h2] at h1
    exact ⟨p, bs, rfl, h1, wp_ok a h _ vr_int⟩
  · cases e
/-- sorted, of ints -/
def insI (x : Int) : List Int → List Int
  | [] => [x]
  | y :: ys => if x ≤ y then x :: y :: ys else y :: insI x ys
def sortI : List Int → List Int
  | [] => []
  | x :: xs => insI x (sortI xs)
theorem insI_perm (x : Int) : ∀ ys, (insI x ys).Perm (x :: ys)
  | [] => .refl _
  | y :: ys => by
    unfold insI
    split
    · exact .refl _
    · exact ((insI_perm x ys).cons y).trans (.swap x y ys)
theorem sortI_perm : ∀ xs, (sortI xs).Perm xs
  | [] => .refl _
  | x :: xs => (insI_perm x (sortI xs)).trans ((sortI_perm xs).cons x)
theorem insI_sorted (x : Int) : ∀ ys : List Int, ys.Pairwise (· ≤ ·) → (insI x ys).Pairwise (· ≤ ·)
  | [], _ => by simp [insI]
  | y :: ys, h => by
    unfold insI
    split
    · rename_i hxy
      refine List.pairwise_cons.mpr ⟨fun z hz => ?_, h⟩
      rcases List.mem_cons.mp hz with rfl | hz
      · exact hxy
      · exact Int.le_trans hxy ((List.pairwise_cons.mp h).1 z hz)
    · rename_i hxy
      refine List.pairwise_cons.mpr ⟨fun z hz => ?_, insI_sorted x ys (List.pairwise_cons.mp h).2⟩
      rcases List.mem_cons.mp ((insI_perm x ys).mem_iff.mp hz) with rfl | hz
      · omega
      · exact (List.pairwise_cons.mp h).1 z hz
theorem sortI_sorted : ∀ xs, (sortI xs).Pairwise (· ≤ ·)
  | [] => .nil
  | x :: xs => insI_sorted x _ (sortI_sorted xs)
theorem sorted_same {xs ys : List Int} (h : xs.Perm ys) (hx : xs.Pairwise (· ≤ ·)) (hy : ys.Pairwise (· ≤ ·)) : xs = ys :=
  h.eq_of_pairwise (fun a b _ _ h1 h2 => Int.le_antisymm h1 h2) hx hy
theorem vrs_ints : ∀ ns : List Int, VRs K ι H (ns.map D.int) (ns.map V.int)
  | [] => by simp [VRs]
  | n :: ns => by simp only [List.map_cons, VRs]; exact ⟨_, _, rfl, vr_int, vrs_ints ns⟩
def pSorted (m : Bool) : PL := fun ds M => match ds with
  | [d] => ((lst? d M).bind intsOf).map fun ns => mkLst m ((sortI ns).map .int) M
  | _ => none
theorem sorted_ok (m : Bool) : PLS K E (rSortedI K) (pSorted m) := fun n0 ι M H xs vs Q res a hx e h => by
  unfold pSorted at e
  split at e
  · simp only [Option.map_eq_some_iff, Option.bind_eq_some_iff] at e
    obtain ⟨ns, ⟨es, e1, e2⟩, rfl⟩ := e
    obtain ⟨v, rfl, hv⟩ := vrs1 (ds := []) hx
    obtain ⟨p, xs, rfl, h1, h2⟩ := sqL_of a.sh e1 hv
    rw [ints_of e2 h2] at h1
    refine ⟨p, ns, rfl, h1, fun ns' q hp hs hq => ?_⟩
    have : ns' = sortI ns := sorted_same (hp.trans (sortI_perm ns).symm) hs (sortI_sorted ns)
    subst this
    exact (lst_made a (vrs_ints (sortI ns)) h).2 q hq
  · cases e
end
end DL

namespace DL
open PySem PySem.Spec PyProof.Rows L2
section
variable {K : PySem.W.Frag} {E : EK} {ι ι' : Io} {H H' : Hp} {M M' : Hep} {n0 : Nat}
variable {X : Cx} {a b : Expr} {pos : Pos} {fa fb : SemE}
def pMax : PL := fun ds M => match ds with
  | [.int i, .int j] => some (.ok (.int (if j > i then j else i)) M)
  | _ => none
theorem max_ok : PLS K E (fun xs H Q => ∃ i j, xs = [V.int i, V.int j] ∧ Q (V.int (if j > i then j else i)) H) pMax := fun n0 ι M H xs vs Q res a hx e h => by
  unfold pMax at e
  split at e
  · cases e
    obtain ⟨v, u, rfl, h1, h2⟩ := vrs2 (ds := []) hx
    exact ⟨_, _, by rw [int_of h1, int_of h2], wp_ok a h _ vr_int⟩
  · cases e
def pMin : PL := fun ds M => match ds with
  | [.int i, .int j] => some (.ok (.int (if j < i then j else i)) M)
  | _ => none
theorem min_ok : PLS K E (fun xs H Q => ∃ i j, xs = [V.int i, V.int j] ∧ Q (V.int (if j < i then j else i)) H) pMin := fun n0 ι M H xs vs Q res a hx e h => by
  unfold pMin at e
  split at e
  · cases e
    obtain ⟨v, u, rfl, h1, h2⟩ := vrs2 (ds := []) hx
    exact ⟨_, _, by rw [int_of h1, int_of h2], wp_ok a h _ vr_int⟩
  · cases e
def pInt : PL := fun ds M => match ds with
  | [.int i] => some (.ok (.int i) M)
  | [.bl k] => some (.ok (.int (if k then 1 else 0)) M)
  | _ => none
theorem int_ok : PLS K E (fun xs H Q => (∃ i, xs = [V.int i] ∧ Q (V.int i) H) ∨ ∃ k, xs = [V.bl k] ∧ Q (V.int (if k = true then 1 else 0)) H) pInt := fun n0 ι M H xs vs Q res a hx e h => by
  unfold pInt at e
  split at e
  · cases e
    obtain ⟨v, rfl, h1⟩ := vrs1 (ds := []) hx
    exact .inl ⟨_, by rw [int_of h1], wp_ok a h _ vr_int⟩
  · cases e
    obtain ⟨v, rfl, h1⟩ := vrs1 (ds := []) hx
    exact .inr ⟨_, by rw [bl_of h1], wp_ok a h _ vr_int⟩
  · cases e
def pAbs : PL := fun ds M => match ds with
  | [.int i] => some (.ok (.int (if i < 0 then -i else i)) M)
  | _ => none
theorem abs_ok : PLS K E (fun xs H Q => ∃ i, xs = [V.int i] ∧ Q (V.int (if i < 0 then -i else i)) H) pAbs := fun n0 ι M H xs vs Q res a hx e h => by
  unfold pAbs at e
  split at e
  · cases e
    obtain ⟨v, rfl, h1⟩ := vrs1 (ds := []) hx
    exact ⟨_, by rw [int_of h1], wp_ok a h _ vr_int⟩
  · cases e

/-! isinstance -/
def tyName : D → Hep → Option String
  | .non, _ => some "NoneType"
  | .bl _, _ => some "bool"
  | .int _, _ => some "int"
  | .str _, _ => some "str"
  | .tup _, _ => some "tuple"
  | .fz _, _ => some "list"
  | .ro _, _ => some "list"
  | .ref m, M => match M[m]? with
    | some (.lst _) => some "list"
    | _ => none
  | .ty _, _ => none
/-- whether a thing of the one type is of the other, of those that are asked -/
def isiB (a b : String) : Option Bool := if a = b then some true else match b with
  | "int" => some (a = "bool")
  | "str" | "tuple" | "list" | "bool" => some false
  | _ => none
def pIsi : PL := fun ds M => match ds with
  | [d, .ty T] => (tyName d M).bind fun t => (isiB t T).map fun b => .ok (.bl b) M
  | _ => none
def tyNames : List String := ["NoneType", "bool", "int", "str", "tuple", "list"]
theorem isiB_kit : ∀ a ∈ tyNames, ∀ T ∈ tyNames, ∀ b, isiB a T = some b → kitB a T = some b := by decide +kernel
theorem isiB_dom {a T : String} {b : Bool} (h : isiB a T = some b) (ha : a ∈ tyNames) : T ∈ tyNames := by
  unfold isiB at h
  split at h
  · rename_i e; rw [← e]; exact ha
  · split at h
    · decide
    · decide
    · decide
    · decide
    · decide
    · cases h
theorem tyName_mem {d : D} {M : Hep} {t : String} (h : tyName d M = some t) : t ∈ tyNames := by
  unfold tyName at h
  split at h
  · cases h; decide
  · cases h; decide
  · cases h; decide
  · cases h; decide
  · cases h; decide
  · cases h; decide
  · cases h; decide
  · split at h
    · cases h; decide
    · cases h
  · cases h
theorem tyX_of (s : SH K ι M H) {d : D} {v : V} {t : String} (e : tyName d M = some t) (h : VR K ι H d v) : TyX K H v (.type t) := by
  cases d with
  | non => cases e; simp only [VR] at h; subst h; exact .base .non
  | bl b => cases e; rw [bl_of h]; exact .base (.bl b)
  | int b => cases e; rw [int_of h]; exact .base (.int b)
  | str b => cases e; rw [str_of h]; exact .base (.str _)
  | tup ds =>
    cases e
    obtain ⟨p, xs, rfl, h1, h2⟩ := tup_of h
    rcases h1 with (h1 | ⟨o, h1⟩) | ⟨o, its, n, h1, h3, _⟩
    · exact .base (.tup h1)
    · exact .fTuple h1
    · exact .kTuple h1 h3
  | fz ds =>
    cases e
    simp only [VR] at h
    obtain ⟨p, xs, rfl, h1, h2⟩ := h
    exact .base (.lst h1.1)
  | ro ds =>
    cases e
    obtain ⟨p, xs, rfl, h1, h2⟩ := sqL_of s (d := .ro ds) rfl h
    rcases h1 with (h1 | ⟨o, h1⟩) | ⟨o, its, n, h1, h3, _⟩
    · exact .base (.lst h1)
    · exact .base (.frz h1)
    · exact .kList h1 h3
  | ref m =>
    simp only [tyName] at e
    cases hm : M[m]? with
    | none => rw [hm] at e; cases e
    | some ob =>
      cases ob with
      | dct ks vs => rw [hm] at e; cases e
      | lst ds =>
        rw [hm] at e; cases e
        obtain ⟨p, xs, rfl, h1, h2⟩ := lstM_of s (d := .ref m) (by simp only [lstM?]; rw [hm]) h
        exact .base (.lst h1)
  | ty n => cases e
theorem isi_ok : PLS K E (rIsi K) pIsi := fun n0 ι M H xs vs Q res a hx e h => by
  unfold pIsi at e
  split at e
  · rename_i d T
    simp only [Option.bind_eq_some_iff, Option.map_eq_some_iff] at e
    obtain ⟨t, e1, b, e2, rfl⟩ := e
    obtain ⟨v, u, rfl, h1, h2⟩ := vrs2 (ds := []) hx
    have hu : u = .ty T := by simpa only [VR] using h2
    subst hu
    have hm := tyName_mem e1
    exact ⟨v, .ty T, _, _, b, rfl, .ty T, tyX_of a.sh e1 h1, kit_ty (isiB_kit t hm T (isiB_dom e2 hm) b e2), wp_ok a h _ vr_bl⟩
  · cases e

/-! methods -/
abbrev OpM := Nat → D → List D → Hep → Res D
/-- a method of a list: its receiver is one -/
def eMt (ok : D → Hep → Bool) (op : OpM) (o : SemE) (r : SemL) : SemE := fun n σ M => (o n σ M).bind fun x M1 => if ok x M1 then (r n σ M1).bind fun ds M2 => op n x ds M2 else .stuck
def isLst (d : D) (M : Hep) : Bool := (lst? d M).isSome
def isStr (d : D) (_ : Hep) : Bool := match d with
  | .str _ => true
  | _ => false
def MtS (K : PySem.W.Frag) (E : EK) (r : V → List V → Hp → VK → Prop) (op : OpM) : Prop := ∀ (n0 : Nat) (ι : Io) (M : Hep) (H : Hp) (x : D) (v : V) (ds : List D) (vs : List V) (Q : VK), At K n0 ι M H → VR K ι H x v → VRs K ι H ds vs → Got K E n0 ι M H Q (op n0 x ds M) → r v vs H Q
theorem T_mt {e : Expr} {T : String} {ok : D → Hep → Bool} {op : OpM} {fo : SemE} {fr : SemL} {r : V → List V → Hp → VK → Prop} (he : PE X e (tBM K T r (DL.T K E fo) (Tl K E fr)))
    (hok : ∀ ι M H x v, SH K ι M H → VR K ι H x v → ok x M = true → tyV K T v H) (hs : MtS K E r op) : PE X e (DL.T K E (eMt ok op fo fr)) :=
  PE.to he fun σ H Q ⟨n0, ι, M, σd, b, q⟩ => by
    refine ⟨n0, ι, M, σd, b, (Wp.bind q).mono fun x ι1 M1 H1 p1 q1 v hv => ?_⟩
    by_cases c : ok x M1 = true
    · rw [if_pos c] at q1
      refine ⟨hok ι1 M1 H1 x v p1.sh hv c, n0, ι1, M1, σd, b.to p1, (Wp.bind q1).mono fun ds ι2 M2 H2 p2 q2 vs hvs => ?_⟩
      exact hs n0 ι2 M2 H2 x v ds vs Q (b.at.to (p1.trans p2)) (hv.ext p2.ext) hvs q2
    · rw [if_neg c] at q1
      exact q1.elim
theorem T_mt0 {e : Expr} {T : String} {ok : D → Hep → Bool} {op : OpM} {fo : SemE} {r : V → List V → Hp → VK → Prop} (he : PE X e (tBM0 K T r (DL.T K E fo)))
    (hok : ∀ ι M H x v, SH K ι M H → VR K ι H x v → ok x M = true → tyV K T v H) (hs : MtS K E r op) : PE X e (DL.T K E (eMt ok op fo lNil)) :=
  PE.to he fun σ H Q ⟨n0, ι, M, σd, b, q⟩ => by
    refine ⟨n0, ι, M, σd, b, (Wp.bind q).mono fun x ι1 M1 H1 p1 q1 v hv => ?_⟩
    by_cases c : ok x M1 = true
    · rw [if_pos c] at q1
      refine ⟨hok ι1 M1 H1 x v p1.sh hv c, hs n0 ι1 M1 H1 x v [] [] Q (b.at.to p1) hv (by simp only [VRs]) q1⟩
    · rw [if_neg c] at q1
      exact q1.elim
theorem isLst_ty : ∀ ι M H x v, SH K ι M H → VR K ι H x v → isLst x M = true → tyV K "list" v H := fun ι M H x v s h c => by
  unfold isLst at c
  obtain ⟨ds, e⟩ := Option.isSome_iff_exists.mp c
  obtain ⟨a, xs, rfl, h1, _⟩ := sqL_of s e h
  exact .inl ⟨rfl, xs, h1⟩
theorem isStr_ty : ∀ ι M H x v, SH K ι M H → VR K ι H x v → isStr x M = true → tyV K "str" v H := fun ι M H x v s h c => by
  cases x with
  | str cs => rw [str_of h]; rfl
  | _ => cases c
/-- the list m holds ds' from now on; what is not this def's own holds plain values alone -/
def setOb (n m : Nat) (ds' : List D) (r : D) (M : Hep) : Res D := if decide (n ≤ m) || lows 0 ds' then .ok r (M.set m (.lst ds')) else .stuck
def mApp : OpM := fun n x ds M => match x, ds with
  | .ref m, [d] => match M[m]? with
    | some (.lst es) => if es.length < sizeLine then setOb n m (es ++ [d]) .non M else .stuck
    | _ => .stuck
  | _, _ => .stuck
theorem ref_of (s : SH K ι M H) {m : Nat} {v : V} {ds : List D} (h : VR K ι H (.ref m) v) (e : M[m]? = some (.lst ds)) : ∃ a xs, v = .ref a ∧ ι[m]? = some a ∧ H a = some (.lst xs) ∧ VRs K ι H ds xs := by
  simp only [VR] at h
  obtain ⟨a, e1, e2⟩ := h
  obtain ⟨xs, h1, h2⟩ := s.ob m _ a e e2
  exact ⟨a, xs, e1, e2, h1, h2⟩
theorem setOb_got {m : Nat} {ds' : List D} {r : D} {Q : VK} {c : Addr} {xs xs' : List V} {v : V} (a : At K n0 ι M H) (hm : ι[m]? = some c) (hc : H c = some (.lst xs)) (hv : VRs K ι H ds' xs') (hr : ∀ H', Ext ι H ι H' → VR K ι H' r v) (h : Got K E n0 ι M H Q (setOb n0 m ds' r M)) :
    Q v (upd H c (.lst xs')) := by
  unfold setOb at h
  split at h
  · rename_i hc2
    simp only [Bool.or_eq_true, decide_eq_true_eq] at hc2
    have p := post_mut (n0 := n0) a.sh hm hc hv hc2
    exact h _ _ p v (hr _ p.ext)
  · exact h.elim
theorem app_ok' : MtS K E rAppend mApp := fun n0 ι M H x v ds vs Q a hx hd h => by
  unfold mApp at h
  split at h
  · rename_i m d
    split at h
    · rename_i es e1
      split at h
      · rename_i hl
        obtain ⟨c, xs, rfl, e2, e3, e4⟩ := ref_of a.sh hx e1
        obtain ⟨u, rfl, h1⟩ := vrs1 (ds := []) hd
        exact ⟨c, xs, u, rfl, rfl, e3, by rw [← vrs_len e4]; exact hl, setOb_got a e2 e3 (vrs_app e4 hd) (fun _ _ => vr_non) h⟩
      · exact h.elim
    · exact h.elim
  · exact h.elim
def mExt : OpM := fun n x ds M => match x, ds with
  | .ref m, [d] => match M[m]?, lstM? d M with
    | some (.lst es), some fs => if strFits (es.length + fs.length) then setOb n m (es ++ fs) .non M else .stuck
    | _, _ => .stuck
  | _, _ => .stuck
theorem ext_ok' : MtS K E rExtend mExt := fun n0 ι M H x v ds vs Q a hx hd h => by
  unfold mExt at h
  split at h
  · rename_i m d
    split at h
    · rename_i es fs e1 ef
      split at h
      · rename_i hl
        obtain ⟨c, xs, rfl, e2, e3, e4⟩ := ref_of a.sh hx e1
        obtain ⟨u, rfl, h1⟩ := vrs1 (ds := []) hd
        obtain ⟨c2, ys, rfl, e5, e6⟩ := lstM_of a.sh ef h1
        exact ⟨c, c2, xs, ys, rfl, rfl, e3, e5, by rw [← vrs_len e4, ← vrs_len e6]; exact strFits_of hl, setOb_got a e2 e3 (vrs_app e4 e6) (fun _ _ => vr_non) h⟩
      · exact h.elim
    · exact h.elim
  · exact h.elim
theorem vrs_erase : ∀ {ds : List D} {xs : List V} (k : Nat), VRs K ι H ds xs → VRs K ι H (ds.eraseIdx k) (xs.eraseIdx k)
  | [], xs, k, h => by simp only [VRs] at h; subst h; simp [VRs]
  | d :: ds, xs, 0, h => by
    simp only [VRs] at h
    obtain ⟨x, r, rfl, h1, h2⟩ := h
    simpa using h2
  | d :: ds, xs, k + 1, h => by
    simp only [VRs] at h
    obtain ⟨x, r, rfl, h1, h2⟩ := h
    simp only [List.eraseIdx_cons_succ, VRs]
    exact ⟨x, _, rfl, h1, vrs_erase k h2⟩
theorem vrs_set : ∀ {ds : List D} {xs : List V} {d : D} {v : V} (k : Nat), VRs K ι H ds xs → VR K ι H d v → VRs K ι H (ds.set k d) (xs.set k v)
  | [], xs, d, v, k, h, hv => by simp only [VRs] at h; subst h; simp [VRs]
  | _ :: ds, xs, d, v, 0, h, hv => by
    simp only [VRs] at h
    obtain ⟨x, r, rfl, h1, h2⟩ := h
    simp only [List.set_cons_zero, VRs]
    exact ⟨v, r, rfl, hv, h2⟩
  | _ :: ds, xs, d, v, k + 1, h, hv => by
    simp only [VRs] at h
    obtain ⟨x, r, rfl, h1, h2⟩ := h
    simp only [List.set_cons_succ, VRs]
    exact ⟨x, _, rfl, h1, vrs_set k h2 hv⟩
def mPopAt : OpM := fun n x ds M => match x, ds with
  | .ref m, [.int i] => match M[m]? with
    | some (.lst es) => if decide (-(2 ^ 63) ≤ i) && decide (i < 2 ^ 63) then match seqIndex? i es.length with
        | some k => match es[k]? with
          | some d => setOb n m (es.eraseIdx k) d M
          | none => .stuck
        | none => .stuck
      else .stuck
    | _ => .stuck
  | _, _ => .stuck
theorem popAt_ok' : MtS K E rPopAt mPopAt := fun n0 ι M H x v ds vs Q a hx hd h => by
  unfold mPopAt at h
  split at h
  · rename_i m i
    split at h
    · rename_i es e1
      split at h
      · rename_i hb
        simp only [Bool.and_eq_true, decide_eq_true_eq] at hb
        split at h
        · rename_i k ek
          split at h
          · rename_i d ed
            obtain ⟨c, xs, rfl, e2, e3, e4⟩ := ref_of a.sh hx e1
            obtain ⟨u, rfl, h1⟩ := vrs1 (ds := []) hd
            obtain ⟨y, ey, hy⟩ := vrs_get e4 ed
            exact ⟨c, xs, i, k, y, rfl, by rw [int_of h1], e3, hb.1, hb.2, by rw [← vrs_len e4]; exact ek, ey, setOb_got a e2 e3 (vrs_erase k e4) (fun _ e => hy.ext e) h⟩
          · exact h.elim
        · exact h.elim
      · exact h.elim
    · exact h.elim
  · exact h.elim
def mPop : OpM := fun n x ds M => match x, ds with
  | .ref m, [] => match M[m]? with
    | some (.lst es) => match es[es.length - 1]? with
      | some d => setOb n m es.dropLast d M
      | none => .stuck
    | _ => .stuck
  | _, _ => .stuck
theorem vrs_dropLast {ds : List D} {xs : List V} (h : VRs K ι H ds xs) : VRs K ι H ds.dropLast xs.dropLast := by
  rw [List.dropLast_eq_take, List.dropLast_eq_take, vrs_len h]
  exact vrs_take _ h
theorem pop_ok' : MtS K E rPop mPop := fun n0 ι M H x v ds vs Q a hx hd h => by
  unfold mPop at h
  split at h
  · rename_i m
    split at h
    · rename_i es e1
      split at h
      · rename_i d ed
        obtain ⟨c, xs, rfl, e2, e3, e4⟩ := ref_of a.sh hx e1
        obtain ⟨y, ey, hy⟩ := vrs_get e4 ed
        have hv : vs = [] := by simpa only [VRs] using hd
        exact ⟨c, xs, y, rfl, hv, e3, by rw [← vrs_len e4]; exact ey, setOb_got a e2 e3 (vrs_dropLast e4) (fun _ e => hy.ext e) h⟩
      · exact h.elim
    · exact h.elim
  · exact h.elim
/-- "sep".join(texts) -/
def joinC (a : List Nat) : List (List Nat) → List Nat
  | [] => []
  | [x] => x
  | x :: y :: r => x ++ a ++ joinC a (y :: r)
def mJoin : OpM := fun _ x ds M => match x, ds with
  | .str a, [d] => match (seq? d M).bind strsOf with
    | some ys => if decide ((ys.map (·.length)).sum + ys.length * a.length ≤ 16777216) then .ok (.str (joinC a ys)) M else .stuck
    | none => .stuck
  | _, _ => .stuck
theorem joinC_tl (a : List Nat) : ∀ ys : List (List Nat), (Str.join (S a) (ys.map S)).cps.toList = joinC a ys
  | [] => rfl
  | [x] => by simp [Str.join, S, joinC]
  | x :: y :: r => by
    have ih := joinC_tl a (y :: r)
    show (S x ++ S a ++ Str.join (S a) ((y :: r).map S)).cps.toList = _
    have e : ∀ u v : Str, (u ++ v).cps.toList = u.cps.toList ++ v.cps.toList := fun u v => by
      show (Str.append u v).cps.toList = _
      unfold Str.append
      simp
    rw [e, e, ih]
    simp [S, joinC]
theorem str_ext {x : Str} {l : List Nat} (h : x.cps.toList = l) : x = S l := by
  cases x
  simp only [S, Str.mk.injEq]
  rw [← h]
theorem join_ok' : MtS K E (fun x xs H Q => ∃ a p, ∃ ys : List Str, x = V.str a ∧ xs = [V.ref p] ∧ (SqL K H p (List.map V.str ys) ∨ SqT K H p (List.map V.str ys)) ∧ (List.map (fun x => x.length) ys).sum + ys.length * a.length ≤ 16777216 ∧ Q (V.str (Txt.join a ys)) H) mJoin := fun n0 ι M H x v ds vs Q a hx hd h => by
  unfold mJoin at h
  split at h
  · rename_i cs d
    split at h
    · rename_i ys e
      split at h
      · rename_i hl
        have hl := of_decide_eq_true hl
        simp only [Option.bind_eq_some_iff] at e
        obtain ⟨es, e1, e2⟩ := e
        obtain ⟨u, rfl, h1⟩ := vrs1 (ds := []) hd
        obtain ⟨p, xs, rfl, h2, h3⟩ := seq_of a.sh e1 h1
        rw [strs_of e2 h3] at h2
        refine ⟨S cs, p, ys.map S, str_of hx, rfl, h2, ?_, ?_⟩
        · have : (ys.map S).map (fun x => x.length) = ys.map (·.length) := by rw [List.map_map]; congr 1
          rw [this, List.length_map]
          exact hl
        · have : Txt.join (S cs) (ys.map S) = S (joinC cs ys) := str_ext (by rw [TL.join_eq]; exact joinC_tl cs ys)
          rw [this]
          exact wp_ok a h _ vr_str
      · exact h.elim
    · exact h.elim
  · exact h.elim
theorem pset_or {X : Cx} {r r' : TSet} (h : PSet X r) (h' : PSet X r') : PSet X (fun o i v H Q => r o i v H Q ∨ r' o i v H Q) := fun pins s σ H o i v ov iv u Q I ro ri rv q => by
  rcases q with q | q
  · exact h pins s σ H o i v ov iv u Q I ro ri rv q
  · exact h' pins s σ H o i v ov iv u Q I ro ri rv q
def setDc (n m : Nat) (p : List D × List D) (M : Hep) : Res Unit := if (decide (n ≤ m) || (lows 0 p.1 && lows 0 p.2)) && decide (p.1.length ≤ sizeLine) then .ok () (M.set m (.dct p.1 p.2)) else .stuck
/-- xs[i] = e, d[k] = e -/
def gSub (fo fi : SemE) : SemG := fun n d σ M => (fo n σ M).bind fun x M1 => (fi n σ M1).bind fun i M2 => match x with
  | .ref m => match M2[m]? with
    | some (.lst es) => match i with
      | .int k => match ixN es.length k with
        | some j => (setOb n m (es.set j d) .non M2).bind fun _ M3 => .ok σ M3
        | none => .stuck
      | _ => .stuck
    | some (.dct ks vs) => if keyD i && decide (ks.length < sizeLine) then (setDc n m (putD ks vs i d) M2).bind fun _ M3 => .ok σ M3 else .stuck
    | none => .stuck
  | _ => .stuck
theorem G_sub {o i : Expr} {spos : Pos} {fo fi : SemE} (vs : List Nat) (ho : PE X o (DL.T K E fo)) (hi : PE X i (DL.T K E fi)) (h : PG X (.Subscript o i spos) (L2.gSub (DL.T K E fo) (DL.T K E fi) (fun o i v H Q => rSetL o i v H Q ∨ rSetD o i v H Q))) : PG X (.Subscript o i spos) (Tgw K E vs (gSub fo fi)) :=
  PG.to h fun v σ H Q ⟨n0, ι, M, σd, d, b, hv, q⟩ => by
    refine ⟨n0, ι, M, σd, b, (Wp.bind q).mono fun x ι1 M1 H1 p1 q1 ov hov => ?_⟩
    refine ⟨n0, ι1, M1, σd, b.to p1, (Wp.bind q1).mono fun k ι2 M2 H2 p2 q2 iv hiv => ?_⟩
    split at q2
    · rename_i m
      split at q2
      · rename_i es e1
        split at q2
        · rename_i k
          split at q2
          · rename_i j ej
            obtain ⟨c, xs, rfl, e2, e3, e4⟩ := ref_of p2.sh (hov.ext p2.ext) e1
            refine .inl ⟨c, xs, k, j, rfl, int_of hiv, e3, by rw [← vrs_len e4]; exact ej, ?_⟩
            have hvs : VRs K ι2 H2 (es.set j d) (xs.set j v) := vrs_set j e4 ((hv.ext p1.ext).ext p2.ext)
            unfold setOb at q2
            split at q2
            · rename_i hc2
              simp only [Bool.or_eq_true, decide_eq_true_eq] at hc2
              have p := post_mut (n0 := n0) p2.sh e2 e3 hvs hc2
              exact q2 _ _ p σ (((b.er.ext p1.ext).ext p2.ext).ext p.ext) rfl
            · exact q2.elim
          · exact q2.elim
        · exact q2.elim
      · rename_i ks ws e1
        split at q2
        · rename_i hk
          simp only [Bool.and_eq_true, decide_eq_true_eq] at hk
          obtain ⟨m', c, kvs, e0, rfl, e2, e3, e4, e5⟩ := dct_of p2.sh (d := .ref m) (by simp only [dct?]; rw [e1]) (hov.ext p2.ext)
          cases e0
          have kv := key_V hk.1 hiv
          obtain ⟨h1, h2⟩ := putD_V hk.1 (by rw [← kv]; exact hiv) ((hv.ext p1.ext).ext p2.ext) e4 e5
          have hlen : kvs.length < sizeLine := by
            have := vrs_len e4
            rw [List.length_map] at this
            omega
          refine .inr ⟨c, _, rfl, by rw [kv]; exact DPut.k e3 hlen, ?_⟩
          unfold setDc at q2
          split at q2
          · rename_i hc2
            simp only [Bool.and_eq_true, Bool.or_eq_true, decide_eq_true_eq] at hc2
            have p := post_mutD (n0 := n0) p2.sh e2 e3 h1 h2 (by simpa using hc2.1)
            exact q2 _ _ p σ (((b.er.ext p1.ext).ext p2.ext).ext p.ext) rfl
          · exact q2.elim
        · exact q2.elim
      · exact q2.elim
    · exact q2.elim
end
end DL

namespace DL
open PySem PySem.Spec PyProof.Rows L2
section
variable {X : Cx} {K : PySem.W.Frag} {E : EK}
/-! a chain of three -/
def tChain3 (r r' r'' : R2) (ta tb tc td : TE) : TE := fun σ H Q => ta σ H fun x H1 => tb σ H1 fun y H2 => r x y H2 fun z H3 => ∃ k, z = .bl k ∧
  (if k = true then tc σ H3 fun w H4 => r' y w H4 fun z' H5 => ∃ k', z' = .bl k' ∧ (if k' = true then td σ H5 fun v H6 => r'' w v H6 Q else Q (.bl false) H5) else Q (.bl false) H3)
theorem pe_chain3 {a b c d : Expr} {ta tb tc td : TE} {op op' op'' : CmpOp} {r r' r'' : R2} {pos : Pos}
    (ho : OpR X (compareOp op) r) (ho' : OpR X (compareOp op') r') (ho'' : OpR X (compareOp op'') r'')
    (ha : PE X a ta) (hb : PE X b tb) (hc : PE X c tc) (hd : PE X d td) (hm : lastMarks [op, op', op''] [b, c, d] = false) :
    PE X (.Compare a [op, op', op''] [b, c, d] pos) (tChain3 r r' r'' ta tb tc td) := by
  constructor
  intro pins s σ H Q I h
  refine Compare_chain (ops := [op'']) (rs := [d]) (thn (ha.run pins s σ H _ I h) fun v s1 ⟨x, H1, I1, r1, q1⟩ => ?_) hm
  refine chain_link (thn (hb.run pins s1 σ H1 _ I1 q1) fun u s2 ⟨y, H2, I2, r2, q2⟩ => ?_)
  refine thn (ho pins s2 σ H2 x y v u _ I2 r1 r2 q2) fun _ s3 ⟨z, H3, I3, r3, k, e, q3⟩ => ?_
  subst e
  cases r3
  apply wpAny_truthy_bool
  cases k with
  | false => exact ite_ff ⟨.bl false, H3, I3, rfl, q3⟩
  | true =>
    refine ite_tt (chain_link (thn (hc.run pins s3 σ H3 _ I3 q3) fun w s4 ⟨z, H4, I4, r4, q4⟩ => ?_))
    refine thn (ho' pins s4 σ H4 y z u w _ I4 r2 r4 q4) fun _ s5 ⟨z', H5, I5, r5, k', e', q5⟩ => ?_
    subst e'
    cases r5
    apply wpAny_truthy_bool
    cases k' with
    | false => exact ite_ff ⟨.bl false, H5, I5, rfl, q5⟩
    | true => exact ite_tt (chain_last (thn (hd.run pins s5 σ H5 _ I5 q5) fun w' s6 ⟨z'', H6, I6, r6, q6⟩ => ho'' pins s6 σ H6 z z'' w w' Q I6 r4 r6 q6))
def eChain3 (o o' o'' : Ord) (a b c d : SemE) : SemE := fun n σ M => (a n σ M).bind fun x M1 => (b n σ M1).bind fun y M2 => (o.op x y M2).bind fun r M3 => match r with
  | .bl true => (c n σ M3).bind fun z M4 => (o'.op y z M4).bind fun r M5 => match r with
    | .bl true => (d n σ M5).bind fun w M6 => o''.op z w M6
    | .bl false => .ok (.bl false) M5
    | _ => .stuck
  | .bl false => .ok (.bl false) M3
  | _ => .stuck
theorem b_chain3 {a b c d : Expr} {fa fb fc fd : SemE} {pos : Pos} (o o' o'' : Ord) (ha : PE X a (T K E fa)) (hb : PE X b (T K E fb)) (hc : PE X c (T K E fc)) (hd : PE X d (T K E fd)) (hm : lastMarks [o.cmp, o'.cmp, o''.cmp] [b, c, d] = false) :
    PE X (.Compare a [o.cmp, o'.cmp, o''.cmp] [b, c, d] pos) (T K E (eChain3 o o' o'' fa fb fc fd)) := by
  obtain ⟨r, h1, h2⟩ := o.rule X K E
  obtain ⟨r', h3, h4⟩ := o'.rule X K E
  obtain ⟨r'', h5, h6⟩ := o''.rule X K E
  refine PE.to (pe_chain3 h1 h3 h5 ha hb hc hd hm) fun σ H Q ⟨n0, ι, M, σd, b, q⟩ => ?_
  refine ⟨n0, ι, M, σd, b, (Wp.bind q).mono fun x ι1 M1 H1 p1 q1 v hv => ?_⟩
  refine ⟨n0, ι1, M1, σd, b.to p1, (Wp.bind q1).mono fun y ι2 M2 H2 p2 q2 u hu => ?_⟩
  refine h2 n0 ι2 M2 H2 x y v u _ (b.at.to (p1.trans p2)) (hv.ext p2.ext) hu ((Wp.bind q2).mono fun dd ι3 M3 H3 p3 q3 z hz => ?_)
  cases dd with
  | bl k =>
    refine ⟨k, bl_of hz, ?_⟩
    cases k with
    | false => exact iteF (q3 ι3 H3 (Post.refl p3.sh) _ vr_bl)
    | true =>
      have P3 := p1.trans (p2.trans p3)
      refine iteT ⟨n0, ι3, M3, σd, b.to P3, (Wp.bind q3).mono fun w' ι4 M4 H4 p4 q4 t ht => ?_⟩
      refine h4 n0 ι4 M4 H4 y w' u t _ (b.at.to (P3.trans p4)) (hu.ext (p3.ext.trans p4.ext)) ht ((Wp.bind q4).mono fun dd ι5 M5 H5 p5 q5 z' hz' => ?_)
      cases dd with
      | bl k' =>
        refine ⟨k', bl_of hz', ?_⟩
        cases k' with
        | false => exact iteF (q5 ι5 H5 (Post.refl p5.sh) _ vr_bl)
        | true =>
          have P5 := P3.trans (p4.trans p5)
          refine iteT ⟨n0, ι5, M5, σd, b.to P5, (Wp.bind q5).mono fun w2 ι6 M6 H6 p6 q6 t2 ht2 => ?_⟩
          exact h6 n0 ι6 M6 H6 w' w2 t t2 Q (b.at.to (P5.trans p6)) (ht.ext (p5.ext.trans p6.ext)) ht2 q6
      | _ => exact q5.elim
  | _ => exact q3.elim
/-! repr -/
def rReprD (K : PySem.W.Frag) : List V → Hp → VK → Prop := fun xs H Q => ∃ x p, xs = [x] ∧ Dp K H x p ∧ p.showable = true ∧ p.hasDict = false ∧ p.depth ≤ 60 ∧ p.shown.length ≤ sizeLine ∧ Q (.str p.shown) H
theorem call_reprD {k : Nat} (hg : X.A.guards = some []) (hr : Room k X.A) : CallR X (.builtin "repr") (rReprD X.K) := by
  intro pins s σ H xs us Q I r h
  obtain ⟨x, p, rfl, hd, h1, h2, h3, h4, q⟩ := h
  obtain ⟨u, rfl, ru⟩ := r.one
  have un := hr.units
  have big : ∀ {a : Addr} {as : List Addr}, u = .ref a → Reads s.heap u p as → wpAny (model X.prog X.w) X.A (call (.builtin "repr") [u]) (EP X pins σ Q) X.xe s := by
    intro a as e rd
    subst e
    refine repr_of_reads' rd h1 (fun z => by rw [h2] at z; cases z) hg (by omega) (fun _ _ e => e) (fun h' t tk keep => ?_) h4
    exact ⟨.str p.shown, H, I.kept (t' := tk) keep, ⟨_, rfl⟩, q⟩
  obtain ⟨as, rd⟩ := Dp.reads I p x u hd ru
  cases hd with
  | non => cases ru; exact PySem.P.repr_of_none ⟨.str _, H, I.tok _, ⟨_, rfl⟩, by simpa [PyData.shown] using q⟩
  | bl b => cases ru; exact PySem.P.repr_of_bool ⟨.str _, H, I.tok _, ⟨_, rfl⟩, by simpa [PyData.shown] using q⟩
  | int i =>
    obtain ⟨t, rfl⟩ := ru
    exact PySem.P.repr_of_int (by simpa [PyData.showable] using h1) ⟨.str _, H, I.tok _, ⟨_, rfl⟩, by simpa [PyData.shown] using q⟩
  | str z =>
    obtain ⟨t, rfl⟩ := ru
    exact PySem.P.repr_of_str ⟨.str _, H, I.tok _, ⟨_, rfl⟩, by simpa [PyData.shown] using q⟩ (by simpa [PyData.shown] using h4)
  | lst h5 h6 => exact big ru rd
  | tup h5 h6 => exact big ru rd
def reprOk (p : PyData) : Bool := p.showable && !p.hasDict && decide (p.depth ≤ 60) && decide (p.shown.length ≤ sizeLine)
def pRepr : PL := fun ds M => match ds with
  | [d] => (pyOf M d).bind fun p => if reprOk p then some (.ok (.str p.shown.cps.toList) M) else none
  | _ => none
theorem repr_ok : PLS K E (rReprD K) pRepr := fun n0 ι M H xs vs Q res a hx e h => by
  unfold pRepr at e
  split at e
  · simp only [Option.bind_eq_some_iff] at e
    obtain ⟨p, e1, e2⟩ := e
    split at e2
    · rename_i hok
      cases e2
      unfold reprOk at hok
      simp only [Bool.and_eq_true, Bool.not_eq_true', decide_eq_true_eq] at hok
      obtain ⟨v, rfl, hv⟩ := vrs1 (ds := []) hx
      refine ⟨v, p, rfl, dp_pyOf a.sh e1 hv, hok.1.1.1, hok.1.1.2, hok.1.2, hok.2, ?_⟩
      have := wp_ok a h _ vr_str
      simpa using this
    · cases e2
  · cases e
end
end DL

namespace DL
open PySem PySem.Spec PyProof.Rows L2
section
variable {prog : Program} {w : World} {A : Around} {E : Value → Shared → Prop} {s : Shared}
theorem adj_rev (n : Nat) : Builtin.Slice.sliceAdjust none none (-1) (n : Int) = ((n : Int) - 1, -1) := by
  unfold Builtin.Slice.sliceAdjust
  simp
theorem places_rev (n : Nat) : Builtin.Slice.slicePlaces ((n : Int) - 1) (-1) (-1) = n := by
  unfold Builtin.Slice.slicePlaces
  rw [if_neg (by decide)]
  by_cases h : (n : Int) - 1 > -1
  · rw [if_pos h, show (-(-1) : Int) = 1 by decide, Int.ediv_one]; omega
  · rw [if_neg h]; omega
theorem fm_congr {α β : Type} {f g : α → Option β} : ∀ {l : List α}, (∀ x ∈ l, f x = g x) → l.filterMap f = l.filterMap g
  | [], _ => rfl
  | x :: l, h => by
    rw [List.filterMap_cons, List.filterMap_cons, h x (List.mem_cons_self), fm_congr fun y hy => h y (List.mem_cons_of_mem _ hy)]
theorem pick_rev (xs : Array Value) : ((List.range xs.size).filterMap fun (m : Nat) => xs[(((xs.size : Int) - 1) + (m : Int) * (-1)).toNat]?).toArray = xs.toList.reverse.toArray := by
  congr 1
  have e : ((List.range xs.size).filterMap fun (m : Nat) => xs[(((xs.size : Int) - 1) + (m : Int) * (-1)).toNat]?) = ((List.range xs.size).map fun k => xs.size - 1 - k).filterMap (xs[·]?) := by
    rw [List.filterMap_map]
    apply fm_congr
    intro m hm
    have := List.mem_range.mp hm
    show xs[(((xs.size : Int) - 1) + (m : Int) * (-1)).toNat]? = xs[xs.size - 1 - m]?
    rw [show (((xs.size : Int) - 1) + (m : Int) * (-1)).toNat = xs.size - 1 - m by omega]
  rw [e, PySem.W.krv_range, List.filterMap_reverse, PySem.W.krv_all]
theorem applied_rev {sl : Addr} {vs : Value} {n : Nat} {Q : Int × Int × Nat → Shared → Prop}
    (hs : s.heap.IsSliceOf sl .none .none vs) (ps : IsPart vs (some (-1))) (h : Q ((n : Int) - 1, -1, n) s) :
    wpAny (model prog w) A (Builtin.Slice.sliceApplied (.ref sl) (pure (n : Int))) Q E s := by
  obtain ⟨os, hos, hcs, hds⟩ := id hs
  unfold Builtin.Slice.sliceApplied Builtin.Slice.sliceFields
  refine wpAny_bind (wpAny_bind (wpAny_field hos hds (x := .none) rfl ?_))
  refine wpAny_bind (wpAny_field hos hds (x := .none) rfl ?_)
  refine wpAny_bind (wpAny_field hos hds (x := vs) rfl (wpAny_pure ?_))
  refine wpAny_bind (HT.slicePart_ ps ?_)
  show wpAny _ _ (if ((-1 : Int) == 0) = true then _ else _) _ _ s
  rw [if_neg (by decide)]
  refine wpAny_bind (HT.slicePart_ .none ?_)
  refine wpAny_bind (HT.slicePart_ .none ?_)
  refine wpAny_bind (wpAny_pure ?_)
  show wpAny _ _ (match Builtin.Slice.sliceAdjust none none (-1) (n : Int) with | (lo, hi) => pure (lo, (-1 : Int), Builtin.Slice.slicePlaces lo hi (-1))) _ _ s
  rw [adj_rev]
  show wpAny _ _ (pure ((n : Int) - 1, (-1 : Int), Builtin.Slice.slicePlaces ((n : Int) - 1) (-1) (-1))) _ _ s
  rw [places_rev]
  exact wpAny_pure h
theorem get_rev {t sl : Addr} {items : Array Value} {vs : Value} {Q : Value → Shared → Prop}
    (ht : IsTup s.heap t items) (hs : s.heap.IsSliceOf sl .none .none vs) (ps : IsPart vs (some (-1))) (hsz : items.size ≤ sizeLine)
    (h : Q (.ref s.heap.objs.size) { s with heap := s.heap.push { cls := .type "tuple", data := .seq items.toList.reverse.toArray } }) :
    wpAny (model prog w) A (getItem (.ref t) (.ref sl)) Q E s := by
  have fits : sizeOk (.seq items.toList.reverse.toArray) := by
    show items.toList.reverse.toArray.size ≤ sizeLine
    simpa using hsz
  obtain ⟨os, hos, hcs, hds⟩ := id hs
  have ty : s.TypeIs (.ref sl) "slice" := ⟨os, hos, hcs⟩
  unfold getItem
  try with_reducible refine wpAny_holding ?_
  first | refine wpAny_bind (wpAny_pure ?_) | skip
  refine wpAny_bind (wpAny_sequenceKey ht.typeIs (by decide) ?_)
  refine wpAny_bind (wpAny_callSpecial?_slot (name := Str.ofString "__getitem__") ht.typeIs PyProof.Rows.slot_tuple_getitem (wpAny_call_entry PyProof.Rows.slot_tuple_getitem ht.typeIs entry_tuple_getitem ?_ (args_tuple_getitem _ _)))
  show wpAny _ _ (Builtin.Tuple.tupleItemsOf (.ref t) >>= _) _ _ s
  refine wpAny_bind (tupleItemsOf_ ht ?_)
  refine wpAny_bind (wpAny_typeOf ty ?_)
  rw [if_pos (by decide)]
  refine wpAny_bind (applied_rev hs ps ?_)
  have no : ¬ ((((items.size : Int) - 1) == 0 && (-1 : Int) == 1 && items.size == items.size) = true) := by simp
  show wpAny _ _ (if (((items.size : Int) - 1) == 0 && (-1 : Int) == 1 && items.size == items.size) = true then _ else _) _ _ s
  rw [if_neg no, pick_rev]
  first
    | exact wpAny_bind (m := Builtin.Tuple.tupleExact _) (wpAny_newObj_type (wpAny_pure ⟨_, rfl, wpAny_pure h⟩) fits)
    | exact wpAny_bind (m := Builtin.Tuple.tupleExact _) (wpAny_newObj_type (wpAny_bind (wpAny_pure (wpAny_pure ⟨_, rfl, wpAny_pure h⟩))) fits)
    | exact wpAny_bind (wpAny_bind (m := Builtin.Tuple.tupleExact _) (wpAny_newObj_type (wpAny_pure (wpAny_pure ⟨_, rfl, wpAny_pure h⟩)) fits))
    | exact wpAny_bind (wpAny_bind (m := Builtin.Tuple.tupleExact _) (wpAny_newObj_type (wpAny_pure ⟨_, rfl, wpAny_pure h⟩) fits))
end
section
variable {X : Cx} {K : PySem.W.Frag} {E : EK}
def rRevT (K : PySem.W.Frag) : V → Hp → VK → Prop := fun x H Q => ∃ a xs, x = .ref a ∧ SqT K H a xs ∧ ∀ p, H p = none → Q (.ref p) (upd H p (.tup xs.reverse))
theorem pe_revT {e : Expr} {te : TE} {k : Nat} {p1 p2 p3 pos : Pos} (he : PE X e te) :
    PE X (.Subscript e (.Slice none none (some (.UnaryOp .USub (.Constant (.int 1) k p1) p2)) p3) pos) (fun σ H Q => te σ H fun x H1 => rRevT X.K x H1 Q) := by
  constructor
  intro pins s σ H Q I h
  refine Subscript_ (thn (he.run pins s σ H _ I h) fun v s1 ⟨x, H1, I1, r1, q1⟩ => ?_)
  obtain ⟨a, xs, rfl, hx, q⟩ := q1
  cases r1
  have st : PO X (some (.UnaryOp .USub (.Constant (.int 1) k p1) p2)) (tPart (tUn (rU fun i => .int (-i)) (tC (.int 1)))) := po_some (pe_un un_neg pe_int)
  have no := fun (s : Shared) (I : Inv X pins σ H1 s) => po_none.run pins s σ H1 (fun o H2 => o = none ∧ H2 = H1) I ⟨rfl, rfl⟩
  refine wpAny_Slice (thn (no s1 I1) fun vl s2 ⟨l, H2, I2, pl, el, e2⟩ => ?_)
  rw [e2] at I2
  rw [el] at pl
  refine thn (no s2 I2) fun vu s3 ⟨u, H3, I3, pu, eu, e3⟩ => ?_
  rw [e3] at I3
  rw [eu] at pu
  refine thn (st.run pins s3 σ H1 (fun o H4 => o = some (-1) ∧ H4 = H1) I3 ⟨1, rfl, -1, rfl, rfl, rfl⟩) fun vs s4 ⟨o, H4, I4, ps, eo, e4⟩ => ?_
  rw [e4] at I4
  rw [eo] at ps
  cases pl
  cases pu
  have I5 : Inv X pins σ H1 { s4 with heap := s4.heap.push { cls := .type "slice", data := .fields #[.none, .none, vs] } } := I4.kept (t' := s4.toks) fun b ob q => Heap.get?_push_of_some _ q
  obtain ⟨its, r, ht, hz⟩ := I5.tuple hx
  have hl := r.length
  have zs : its.toArray.size ≤ sizeLine := by rw [List.size_toArray]; omega
  show wpAny (model X.prog X.w) X.A (subscriptTail e (.Slice none none (some (.UnaryOp .USub (.Constant (.int 1) k p1) p2)) p3) (.ref a) (.ref s4.heap.objs.size)) (EP X pins σ Q) X.xe _
  refine tail_any (ops := [.ref a, .ref s4.heap.objs.size]) ht.typeIs (PyProof.Rows.slot_tuple_getitem.lookup) ?_ (by with_unfolding_all rfl)
  refine get_rev ht (Heap.IsSliceOf.new _ .none .none vs) ps zs ?_
  refine ⟨.ref _, _, I5.laid (t' := s4.toks) (o := .tup xs.reverse) (fun b ob q => Heap.get?_push_of_some _ q) (Nat.le_refl _) ?_, rfl, q _ (I5.hok.fresh (Nat.le_refl _))⟩
  exact ⟨by rw [List.length_reverse]; exact hz, _, r.reverse, ⟨_, Heap.get?_push_size _ rfl, rfl, _, rfl⟩⟩
theorem vrs_rev {ι : Io} {H : Hp} : ∀ {ds : List D} {xs : List V}, VRs K ι H ds xs → VRs K ι H ds.reverse xs.reverse
  | [], xs, h => by simp only [VRs] at h; subst h; simp [VRs]
  | d :: ds, xs, h => by
    simp only [VRs] at h
    obtain ⟨x, r, rfl, h1, h2⟩ := h
    rw [List.reverse_cons, List.reverse_cons]
    exact vrs_app (vrs_rev h2) (by simp only [VRs]; exact ⟨x, [], rfl, h1, rfl⟩)
/-- x[::-1], a tuple or a list -/
def opRev (m : Bool) : Op1 := fun x M => match x with
  | .tup ds => .ok (.tup ds.reverse) M
  | x => match lst? x M with
    | some ds => mkLst m ds.reverse M
    | none => .stuck
def isRev : Expr → Bool
  | .Slice none none (some (.UnaryOp .USub (.Constant (.int i) _ _) _)) _ => decide (i = 1)
  | _ => false
theorem b_rev {e : Expr} {fe : SemE} {k : Nat} {p1 p2 p3 pos : Pos} (m : Bool) (hK : X.K = K) (he : PE X e (T K E fe)) :
    PE X (.Subscript e (.Slice none none (some (.UnaryOp .USub (.Constant (.int 1) k p1) p2)) p3) pos) (T K E (eUn (opRev m) fe)) := by
  subst hK
  constructor
  intro pins s σ H Q I h
  obtain ⟨n0, ι, M, σd, b, q⟩ := id h
  unfold eUn at q
  have q := Wp.bind q
  cases hr : fe n0 σd M with
  | stuck => rw [hr] at q; exact q.elim
  | err c M1 =>
    rw [hr] at q
    exact (pe_revT he).run pins s σ H Q I ⟨n0, ι, M, σd, b, by rw [hr]; exact q⟩
  | ok d M1 =>
    rw [hr] at q
    cases d with
    | tup ds =>
      refine (pe_revT he).run pins s σ H Q I ⟨n0, ι, M, σd, b, ?_⟩
      rw [hr]
      intro ι' H' p v hv
      obtain ⟨a, xs, rfl, h1, h2⟩ := tup_of hv
      exact ⟨a, xs, rfl, h1, fun l hl => (q ι' H' p) _ _ (post_new p.sh hl) _ (vr_tup p.sh hl (vrs_rev h2))⟩
    | _ =>
      refine (pe_revL he).run pins s σ H Q I ⟨n0, ι, M, σd, b, ?_⟩
      rw [hr]
      intro ι' H' p v hv
      have q2 := q ι' H' p
      simp only [opRev] at q2
      split at q2
      · rename_i ds e1
        obtain ⟨a, xs, rfl, h1, h2⟩ := sqL_of p.sh e1 hv
        exact ⟨a, xs, rfl, h1, (lst_made (b.at.to p) (vrs_rev h2) q2).2⟩
      · exact q2.elim
end
end DL

namespace DL
open PySem PySem.Spec PyProof.Rows L2
/-! sorted of a tuple of ints -/
section
variable {prog : Program} {w : World} {A : Around} {E : Value → Shared → Prop} {s : Shared}
open SrtO Srt in
theorem collect_tup {l : Addr} {vs : List Value} {Q : List Value → Shared → Prop} (hl : s.heap.IsTuple l vs.toArray) (hz : vs.length ≤ sizeLine)
    (h : Q vs { s with heap := (s.heap.push (seqObj "list" #[] 0)).update s.heap.objs.size (Obj.mapSeq (· ++ vs.toArray)) }) :
    wpAny (model prog w) A (collect (.ref l)) Q E s := by
  obtain ⟨o, ho, hc, n, hd⟩ := id hl
  have hoL : (s.heap.push (seqObj "list" #[] 0)).get? s.heap.objs.size = some (seqObj "list" #[] 0) := Heap.get?_push_size _ rfl
  have big : (#[] ++ vs.toArray : Array Value).size ≤ sizeLine + 1 := by
    rw [Array.size_append, List.size_toArray, List.size_toArray, List.length_nil]; omega
  unfold collect
  refine wpAny_bind (wpAny_runValue (codeAny_builtin entry_proto_collect' ?_))
  show wpAny _ _ (do again (.builtin "list.__iadd__" ⟨[← newList [], .ref l], []⟩)) _ _ s
  refine wpAny_bind (wpAny_newList (wpAny_pure ⟨Code.quiet_builtin _ (by decide +kernel), codeAny_builtin entry_list_iadd' ?_⟩))
  show wpAny _ _ (Builtin.List.listExtendWith (.ref s.heap.objs.size) (.ref l) (.ref s.heap.objs.size)) _ _ { s with heap := s.heap.push (seqObj "list" #[] 0) }
  have hoT : (s.heap.push (seqObj "list" #[] 0)).get? l = some o := Heap.get?_push_of_some _ ho
  unfold Builtin.List.listExtendWith
  refine wpAny_bind (wpAny_typeOf (T := "tuple") ⟨o, hoT, hc⟩ ?_)
  rw [if_pos (by rw [show (Value.type "tuple" == Value.type "tuple") = true by decide, Bool.or_true])]
  refine wpAny_bind (listItems_at hoT hd ?_)
  refine wpAny_bind (listItems_at (xs := #[]) (n := 0) hoL rfl ?_)
  rw [if_neg (by simp)]
  refine wpAny_bind (listUpdate_at (xs := #[]) (n := 0) hoL rfl ?_ (Nat.zero_le _) big)
  refine wpAny_pure ?_
  show wpAny (model prog w) A (load s.heap.objs.size >>= fun o => match o.data with | .seq xs _ => pure xs.toList | _ => unsupported "internal:collect") Q E
    { s with heap := (s.heap.push (seqObj "list" #[] 0)).update s.heap.objs.size (Obj.mapSeq (· ++ vs.toArray)) }
  refine wpAny_bind (wpAny_load (get?_update_seq hoL _) ?_)
  show wpAny _ _ (pure (#[] ++ vs.toArray : Array Value).toList) Q E _
  rw [show (#[] ++ vs.toArray : Array Value).toList = vs by simp]
  exact wpAny_pure h
open SrtO Srt in
theorem sorted_tup {l : Addr} {vs : List Value} {ltv : Value → Value → Bool} {Q : Value → Shared → Prop} (O : Swo ltv) (hl : s.heap.IsTuple l vs.toArray) (hz : vs.length ≤ sizeLine)
    (hS : 2 ≤ vs.length → ∀ (h₁ : Heap) (a : Addr), SortableO prog w A.in1.in1 { s with heap := h₁ } a vs ltv)
    (h : ∀ out : List Value, Srtd ltv out → Stb ltv out vs → Q (.ref (s.heap.objs.size + 1)) { s with heap := sortedAll s.heap vs out.toArray }) :
    wpAny (model prog w) A (call (.builtin "sorted") [.ref l]) Q E s := by
  have hn : ((s.heap.push (seqObj "list" #[] 0)).update s.heap.objs.size (Obj.mapSeq (· ++ vs.toArray))).objs.size = s.heap.objs.size + 1 := by
    rw [Heap.size_update, size_push']
  refine Calls.call_function_entry kind_sorted plain_sorted entry_sorted (args_sorted1 _) ?_
  unfold Builtin.«sorted»
  refine wpAny_bind (m := checkCount "sorted" 1 1 _) (wpAny_pure (wpAny_bind (collect_tup hl hz (wpAny_bind (wpAny_newList ?_ hz)))))
  generalize hh : (s.heap.push (seqObj "list" #[] 0)).update s.heap.objs.size (Obj.mapSeq (· ++ vs.toArray)) = h2 at hn
  show wpAny _ _ _ _ _ { s with heap := h2.push (seqObj "list" vs.toArray 0) }
  have at1 : (h2.push (seqObj "list" vs.toArray 0)).get? (s.heap.objs.size + 1) = some (seqObj "list" vs.toArray 0) := by
    rw [← hn]; exact Heap.get?_push_size _ rfl
  rw [hn]
  refine wpAny_bind (wpAny_holding (wpAny_call_entry slot_list_sort ⟨_, at1, rfl⟩ entry_list_sort (list_sort_ord O at1 hz (fun h2' => hS h2' _ _) fun out hs hb => ⟨_, rfl, wpAny_pure ⟨_, rfl, ?_⟩⟩) (args_list_sort _)))
  have := h out hs hb
  unfold sortedAll at this
  rw [hh] at this
  exact this
end
section
variable {X : Cx} {K : PySem.W.Frag} {E : EK}
/-- sorted of a list or a tuple of ints -/
def rSortedA (K : PySem.W.Frag) : List V → Hp → VK → Prop := fun vs H Q => ∃ (a : Addr) (ns : List Int), vs = [V.ref a] ∧ (SqL K H a (ns.map V.int) ∨ SqT K H a (ns.map V.int)) ∧
  ∀ (ns' : List Int) (p : Addr), ns'.Perm ns → ns'.Pairwise (· ≤ ·) → H p = none → Q (.ref p) (upd H p (.lst (ns'.map V.int)))
theorem cr_sortedA : CallR X (.builtin "sorted") (rSortedA X.K) := by
  intro pins s σ H vs us Q I r h
  obtain ⟨a, ns, rfl, hs, q⟩ := h
  rcases hs with hs | hs
  · exact cr_sortedI pins s σ H _ us Q I r ⟨a, ns, rfl, hs, q⟩
  · obtain ⟨its, rv, hl, hz⟩ := I.tuple hs
    rw [Vals.ref1 r]
    have hi := rv.ints
    have hz' : its.length ≤ sizeLine := by rw [← rv.length]; exact hz
    refine sorted_tup SrtO.swo_int (show s.heap.IsTuple a its.toArray from hl) hz' (fun h2 h₁ a' => SrtO.ints_sortable hi h2) fun out h1 h2 => ?_
    obtain ⟨k1, k2, k3⟩ := SrtO.ints_out hi h1 h2
    obtain ⟨ep, he'⟩ := PyProof.Rows.sortedAll_at s.heap its out.toArray
    have hlen : ((out.map SrtO.iv).map V.int).length ≤ sizeLine := by
      rw [List.length_map, k2.length_eq]
      rwa [List.length_map] at hz
    exact ⟨.ref _, _, I.laid (t' := s.toks) (fun _ _ => PyProof.Rows.sortedAll_old) (Nat.le_succ _) (o := .lst ((out.map SrtO.iv).map V.int)) ⟨hlen, out, ep, vals_of_ints k1, he'⟩, rfl, q _ _ k2 k3 (I.hok.fresh (Nat.le_succ _))⟩
def pSortedA (m : Bool) : PL := fun ds M => match ds with
  | [.tup es] => (intsOf es).map fun ns => mkLst m ((sortI ns).map .int) M
  | ds => pSorted m ds M
theorem sortedA_ok (m : Bool) : PLS K E (rSortedA K) (pSortedA m) := fun n0 ι M H xs vs Q res a hx e h => by
  unfold pSortedA at e
  split at e
  · simp only [Option.map_eq_some_iff] at e
    obtain ⟨ns, e2, rfl⟩ := e
    obtain ⟨v, rfl, hv⟩ := vrs1 (ds := []) hx
    obtain ⟨p, xs, rfl, h1, h2⟩ := tup_of hv
    rw [ints_of e2 h2] at h1
    refine ⟨p, ns, rfl, .inr h1, fun ns' q hp hs hq => ?_⟩
    have : ns' = sortI ns := sorted_same (hp.trans (sortI_perm ns).symm) hs (sortI_sorted ns)
    subst this
    exact (lst_made a (vrs_ints (sortI ns)) h).2 q hq
  · obtain ⟨p, ns, rfl, h1, h2⟩ := sorted_ok m n0 ι M H _ vs Q res a hx e h
    exact ⟨p, ns, rfl, .inl h1, h2⟩
end
end DL

namespace DL
open PySem PySem.Spec PyProof.Rows L2
open AutoSeq1 (wpAny_loadPart')
/-! enumerate of a tuple -/
theorem meets_enumerate_newT (l : Addr) (o : Obj) (items : Array Value) (n : Nat) (dct : Option Addr) (sl : Array (Option Value)) :
    Meets (Builtin.«enumerate.__new__» ⟨[.type "enumerate", .ref l], []⟩) (fun _ R s => s.heap.get? l = some { cls := .type "tuple", dict := dct, data := .seq items n, slots := sl } ∧
      R (.ok (.ret (.ref (s.heap.push { cls := .type "tuple_iterator", data := .fields #[.ref l, .int 0 0] }).objs.size)))
        { s with heap := (s.heap.push { cls := .type "tuple_iterator", data := .fields #[.ref l, .int 0 0] }).push { cls := .type "enumerate", data := .fields #[.none, .bool false, .ref s.heap.objs.size, rawInt 0, .none, .none] } }) :=
  .of_wp fun prog w A R s h => by
    obtain ⟨hp, g, d, tk, os⟩ := s; obtain ⟨hl, h⟩ := h
    have hsub := sub_enumerate
    have hT : Heap.IsTuple (Shared.heap ⟨hp, g, d, tk, os⟩) l items := ⟨_, hl, rfl, n, rfl⟩
    wp_walk using wpAny_loadPart' hl
    refine wpAny_stack_any fun st => wpAny_pure ?_
    split
    · rename_i c _ _ _ _ _
      cases (c == Value.type "enumerate")
      · wp_walk using wpAny_loadPart' hl, wpAny_pyIter_tuple hT
        exact ⟨_, rfl, h⟩
      · wp_walk using wpAny_loadPart' hl, wpAny_pyIter_tuple hT
        exact ⟨_, rfl, h⟩
    · wp_walk using wpAny_loadPart' hl, wpAny_pyIter_tuple hT
      exact ⟨_, rfl, h⟩
section
variable {prog : Program} {w : World} {A : Around} {E : Value → Shared → Prop} {s : Shared}
theorem call_enumerate_tup {l : Addr} {items : Array Value} {Q : Value → Shared → Prop} (hL : s.heap.IsTuple l items)
    (h : ∀ h', IsEnum h' (s.heap.objs.size + 1) s.heap.objs.size 0 .none → h'.IsTupleIter s.heap.objs.size l 0 → h'.objs.size = s.heap.objs.size + 2 →
      (∀ b o, s.heap.get? b = some o → h'.get? b = some o) → Q (.ref (s.heap.objs.size + 1)) { s with heap := h' }) :
    wpAny (model prog w) A (call (.type "enumerate") [.ref l]) Q E s := by
  obtain ⟨⟨c, dct, dt, sl⟩, hl, hc, n, hd⟩ := hL
  cases (show c = .type "tuple" from hc)
  cases (show dt = .seq items n from hd)
  have hn : (s.heap.push { cls := .type "tuple_iterator", data := .fields #[.ref l, .int 0 0] }).objs.size = s.heap.objs.size + 1 := Heap.size_push ..
  refine callType_new F.called_enumerate (by decide) (F.typeCall_enumerate_1 _) (F.newCall_enumerate_1 _) (fun obj => F.args_object_init_2 obj _) F.entry_enumerate_new
    (meets_enumerate_newT l ⟨.type "tuple", dct, .seq items n, sl⟩ items n dct sl) ⟨hl, ?_⟩
  show _ ∧ _
  generalize hh : s.heap.push { cls := .type "tuple_iterator", data := .fields #[.ref l, .int 0 0] } = h1 at hn
  have old : ∀ b o, s.heap.get? b = some o → h1.get? b = some o := fun b o x => by rw [← hh]; exact Heap.get?_push_of_some _ x
  have tp : h1.get? s.heap.objs.size = some { cls := .type "tuple_iterator", data := .fields #[.ref l, .int 0 0] } := by rw [← hh]; exact Heap.get?_push_size _ rfl
  rw [hn]
  have he : IsEnum (h1.push { cls := .type "enumerate", data := .fields #[.none, .bool false, .ref s.heap.objs.size, rawInt 0, .none, .none] }) (s.heap.objs.size + 1) s.heap.objs.size 0 .none := by
    rw [← hn]; exact Heap.get?_push_size _ rfl
  exact ⟨⟨_, he, rfl⟩, h _ he ⟨_, Heap.get?_push_of_some _ tp, rfl, rfl⟩ (by rw [Heap.size_push, hn]) fun b o x => Heap.get?_push_of_some _ (old b o x)⟩
end
/-- the tuple at a, each item in a new pair -/
def IteT (K : PySem.W.Frag) (a : Addr) : It where
  go := fun i H => ∃ xs x, SqT K H a xs ∧ xs[i]? = some x
  yld := fun i H v H' => ∃ T x, v = .ref T ∧ H T = none ∧ H' = upd H T (.tup [.int (i : Nat), x]) ∧ ∀ xs, SqT K H a xs → xs[i]? = some x
  stop := fun i H => ∃ xs, SqT K H a xs ∧ xs.length ≤ i
theorem turn_enumT {P : Program} {w : World} {K : PySem.W.Frag} {elts : List Expr} {kk : Nat} {tpos : Pos} (a e it : Addr) :
    Turn P w K (.Tuple elts kk tpos) (IteT K a) [e, it] e (fun i h => (∃ old, IsEnum h e it ((i : Nat) : Int) old) ∧ h.IsTupleIter it a i ∧ e ≠ it) where
  mem := List.mem_cons_self
  obj := fun i h st b hb => by
    obtain ⟨⟨old, he⟩, ⟨o, ho, hc, hd⟩, _⟩ := st
    rcases List.mem_cons.mp hb with z | z
    · subst z; exact ⟨_, he, fun v q => nomatch q⟩
    · cases List.mem_singleton.mp z; exact ⟨o, ho, fun v q => by rw [hd] at q; cases q⟩
  keep := fun i h h' ⟨⟨old, he⟩, hi, hne⟩ k => ⟨⟨old, k e (by simp) _ he⟩, hi.at fun o q => k it (by simp) o q, hne⟩
  item := by
    intro X hP hw hK hc i pins s σ H E I hf st hg
    subst hP hw hK
    obtain ⟨⟨old, he⟩, hit, hne⟩ := st
    obtain ⟨xs, x, hq, hx⟩ := hg
    obtain ⟨its, rv, p, hz⟩ := I.tuple hq
    obtain ⟨u, hu, ru⟩ := rv.get hx
    have hT : s.heap.IsTuple a its.toArray := p
    have hai : a ≠ it := fun z => by
      subst z
      obtain ⟨o, h1, h2, _⟩ := hT
      obtain ⟨o', h3, h4, _⟩ := hit
      rw [h1] at h3; cases h3
      rw [h2] at h4
      exact absurd (Value.type.inj h4) (by decide)
    have hae : a ≠ e := fun z => by
      subst z
      obtain ⟨o, h1, h2, _⟩ := hT
      have h3 : s.heap.get? a = some _ := he
      rw [h1] at h3; cases h3
      exact absurd (Value.type.inj h2) (by decide)
    have hel : e < s.heap.objs.size := Heap.lt_size he
    have hil : it < s.heap.objs.size := by obtain ⟨_, q, _⟩ := hit; exact Heap.lt_size q
    have hh : X.A.in1.handled = none := I.ok.hd hc
    have hlt : i < its.toArray.size := by have := (List.getElem?_eq_some_iff.mp hu).1; simpa using this
    refine wpAny_pyNext_enum_itemD (Draws.tuple hh it a hai its.toArray) he ⟨hit, hT⟩ hlt hne (by simp [hne, Ne.symm hae]) fun y h' tk hy ho ⟨hit', _⟩ hTT hsz hk => ?_
    have hyu : y = u := by
      have h1 : its[i]? = some y := by simpa using hy
      rw [hu] at h1; cases h1; rfl
    subst hyu
    refine ⟨_, rfl, wpAny_letOwnedTupleGo_enum (s := { s with heap := h', toks := tk + 1 }) ho fun h'' he' sb => ?_⟩
    have cell : h''.get? s.heap.objs.size = some { cls := .type "tuple", data := .seq #[.int i tk, y] } := (sb.2 _ (Nat.ne_of_gt hel)).trans hTT
    have new : ObjOk X.prog X.w (upd H s.heap.objs.size (.tup [.int (i : Nat), x])) h'' s.heap.objs.size (.tup [.int (i : Nat), x]) :=
      ⟨by show 2 ≤ sizeLine; decide, [.int i tk, y], .cons ⟨_, rfl⟩ (.cons ru .nil), ⟨_, cell, rfl, _, rfl⟩⟩
    have I1 : Inv X pins σ (upd H s.heap.objs.size (.tup [.int (i : Nat), x])) { s with heap := h'', toks := tk + 1 } :=
      I.turnedNew (ch := [e, it]) (fun b ob hb q => (sb.2 b (fun z => hb (by simp [z]))).trans (hk b ob (fun z => hb (by simp [z])) (fun z => hb (by simp [z])) q)) hf (Nat.le_refl _) new
    refine ⟨.ref s.heap.objs.size, _, I1, rfl, ⟨_, x, rfl, I.hok.fresh (Nat.le_refl _), rfl, fun ys hy => by rw [I.tuple_inj hy hq]; exact hx⟩, ⟨⟨y, ?_⟩, hit'.at fun o q => (sb.2 it (Ne.symm hne)).trans q, hne⟩, fun b hb => ?_⟩
    · rw [show ((i + 1 : Nat) : Int) = (i : Int) + 1 by omega]; exact he'
    · have hb' : b < s.heap.objs.size := by
        rcases List.mem_cons.mp hb with z | z
        · rw [z]; exact hel
        · rw [List.mem_singleton.mp z]; exact hil
      rw [upd_ne (Nat.ne_of_lt hb')]
      exact (hf b hb).1
  done := by
    intro X hP hw hK hc i pins s σ H E I hf st hg
    subst hP hw hK
    obtain ⟨⟨old, he⟩, hit, hne⟩ := st
    obtain ⟨xs, hq, hx⟩ := hg
    obtain ⟨its, rv, p, hz⟩ := I.tuple hq
    obtain ⟨f0, f1, f2, f3, f4, f5⟩ := hf it (by simp)
    have hl := rv.length
    have hT : s.heap.IsTuple a its.toArray := p
    have hend : its.toArray[i]? = none := by rw [List.getElem?_toArray, List.getElem?_eq_none_iff]; omega
    have hTy : s.TypeIs (.ref e) "enumerate" := ⟨_, he, rfl⟩
    unfold pyNext
    refine wpAny_bind (wpAny_attempt (wpAny_callSpecial?_slot (name := Str.ofString "__next__") hTy F.slot_enumerate_next
      (wpAny_call_entry F.slot_enumerate_next hTy F.entry_enumerate_next ?_ (F.args_enumerate_next_1 _))))
    show wpAny _ _ (field (.ref e) 2 >>= _) _ _ _
    refine wpAny_bind (wpAny_field he rfl (x := .ref it) rfl ?_)
    refine wpAny_bind (wpAny_nextOf_tuple_end (show X.A.in1.handled = none from I.ok.hd hc) hit hT hend fun h' x he' hx' => ?_)
    obtain ⟨o, ho, hcl⟩ := hx'
    refine wpAny_bind (wpAny_isInstance (T := "StopIteration") (b := true) ⟨o, ho, hcl⟩ isSubtype_stop ?_)
    exact wpAny_pure ⟨rfl, I.turned (t' := s.toks) (fun b o hb q => he' b o hb q) f0 f1 f3 f4 f5⟩
  self := fun A i s Q E ⟨⟨_, he⟩, _⟩ h => wpAny_pyIter_enum he h
/-- enumerate(x), a list or a tuple -/
def iEnumA (K : PySem.W.Frag) (ta : TA) : TI := fun σ H R => ta σ H fun vs H1 => ∃ a xs, vs = [.ref a] ∧ ((SqL K H1 a xs ∧ R (Ite K a) H1) ∨ (SqT K H1 a xs ∧ R (IteT K a) H1))
theorem pi_enumA {X : Cx} {e : Expr} {ta : TA} {p pos tpos : Pos} {elts : List Expr} {kk : Nat} (hg : Gl X "enumerate") (hm : X.mg "enumerate" = none) (ha : PA X [e] ta) (hs : starEach [e] X.env = [(false, eval e X.env)]) :
    PI X (.Tuple elts kk tpos) (.Call (.Name "enumerate" p) [e] [] pos) (iEnumA X.K ta) := by
  refine ⟨fun pins s σ H R I h => ?_⟩
  refine Call_ (ld_blt I hg hm boot_enumerate (PyProof.Rows.callWith_type1 (thn (ha.run pos pins s σ H _ I h) fun us s1 ⟨vs, H1, I1, r1, q1⟩ => ?_) hs rfl))
  obtain ⟨a, xs, rfl, q⟩ := q1
  obtain ⟨u, rfl, ru⟩ := r1.one
  cases ru
  have own : ∀ b ∈ [s1.heap.objs.size + 1, s1.heap.objs.size], FpOk X pins H1 b := fun b hb => by
    have hle : s1.heap.objs.size ≤ b := by
      rcases List.mem_cons.mp hb with z | z
      · omega
      · have := List.mem_singleton.mp z; omega
    exact I1.fpOk hle (I1.hok.fresh hle)
  rcases q with ⟨hq, q⟩ | ⟨hq, q⟩
  · obtain ⟨its, rv, p', hz⟩ := I1.list hq
    exact call_enumerate_list p'.isList fun h' he hit hsz hk => wpAny_pyIter_enum he
      ⟨_, _, _, _, H1, rfl, I1.kept (t' := s1.toks) hk, turn_enum a (s1.heap.objs.size + 1) s1.heap.objs.size, ⟨⟨.none, he⟩, hit, Nat.succ_ne_self _⟩, own, q⟩
  · obtain ⟨its, rv, p', hz⟩ := I1.tuple hq
    exact call_enumerate_tup (show s1.heap.IsTuple a its.toArray from p') fun h' he hit hsz hk => wpAny_pyIter_enum he
      ⟨_, _, _, _, H1, rfl, I1.kept (t' := s1.toks) hk, turn_enumT a (s1.heap.objs.size + 1) s1.heap.objs.size, ⟨⟨.none, he⟩, hit, Nat.succ_ne_self _⟩, own, q⟩
end DL

namespace DL
open PySem PySem.Spec PyProof.Rows L2
section
variable {K : PySem.W.Frag} {E : EK} {ι ι' : Io} {H H' : Hp} {M M' : Hep} {n0 : Nat}
def enuF : Nat → List D → List D
  | _, [] => []
  | i, d :: ds => .tup [.int i, d] :: enuF (i + 1) ds
theorem enuF_len : ∀ (ds : List D) (k : Nat), (enuF k ds).length = ds.length
  | [], _ => rfl
  | d :: ds, k => by simp [enuF, enuF_len ds]
theorem enuF_get : ∀ (ds : List D) (k i : Nat), (enuF k ds)[i]? = ds[i]?.map fun d => .tup [.int ((k + i : Nat) : Int), d]
  | [], _, _ => by simp [enuF]
  | d :: ds, k, 0 => by simp [enuF]
  | d :: ds, k, i + 1 => by simp [enuF, enuF_get ds (k + 1) i]; rw [show ((k : Int) + 1 + (i : Int)) = (k : Int) + ((i : Int) + 1) by omega]
def zipD (ds es : List D) : List D := List.zipWith (fun a b => .tup [a, b]) ds es
def IteS (S : Hp → List V → Prop) : It where
  go := fun i H => ∃ xs x, S H xs ∧ xs[i]? = some x
  yld := fun i H v H' => ∃ T x, v = .ref T ∧ H T = none ∧ H' = upd H T (.tup [.int (i : Nat), x]) ∧ ∀ xs, S H xs → xs[i]? = some x
  stop := fun i H => ∃ xs, S H xs ∧ xs.length ≤ i
theorem walks_enS {S : Hp → List V → Prop} {ds : List D} {src : Option (Nat × List D)} (h : ∀ ι' M' H', Ext ι H ι' H' → SH K ι' M' H' → (Itm.mk (enuF 0 ds) src).chk M' = true → ∃ xs, S H' xs ∧ VRs K ι' H' ds xs) :
    Walks K (IteS S) ⟨enuF 0 ds, src⟩ ι H where
  stop := fun ι' M' H' e s c => by
    obtain ⟨xs, h1, h2⟩ := h ι' M' H' e s c
    exact ⟨xs, h1, by rw [← vrs_len h2]; show ds.length ≤ (enuF 0 ds).length; rw [enuF_len]; exact Nat.le_refl _⟩
  turn := fun i d ι' M' H' hd e s c => by
    obtain ⟨xs, h1, h2⟩ := h ι' M' H' e s c
    have hd : (enuF 0 ds)[i]? = some d := hd
    rw [enuF_get, Option.map_eq_some_iff] at hd
    obtain ⟨d0, q1, rfl⟩ := hd
    obtain ⟨x, q2, q3⟩ := vrs_get h2 q1
    refine ⟨⟨xs, x, h1, q2⟩, fun y H2 ⟨T, x', e1, e2, e3, e4⟩ => ?_⟩
    have e5 := e4 xs h1
    rw [q2] at e5; cases e5
    subst e1 e3
    refine ⟨ext_new e2, s.keep e2, vr_tup s e2 ?_⟩
    simp only [VRs]
    exact ⟨_, _, rfl, by rw [Nat.zero_add]; exact vr_int, _, _, rfl, q3, rfl⟩
def IzS (S S' : Hp → List V → Prop) : It where
  go := fun i H => ∃ xs ys x y, S H xs ∧ S' H ys ∧ xs[i]? = some x ∧ ys[i]? = some y
  yld := fun i H v H' => ∃ T x y, v = .ref T ∧ H T = none ∧ H' = upd H T (.tup [x, y]) ∧ (∀ xs, S H xs → xs[i]? = some x) ∧ ∀ ys, S' H ys → ys[i]? = some y
  stop := fun i H => ∃ xs ys, S H xs ∧ S' H ys ∧ (xs.length ≤ i ∨ ys.length ≤ i)
theorem zipD_get {ds es : List D} {i : Nat} {d : D} (h : (zipD ds es)[i]? = some d) : ∃ a b, ds[i]? = some a ∧ es[i]? = some b ∧ d = .tup [a, b] := by
  unfold zipD at h
  rw [List.getElem?_zipWith] at h
  split at h
  · rename_i a b e1 e2
    cases h; exact ⟨a, b, e1, e2, rfl⟩
  · cases h
theorem walks_zpS {S S' : Hp → List V → Prop} {ds es : List D} {src : Option (Nat × List D)} (h : ∀ ι' M' H', Ext ι H ι' H' → SH K ι' M' H' → ∃ xs ys, S H' xs ∧ S' H' ys ∧ VRs K ι' H' ds xs ∧ VRs K ι' H' es ys) :
    Walks K (IzS S S') ⟨zipD ds es, none⟩ ι H where
  stop := fun ι' M' H' e s c => by
    obtain ⟨xs, ys, h1, h2, h3, h4⟩ := h ι' M' H' e s
    refine ⟨xs, ys, h1, h2, ?_⟩
    rw [← vrs_len h3, ← vrs_len h4]
    show ds.length ≤ (zipD ds es).length ∨ es.length ≤ (zipD ds es).length
    unfold zipD
    rw [List.length_zipWith]; omega
  turn := fun i d ι' M' H' hd e s c => by
    obtain ⟨xs, ys, h1, h2, h3, h4⟩ := h ι' M' H' e s
    obtain ⟨a, b, q1, q2, rfl⟩ := zipD_get (show (zipD ds es)[i]? = some d from hd)
    obtain ⟨x, q3, q4⟩ := vrs_get h3 q1
    obtain ⟨y, q5, q6⟩ := vrs_get h4 q2
    refine ⟨⟨xs, ys, x, y, h1, h2, q3, q5⟩, fun v H2 ⟨T, x', y', e1, e2, e3, e4, e5⟩ => ?_⟩
    have e4 := e4 xs h1
    rw [q3] at e4; cases e4
    have e5 := e5 ys h2
    rw [q5] at e5; cases e5
    subst e1 e3
    refine ⟨ext_new e2, s.keep e2, vr_tup s e2 ?_⟩
    simp only [VRs]
    exact ⟨_, _, rfl, q4, _, _, rfl, q6, rfl⟩
def enuOf (ds : List D) (M : Hep) : Option Itm := match ds with
  | [.fz ds] => some ⟨enuF 0 ds, none⟩
  | [.ro ds] => some ⟨enuF 0 ds, none⟩
  | [.tup ds] => some ⟨enuF 0 ds, none⟩
  | [.ref m] => match M[m]? with
    | some (.lst ds) => some ⟨enuF 0 ds, some (m, ds)⟩
    | _ => none
  | _ => none
def iEnu (r : SemL) : SemI := fun n σ M => (r n σ M).bind fun ds M1 => .of (enuOf ds M1) M1
theorem chk_ref2 {ds fs : List D} {m : Nat} {M : Hep} (h : (Itm.mk fs (some (m, ds))).chk M = true) : M[m]? = some (.lst ds) := chk_ref h
theorem I_enu {X : Cx} {elts : List Expr} {kk : Nat} {tpos : Pos} {e : Expr} {p pos : Pos} {f : SemL} (hK : X.K = K) (h3 : Gl X "enumerate") (h4 : X.mg "enumerate" = none) (hs : starEach [e] X.env = [(false, eval e X.env)]) (ha : PA X [e] (Tl K E f)) :
    PI X (.Tuple elts kk tpos) (.Call (.Name "enumerate" p) [e] [] pos) (Ti K E (iEnu f)) :=
  PI.to (pi_enumA h3 h4 ha hs) fun σ H R ⟨n0, ι, M, σd, b, q⟩ => by
    refine ⟨n0, ι, M, σd, b, (Wp.bind q).mono fun ds ι1 M1 H1 p1 q1 vs hv => ?_⟩
    rw [hK]
    unfold enuOf at q1
    split at q1
    · obtain ⟨v, rfl, h1⟩ := vrs1 (ds := []) hv
      simp only [VR] at h1
      obtain ⟨a, xs, rfl, h1, h2⟩ := h1
      exact ⟨a, xs, rfl, .inl ⟨h1.sq, q1 ι1 H1 (Post.refl p1.sh) _ (walks_enS (S := fun H xs => SqL K H a xs) fun ι' M' H' e s _ => ⟨xs, (h1.ext e).sq, h2.ext e⟩)⟩⟩
    · obtain ⟨v, rfl, h1⟩ := vrs1 (ds := []) hv
      simp only [VR] at h1
      obtain ⟨a, xs, rfl, h1, h2⟩ := h1
      exact ⟨a, xs, rfl, .inl ⟨h1.sq, q1 ι1 H1 (Post.refl p1.sh) _ (walks_enS (S := fun H xs => SqL K H a xs) fun ι' M' H' e s _ => ⟨xs, (h1.ext e).sq, h2.ext e⟩)⟩⟩
    · obtain ⟨v, rfl, h1⟩ := vrs1 (ds := []) hv
      simp only [VR] at h1
      obtain ⟨a, xs, rfl, h1, h2⟩ := h1
      exact ⟨a, xs, rfl, .inr ⟨h1.sq, q1 ι1 H1 (Post.refl p1.sh) _ (walks_enS (S := fun H xs => SqT K H a xs) fun ι' M' H' e s _ => ⟨xs, (h1.ext e).sq, h2.ext e⟩)⟩⟩
    · rename_i m
      obtain ⟨v, rfl, h1⟩ := vrs1 (ds := []) hv
      simp only [VR] at h1
      obtain ⟨a, rfl, h1⟩ := h1
      cases hm : M1[m]? with
      | none => rw [hm] at q1; exact q1.elim
      | some ob =>
        cases ob with
        | dct ks vs => rw [hm] at q1; exact q1.elim
        | lst ds =>
          rw [hm] at q1
          obtain ⟨xs, h2, h3⟩ := p1.sh.ob m _ a hm h1
          refine ⟨a, xs, rfl, .inl ⟨.inl (.inl h2), q1 ι1 H1 (Post.refl p1.sh) _ (walks_enS (S := fun H xs => SqL K H a xs) fun ι' M' H' e s c => ?_)⟩⟩
          obtain ⟨xs', h5, h6⟩ := s.ob m _ a (chk_ref c) (e.get h1)
          exact ⟨xs', .inl (.inl h5), h6⟩
    · exact q1.elim
/-- two lists, two tuples, none of which changes -/
def zipOf (ds : List D) : Option Itm := match ds with
  | [.fz a, .fz b] => some ⟨zipD a b, none⟩
  | [.fz a, .ro b] => some ⟨zipD a b, none⟩
  | [.ro a, .fz b] => some ⟨zipD a b, none⟩
  | [.ro a, .ro b] => some ⟨zipD a b, none⟩
  | [.tup a, .tup b] => some ⟨zipD a b, none⟩
  | _ => none
def iZp (r : SemL) : SemI := fun n σ M => (r n σ M).bind fun ds M1 => .of (zipOf ds) M1
theorem I_zip {X : Cx} {elts : List Expr} {kk : Nat} {tpos : Pos} {e e2 : Expr} {p pos : Pos} {f : SemL} (hK : X.K = K) (h3 : Gl X "zip") (h4 : X.mg "zip" = none) (ha : PA X [e, e2] (Tl K E f))
    (hs : starEach [e, e2] X.env = (false, eval e X.env) :: starEach [e2] X.env) (hpl : (backTo pos (starEach [e2] X.env)).any (·.1) = false) :
    PI X (.Tuple elts kk tpos) (.Call (.Name "zip" p) [e, e2] [] pos) (Ti K E (iZp f)) :=
  PI.to (RZ.pi_zipA h3 h4 ha hs hpl) fun σ H R ⟨n0, ι, M, σd, b, q⟩ => by
    refine ⟨n0, ι, M, σd, b, (Wp.bind q).mono fun ds ι1 M1 H1 p1 q1 vs hv => ?_⟩
    rw [hK]
    unfold zipOf at q1
    split at q1
    · obtain ⟨v, u, rfl, h1, h2⟩ := vrs2 (ds := []) hv
      simp only [VR] at h1 h2
      obtain ⟨a, xs, rfl, h3, h4⟩ := h1
      obtain ⟨b, ys, rfl, h5, h6⟩ := h2
      exact ⟨a, b, xs, ys, rfl, .inl ⟨h3.sq, h5.sq, q1 ι1 H1 (Post.refl p1.sh) _ (walks_zpS (src := none) (S := fun H xs => SqL K H a xs) (S' := fun H xs => SqL K H b xs) fun ι' M' H' e s => ⟨xs, ys, (h3.ext e).sq, (h5.ext e).sq, h4.ext e, h6.ext e⟩)⟩⟩
    · obtain ⟨v, u, rfl, h1, h2⟩ := vrs2 (ds := []) hv
      simp only [VR] at h1 h2
      obtain ⟨a, xs, rfl, h3, h4⟩ := h1
      obtain ⟨b, ys, rfl, h5, h6⟩ := h2
      exact ⟨a, b, xs, ys, rfl, .inl ⟨h3.sq, h5.sq, q1 ι1 H1 (Post.refl p1.sh) _ (walks_zpS (src := none) (S := fun H xs => SqL K H a xs) (S' := fun H xs => SqL K H b xs) fun ι' M' H' e s => ⟨xs, ys, (h3.ext e).sq, (h5.ext e).sq, h4.ext e, h6.ext e⟩)⟩⟩
    · obtain ⟨v, u, rfl, h1, h2⟩ := vrs2 (ds := []) hv
      simp only [VR] at h1 h2
      obtain ⟨a, xs, rfl, h3, h4⟩ := h1
      obtain ⟨b, ys, rfl, h5, h6⟩ := h2
      exact ⟨a, b, xs, ys, rfl, .inl ⟨h3.sq, h5.sq, q1 ι1 H1 (Post.refl p1.sh) _ (walks_zpS (src := none) (S := fun H xs => SqL K H a xs) (S' := fun H xs => SqL K H b xs) fun ι' M' H' e s => ⟨xs, ys, (h3.ext e).sq, (h5.ext e).sq, h4.ext e, h6.ext e⟩)⟩⟩
    · obtain ⟨v, u, rfl, h1, h2⟩ := vrs2 (ds := []) hv
      simp only [VR] at h1 h2
      obtain ⟨a, xs, rfl, h3, h4⟩ := h1
      obtain ⟨b, ys, rfl, h5, h6⟩ := h2
      exact ⟨a, b, xs, ys, rfl, .inl ⟨h3.sq, h5.sq, q1 ι1 H1 (Post.refl p1.sh) _ (walks_zpS (src := none) (S := fun H xs => SqL K H a xs) (S' := fun H xs => SqL K H b xs) fun ι' M' H' e s => ⟨xs, ys, (h3.ext e).sq, (h5.ext e).sq, h4.ext e, h6.ext e⟩)⟩⟩
    · obtain ⟨v, u, rfl, h1, h2⟩ := vrs2 (ds := []) hv
      simp only [VR] at h1 h2
      obtain ⟨a, xs, rfl, h3, h4⟩ := h1
      obtain ⟨b, ys, rfl, h5, h6⟩ := h2
      exact ⟨a, b, xs, ys, rfl, .inr ⟨h3.sq, h5.sq, q1 ι1 H1 (Post.refl p1.sh) _ (walks_zpS (src := none) (S := fun H xs => SqT K H a xs) (S' := fun H xs => SqT K H b xs) fun ι' M' H' e s => ⟨xs, ys, (h3.ext e).sq, (h5.ext e).sq, h4.ext e, h6.ext e⟩)⟩⟩
    · exact q1.elim
end
end DL

namespace DL
open PySem PySem.Spec PyProof.Rows L2
/-! xs[a:] = ys -/
section
variable {prog : Program} {w : World} {A : Around} {E : Value → Shared → Prop} {s : Shared}
theorem bounds_tail {a n : Nat} (h : a ≤ n) : sliceBounds (some (a : Int)) none none n = ((a : Int), (n : Int), 1) := by
  have h1 : ¬ ((a : Int) < 0) := by omega
  unfold sliceBounds
  simp only [Option.getD_none, h1, if_false, show (1 : Int) > 0 by decide, if_true]
  congr 1
  omega
theorem store_tail {l b sl : Addr} {xs ys : Array Value} {n n2 : Nat} {vl : Value} {a : Nat} {Q : Unit → Shared → Prop}
    (hx : s.heap.get? l = some { cls := .type "list", data := .seq xs n }) (hy : s.heap.get? b = some { cls := .type "list", data := .seq ys n2 }) (ne : l ≠ b)
    (hs : s.heap.IsSliceOf sl vl .none .none) (pl : IsPart vl (some (a : Int))) (ha : a ≤ xs.size) (hz : xs.size + ys.size ≤ sizeLine)
    (h : Q () { s with heap := s.heap.update l (Obj.mapSeq fun zs => zs.extract 0 a ++ ys ++ zs.extract xs.size zs.size) }) :
    wpAny (model prog w) A (setItem (.ref l) (.ref sl) (.ref b)) Q E s := by
  have xl := PySem.IsL.isList hx
  have yl := PySem.IsL.isList hy
  obtain ⟨os, hos, hcs, hds⟩ := id hs
  have ty : s.TypeIs (.ref sl) "slice" := ⟨os, hos, hcs⟩
  have other : Builtin.List.listSameRef (.ref l) (.ref b) = false := by
    unfold Builtin.List.listSameRef; exact beq_eq_false_iff_ne.mpr ne
  have hm : (max (a : Int) (xs.size : Int)).toNat = xs.size := by omega
  have fits : ((fun zs : Array Value => zs.extract 0 a ++ ys ++ zs.extract xs.size zs.size) xs).size ≤ sizeLine + 1 := by
    simp only [Array.size_append, Array.size_extract]; omega
  unfold setItem
  try with_reducible refine wpAny_holding ?_
  first | refine wpAny_bind (wpAny_pure ?_) | skip
  refine wpAny_bind (wpAny_sequenceKey xl.typeIs (by decide) ?_)
  refine wpAny_bind (wpAny_callSpecial?_slot (name := Str.ofString "__setitem__") xl.typeIs slot_list_setitem (wpAny_call_entry slot_list_setitem xl.typeIs entry_list_setitem ?_ (args_list_setitem _ _ _)))
  show wpAny _ _ (Builtin.List.listSubscript? (.ref sl) >>= _) _ _ s
  refine wpAny_bind ?_
  unfold Builtin.List.listSubscript?
  refine wpAny_bind (wpAny_specialOf ty slice_no_index ?_)
  simp only [Option.isNone_none, if_true]
  refine wpAny_pure ?_
  show wpAny _ _ (typeOf (.ref sl) >>= _) _ _ s
  refine wpAny_bind (wpAny_typeOf ty ?_)
  first | rw [if_neg (by decide)] | refine PySem.W.KFB.if_not (by decide) ?_
  rw [listSliceParts_eq]
  refine wpAny_bind (wpAny_bind (wpAny_field hos hds (x := .none) rfl (wpAny_bind (wpAny_listPart .none ?_))))
  rw [if_neg (show ¬ ((rawPart none == rawInt 0) = true) from Bool.false_ne_true)]
  refine wpAny_bind (wpAny_field hos hds (x := vl) rfl (wpAny_bind (wpAny_listPart pl (wpAny_bind (wpAny_field hos hds (x := .none) rfl (wpAny_bind (wpAny_listPart .none (wpAny_pure ?_))))))))
  first
    | simp only [other, Bool.false_eq_true, if_false]
    | refine PySem.W.KFB.if_not other ?_
  refine wpAny_bind (m := Builtin.List.listAllItems (.ref b) "must assign iterable to extended slice") ?_
  unfold Builtin.List.listAllItems
  refine wpAny_bind (wpAny_typeOf yl.typeIs ?_)
  first
    | refine PySem.W.KFB.if_so (by decide) ?_
    | rw [if_pos (by decide)]
  unfold Builtin.List.listItems
  refine wpAny_bind (wpAny_seqItems hy rfl (wpAny_pure ?_))
  refine wpAny_bind (wpAny_bind (wpAny_seqItems hx rfl (wpAny_pure ?_)))
  refine wpAny_bind (wpAny_of_eq ((sliceIndices_raw (some (a : Int)) none none xs.size (by simp)).trans (congrArg (pure : Int × Int × Int → Sem (Int × Int × Int)) (bounds_tail ha))) ?_)
  show wpAny _ _ (if ((1 : Int) == 1) = true then _ else _) _ _ s
  rw [if_pos (by decide)]
  refine wpAny_bind (wpAny_rule ?_)
  first | simp only [notLongL hz, Bool.false_eq_true, if_false] | refine PySem.W.KFB.if_not (notLongL hz) ?_
  first | refine wpAny_bind (wpAny_pure ?_) | skip
  show wpAny _ _ (updateSeq l (fun zs => zs.extract 0 ((a : Int)).toNat ++ ys ++ zs.extract (max (a : Int) (xs.size : Int)).toNat zs.size) >>= _) _ _ s
  rw [hm, Int.toNat_natCast]
  refine wpAny_bind (wpAny_updateSeq (hz := Nat.le_trans (Nat.le_add_right _ _) hz) (_hz' := fits) hx rfl (wpAny_bind (wpAny_letGo ?_)))
  first
    | exact wpAny_bind (wpAny_pure (wpAny_pure ⟨.none, rfl, wpAny_pure h⟩))
    | exact wpAny_pure ⟨.none, rfl, wpAny_pure h⟩
end
section
variable {X : Cx} {K : PySem.W.Frag} {E : EK}
theorem set_tail {pins : List (Addr × Obj)} {s : Shared} {σ : St} {H : Hp} {l b sl : Addr} {xs ys : List V} {a : Int} {vl : Value} {Q : Unit → Shared → Prop} (I : Inv X pins σ H s)
    (hH : H l = some (.lst xs)) (hB : H b = some (.lst ys)) (hne : l ≠ b) (hs : s.heap.IsSliceOf sl vl .none .none) (ra : RelV (.int a) vl) (h0 : 0 ≤ a) (hac : a ≤ xs.length)
    (hz : xs.length + ys.length ≤ sizeLine) (h : ∀ s', Inv X pins σ (upd H l (.lst (xs.take a.toNat ++ ys))) s' → Q () s') :
    wpAny (model X.prog X.w) X.A (setItem (.ref l) (.ref sl) (.ref b)) Q X.xe s := by
  obtain ⟨ta, rfl⟩ := ra
  obtain ⟨z, its, n, r, hl, e⟩ := I.lstM hH
  obtain ⟨z2, its2, n2, r2, hl2, e2⟩ := I.lstM hB
  obtain ⟨a', rfl⟩ := Int.eq_ofNat_of_zero_le h0
  have lx := r.length
  have ly := r2.length
  refine store_tail (a := a') e e2 hne hs (.int _ _) (by rw [List.size_toArray]; omega) (by rw [List.size_toArray, List.size_toArray]; omega) (h _ ?_)
  refine I.lset (its' := its.take a' ++ its2) (t' := s.toks) hH e ?_ (Vals.append (r.take _) r2) ?_
  · have := splice_eq its its2 a' its.length
    rw [List.drop_length, List.append_nil] at this
    rw [← this]
    simp
  · rw [List.length_append, List.length_take]; omega
def gSlcL (to tl : TE) : TG := fun v σ H Q => to σ H fun x H1 => tl σ H1 fun y H2 => ∃ l b xs ys a, x = .ref l ∧ y = .int a ∧ v = .ref b ∧ H2 l = some (.lst xs) ∧ H2 b = some (.lst ys) ∧ l ≠ b ∧ 0 ≤ a ∧ a ≤ xs.length ∧ xs.length + ys.length ≤ sizeLine ∧ Q σ (upd H2 l (.lst (xs.take a.toNat ++ ys)))
theorem pg_slc {o lo : Expr} {to tl : TE} {sp pos : Pos} (ho : PE X o to) (hl : PE X lo tl) : PG X (.Subscript o (.Slice (some lo) none none sp) pos) (gSlcL to tl) := by
  refine ⟨fun pins s σ H v u Q I r h => ?_⟩
  show wpAny _ _ (holding [u] (eval o X.env) >>= fun ov => holding [u, ov] (eval (.Slice (some lo) none none sp) X.env) >>= fun iv => standAt pos >>= fun _ => holding [u, ov, iv] (setItem ov iv u) >>= fun _ => release [iv, u, ov] []) _ _ s
  refine wpAny_bind (wpAny_holding (thn (ho.run pins s σ H _ I h) fun ov s1 ⟨x, H1, I1, r1, q1⟩ => ?_))
  have no := fun (s : Shared) (H : Hp) (I : Inv X pins σ H s) => po_none.run pins s σ H (fun o H2 => o = none ∧ H2 = H) I ⟨rfl, rfl⟩
  refine wpAny_bind (wpAny_holding (wpAny_Slice (thn (hl.run pins s1 σ H1 _ I1 q1) fun lv s2 ⟨y, H2, I2, r2, q2⟩ => ?_)))
  refine thn (no s2 H2 I2) fun uv s3 ⟨c, H3, I3, pu, ec, e3⟩ => ?_
  rw [e3] at I3
  rw [ec] at pu
  refine thn (no s3 H2 I3) fun sv s4 ⟨c', H4, I4, ps, ec', e4⟩ => ?_
  rw [e4] at I4
  rw [ec'] at ps
  cases pu
  cases ps
  obtain ⟨l, b, xs, ys, a, rfl, rfl, rfl, h1, h2, h3, h4, h5, h6, q⟩ := q2
  cases r1
  cases r
  have I5 : Inv X pins σ H2 { s4 with heap := s4.heap.push { cls := .type "slice", data := .fields #[lv, .none, .none] } } := I4.kept (t' := s4.toks) fun b ob q => Heap.get?_push_of_some _ q
  refine wpAny_bind (wpAny_standAt (wpAny_bind (wpAny_holding (set_tail I5 h1 h2 h3 (Heap.IsSliceOf.new _ lv .none .none) r2 h4 h5 h6 fun s' I' => ?_))))
  exact wpAny_release ⟨σ, _, I', q⟩
end
end DL

namespace DL
open PySem PySem.Spec PyProof.Rows L2
section
variable {X : Cx} {K : PySem.W.Frag} {E : EK}
/-- xs[a:] = ys, ys a list that does not change -/
def gSlc (fo fl : SemE) : SemG := fun n d σ M => (fo n σ M).bind fun x M1 => (fl n σ M1).bind fun k M2 => match x, k, d with
  | .ref m, .int a, .fz ys => match M2[m]? with
    | some (.lst es) => if 0 ≤ a ∧ a ≤ es.length ∧ es.length + ys.length ≤ sizeLine then (setOb n m (es.take a.toNat ++ ys) .non M2).bind fun _ M3 => .ok σ M3 else .stuck
    | _ => .stuck
  | _, _, _ => .stuck
theorem G_slc {o lo : Expr} {sp pos : Pos} {fo fl : SemE} (vs : List Nat) (ho : PE X o (DL.T K E fo)) (hl : PE X lo (DL.T K E fl)) : PG X (.Subscript o (.Slice (some lo) none none sp) pos) (Tgw K E vs (gSlc fo fl)) :=
  PG.to (pg_slc ho hl) fun v σ H Q ⟨n0, ι, M, σd, d, b, hv, q⟩ => by
    refine ⟨n0, ι, M, σd, b, (Wp.bind q).mono fun x ι1 M1 H1 p1 q1 ov hov => ?_⟩
    refine ⟨n0, ι1, M1, σd, b.to p1, (Wp.bind q1).mono fun k ι2 M2 H2 p2 q2 iv hiv => ?_⟩
    split at q2
    · rename_i m a ys
      split at q2
      · rename_i es e1
        split at q2
        · rename_i hc
          obtain ⟨c, xs, rfl, e2, e3, e4⟩ := ref_of p2.sh (hov.ext p2.ext) e1
          have hv2 := (hv.ext p1.ext).ext p2.ext
          simp only [VR] at hv2
          obtain ⟨bb, zs, rfl, ⟨h1, h2⟩, h3⟩ := hv2
          have l1 := vrs_len e4
          have l2 := vrs_len h3
          have ne : c ≠ bb := fun z => h2 (by rw [← z]; exact List.mem_of_getElem? e2)
          refine ⟨c, bb, xs, zs, a, rfl, int_of hiv, rfl, e3, h1, ne, hc.1, by rw [← l1]; exact hc.2.1, by rw [← l1, ← l2]; exact hc.2.2, ?_⟩
          have hvs : VRs K ι2 H2 (es.take a.toNat ++ ys) (xs.take a.toNat ++ zs) := vrs_app (vrs_take _ e4) h3
          unfold setOb at q2
          split at q2
          · rename_i hc2
            simp only [Bool.or_eq_true, decide_eq_true_eq] at hc2
            have p := post_mut (n0 := n0) p2.sh e2 e3 hvs hc2
            exact q2 _ _ p σ (((b.er.ext p1.ext).ext p2.ext).ext p.ext) rfl
          · exact q2.elim
        · exact q2.elim
      · exact q2.elim
    · exact q2.elim
end
end DL

namespace DL
open PySem PySem.Spec PyProof.Rows L2
section
variable {X : Cx} {K : PySem.W.Frag} {E : EK}
theorem vals_mk : ∀ {xs : List V} {us : List Value}, xs.length = us.length → (∀ (i : Nat) x u, xs[i]? = some x → us[i]? = some u → RelV x u) → Vals xs us
  | [], [], _, _ => .nil
  | x :: xs, u :: us, hl, h => .cons (h 0 x u (by simp) (by simp)) (vals_mk (by simpa using hl) fun i y w a b => h (i + 1) y w (by simpa using a) (by simpa using b))
  | [], _ :: _, hl, _ => by simp at hl
  | _ :: _, [], hl, _ => by simp at hl
def charsV (x : Str) : List V := x.cps.toList.map fun c => .str ⟨#[c]⟩
/-- list(x), a text too -/
def rListA (K : PySem.W.Frag) : List V → Hp → VK → Prop := fun vs H Q => rListV K vs H Q ∨ ∃ x, vs = [V.str x] ∧ x.cps.size ≤ sizeLine ∧ ∀ p, H p = none → Q (.ref p) (upd H p (.lst (charsV x)))
theorem call_listA (hc : X.calm = true) : CallR X (.type "list") (rListA X.K) := by
  intro pins s σ H vs us Q I r h
  rcases h with h | ⟨x, rfl, hz, q⟩
  · exact call_list_of pins s σ H vs us Q I r h
  · obtain ⟨u, rfl, t, rfl⟩ := r.one
    refine call_list_str (hn := hz) (I.ok.hd hc) x t fun h' tk acc c' hk hob hacc => ?_
    refine ⟨.ref _, _, I.laid (t' := tk) (o := .lst (charsV x)) hk (Nat.le_refl _) ⟨by simpa [charsV] using hz, acc.toList, c', ?_, by simpa using hob⟩, rfl, q _ (I.hok.fresh (Nat.le_refl _))⟩
    refine vals_mk (by simp [charsV, hacc.1]) fun i y v h1 h2 => ?_
    obtain ⟨c, w, h3, rfl⟩ := hacc.2 i v (by simpa using h2)
    have : y = .str ⟨#[c]⟩ := by
      unfold charsV at h1
      rw [List.getElem?_map, Array.getElem?_toList, h3] at h1
      simpa using h1.symm
    subst this
    exact ⟨w, rfl⟩
def pListA (m : Bool) : PL := fun ds M => match ds with
  | [.str cs] => if cs.length ≤ sizeLine then some (mkLst m (charsOf cs) M) else none
  | ds => pList m ds M
theorem listA_ok (m : Bool) : PLS K E (rListA K) (pListA m) := fun n0 ι M H xs vs Q res a hx e h => by
  unfold pListA at e
  split at e
  · rename_i cs
    split at e
    · rename_i hz
      cases e
      obtain ⟨v, rfl, hv⟩ := vrs1 (ds := []) hx
      simp only [VR] at hv
      subst hv
      refine .inr ⟨_, rfl, by simpa using hz, (lst_made a ?_ h).2⟩
      have : ∀ cs : List Nat, VRs K ι H (charsOf cs) (cs.map fun c => V.str ⟨#[c]⟩) := fun cs => by
        induction cs with
        | nil => simp [charsOf, VRs]
        | cons c cs ih =>
          show VRs K ι H (.str [c] :: charsOf cs) _
          simp only [VRs, VR]
          exact ⟨_, _, rfl, rfl, ih⟩
      exact this cs
    · cases e
  · exact .inl (list_ok m n0 ι M H _ vs Q res a hx e h)
end
end DL

namespace DL
open PySem PySem.Spec PyProof.Rows L2
/-! ### flat values: numbers, texts, None -/
def flatD : D → Bool
  | .non => true
  | .int _ => true
  | .str _ => true
  | _ => false
section
variable {K : PySem.W.Frag} {E : EK} {ι ι' : Io} {H H' : Hp} {M M' : Hep} {n0 : Nat}
theorem flat_V {d : D} {v : V} (h : flatD d = true) (r : VR K ι H d v) : flatV v = true := by
  cases d <;> (first | (cases h; done) | skip) <;> simp only [VR] at r <;> subst r <;> rfl
theorem str_beq (a b : List Nat) : ((⟨a.toArray⟩ : Str) == ⟨b.toArray⟩) = decide (a = b) := by
  rw [Bool.eq_iff_iff, beq_iff_eq, decide_eq_true_eq]
  constructor
  · intro h
    injection h with h
    simpa using h
  · intro h; rw [h]
theorem flat_eq {x y : D} {v u : V} (hx : flatD x = true) (hy : flatD y = true) (rx : VR K ι H x v) (ry : VR K ι H y u) : eqV v u = D.eq x y := by
  cases x <;> (first | (cases hx; done) | skip) <;> cases y <;> (first | (cases hy; done) | skip) <;> simp only [VR] at rx ry <;> subst rx <;> subst ry <;>
    first | rfl | (simp only [eqV, D.eq, str_beq]; done) | (simp only [eqV, D.eq]; rw [Bool.eq_iff_iff]; simp)
theorem flats_V : ∀ {ds : List D} {xs : List V}, ds.all flatD = true → VRs K ι H ds xs → xs.all flatV = true
  | [], xs, _, r => by simp only [VRs] at r; subst r; rfl
  | d :: ds, xs, h, r => by
    simp only [VRs] at r
    obtain ⟨x, r', rfl, r1, r2⟩ := r
    simp only [List.all_cons, Bool.and_eq_true] at h ⊢
    exact ⟨flat_V h.1 r1, flats_V h.2 r2⟩
theorem flats_in {x : D} {v : V} (hx : flatD x = true) (rx : VR K ι H x v) : ∀ {ds : List D} {xs : List V}, ds.all flatD = true → VRs K ι H ds xs → inV v xs = ds.any fun d => D.eq d x
  | [], xs, _, r => by simp only [VRs] at r; subst r; rfl
  | d :: ds, xs, h, r => by
    simp only [VRs] at r
    obtain ⟨y, r', rfl, r1, r2⟩ := r
    simp only [List.all_cons, Bool.and_eq_true] at h
    have ih := flats_in hx rx h.2 r2
    unfold inV at ih ⊢
    rw [List.any_cons, List.any_cons, flat_eq h.1 hx r1 rx, ih]
/-- x in xs: flat ones -/
def pInF (neg : Bool) : P2 := fun x y M => match seq? y M with
  | some ds => if flatD x && ds.all flatD then some (.ok (.bl (if neg then !(ds.any fun d => D.eq d x) else ds.any fun d => D.eq d x)) M) else none
  | none => none
theorem inF_ok (neg : Bool) : P2S K E (rIn K neg) (pInF neg) := fun n0 ι M H x y v u Q res a hx hy e h => by
  unfold pInF at e
  split at e
  · rename_i ds e1
    split at e
    · rename_i hc
      simp only [Bool.and_eq_true] at hc
      cases e
      obtain ⟨p, xs, rfl, h1, h2⟩ := seq_of a.sh e1 hy
      refine ⟨p, xs, rfl, h1, flat_V hc.1 hx, flats_V hc.2 h2, ?_⟩
      rw [flats_in hc.1 hx hc.2 h2]
      exact wp_ok a h _ vr_bl
    · cases e
  · cases e
/-- .. of a list of whatever data -/
def pInD (neg : Bool) : P2 := fun x y M => match lst? y M, pyOf M x, pyOf M y with
  | some _, some d, some (.list ds) => if SeqAt.shaped d && SeqAt.shaped (.list ds) then some (.ok (.bl (if neg then !(ds.any fun z => PyData.eqv z d) else ds.any fun z => PyData.eqv z d)) M) else none
  | _, _, _ => none
theorem inD_ok : P2S K E (rInD K) (pInD false) := fun n0 ι M H x y v u Q res a hx hy e h => by
  unfold pInD at e
  split at e
  · rename_i e0 e1 e2
    split at e
    · rename_i hc
      simp only [Bool.and_eq_true] at hc
      cases e
      exact ⟨_, _, dp_pyOf a.sh e1 hx, dp_pyOf a.sh e2 hy, hc.1, hc.2, wp_ok a h _ vr_bl⟩
    · cases e
  · cases e
theorem notInD_ok : P2S K E (rNotInD K) (pInD true) := fun n0 ι M H x y v u Q res a hx hy e h => by
  unfold pInD at e
  split at e
  · rename_i e0 e1 e2
    split at e
    · rename_i hc
      simp only [Bool.and_eq_true] at hc
      cases e
      exact ⟨_, _, dp_pyOf a.sh e1 hx, dp_pyOf a.sh e2 hy, hc.1, hc.2, wp_ok a h _ vr_bl⟩
    · cases e
  · cases e
def opIn : Op2 := ((pInF false).or ((pInD false).or (pInDc false))).op
def opNotIn : Op2 := ((pInF true).or ((pInD true).or (pInDc true))).op
variable {X : Cx} {a b : Expr} {pos : Pos} {fa fb : SemE}
theorem b_in {k : Nat} (hK : X.K = K) (hr : Room k X.A) (ha : PE X a (DL.T K E fa)) (hb : PE X b (DL.T K E fb)) (hm : behindInMarks .In b = false) : PE X (.Compare a [.In] [b] pos) (DL.T K E (eBin opIn fa fb)) := by
  subst hK
  exact T_cmp (opR_or op_in_seq (opR_or (op_inD (by have := hr.un; omega)) (op_inDc (by have := hr.un; omega)))) ((inF_ok false).or (inD_ok.or (pInDc_ok false))).op ha hb hm
theorem b_notIn {k : Nat} (hK : X.K = K) (hr : Room k X.A) (ha : PE X a (DL.T K E fa)) (hb : PE X b (DL.T K E fb)) (hm : behindInMarks .NotIn b = false) : PE X (.Compare a [.NotIn] [b] pos) (DL.T K E (eBin opNotIn fa fb)) := by
  subst hK
  exact T_cmp (opR_or op_notIn_seq (opR_or (op_notInD (by have := hr.un; omega)) (op_notInDc (by have := hr.un; omega)))) ((inF_ok true).or (notInD_ok.or (pInDc_ok true))).op ha hb hm
/-! ### is, of None and of truths -/
def pIsN (f : Bool → Bool) : P2 := fun x y M => match y with
  | .non => some (.ok (.bl (f x.isNon)) M)
  | _ => none
def pIsB (f : Bool → Bool) : P2 := fun x y M => match x, y with
  | .bl a, .bl b => some (.ok (.bl (f (decide (a = b)))) M)
  | _, _ => none
theorem isN_okG {f : Bool → Bool} {r : R2} (hr : ∀ x y H Q, y = V.non ∧ Q (.bl (f (decide (x = .non)))) H → r x y H Q) : P2S K E r (pIsN f) := fun n0 ι M H x y v u Q res a hx hy e h => by
  unfold pIsN at e
  split at e
  · cases e
    refine hr _ _ _ _ ⟨by simpa only [VR] using hy, ?_⟩
    rw [non_iff hx]
    exact wp_ok a h _ vr_bl
  · cases e
theorem isB_okG {f : Bool → Bool} {r : R2} (hr : ∀ x y H Q, (∃ a b : Bool, x = V.bl a ∧ y = .bl b ∧ Q (.bl (f (decide (a = b)))) H) → r x y H Q) : P2S K E r (pIsB f) := fun n0 ι M H x y v u Q res a hx hy e h => by
  unfold pIsB at e
  split at e
  · cases e
    exact hr _ _ _ _ ⟨_, _, bl_of hx, bl_of hy, wp_ok a h _ vr_bl⟩
  · cases e
def opIsA : Op2 := ((pIsN id).or (pIsB id)).op
def opNotA : Op2 := ((pIsN not).or (pIsB not)).op
theorem b_isA (ha : PE X a (DL.T K E fa)) (hb : PE X b (DL.T K E fb)) (hm : behindInMarks .Is b = false) : PE X (.Compare a [.Is] [b] pos) (DL.T K E (eBin opIsA fa fb)) :=
  T_cmp (opR_or op_isN op_isBl) ((isN_okG fun _ _ _ _ h => h).or (isB_okG fun _ _ _ _ h => h)).op ha hb hm
theorem b_notA (ha : PE X a (DL.T K E fa)) (hb : PE X b (DL.T K E fb)) (hm : behindInMarks .IsNot b = false) : PE X (.Compare a [.IsNot] [b] pos) (DL.T K E (eBin opNotA fa fb)) :=
  T_cmp (opR_or op_notN op_notBl) ((isN_okG fun _ _ _ _ h => h).or (isB_okG fun _ _ _ _ h => h)).op ha hb hm
/-! ### xs.index(x) -/
def firstD (x : D) : List D → Option Nat
  | [] => none
  | d :: ds => if D.eq d x then some 0 else (firstD x ds).map (· + 1)
theorem firstD_at {x : D} : ∀ {ds : List D} {j : Nat}, firstD x ds = some j → ∃ z, ds[j]? = some z ∧ D.eq z x = true ∧ ∀ m z', m < j → ds[m]? = some z' → D.eq z' x = false
  | [], j, h => by simp [firstD] at h
  | d :: ds, j, h => by
    unfold firstD at h
    by_cases e : D.eq d x = true
    · rw [if_pos e] at h
      cases h
      exact ⟨d, rfl, e, fun m z' hm => absurd hm (Nat.not_lt_zero _)⟩
    · rw [if_neg e] at h
      simp only [Option.map_eq_some_iff] at h
      obtain ⟨k, h1, rfl⟩ := h
      obtain ⟨z, z1, z2, z3⟩ := firstD_at h1
      refine ⟨z, z1, z2, fun m z' hm hz => ?_⟩
      cases m with
      | zero => simp at hz; subst hz; simpa using e
      | succ m => exact z3 m z' (by omega) (by simpa using hz)
theorem mt_tup_indexF {X : Cx} : MtR X "tuple.index" (fun x xs H Q => ∃ (a : Addr) (ys : List V) (y : V) (j : Nat) (z : V), x = V.ref a ∧ xs = [y] ∧ SqT X.K H a ys ∧ flatV y = true ∧ ys.all flatV = true ∧ ys[j]? = some z ∧ eqV z y = true ∧ (∀ (m : Nat) (z' : V), m < j → ys[m]? = some z' → eqV z' y = false) ∧ Q (.int (j : Nat)) H) := by
  intro pins s σ H x xs v us Q I rx rxs h
  obtain ⟨a, ys, y, j, z, rfl, rfl, hs, fy, fys, hz, hzj, hno, q⟩ := h
  cases rx
  cases rxs with
  | cons ry rt =>
    rename_i uy ut
    cases rt
    obtain ⟨its, rv, pl, hlen⟩ := I.tuple hs
    obtain ⟨⟨cls, dd, data, sl⟩, ho, hc, n, hd⟩ := pl
    simp only at hc hd
    subst hc hd
    obtain ⟨u, hu, ru⟩ := rv.get hz
    obtain ⟨hjl, hje⟩ := List.getElem?_eq_some_iff.mp hu
    have hvl := rv.length
    have hj : j < its.toArray.size := by simpa using hjl
    refine call_meets PySem.F.slot_tuple_index ⟨_, ho, rfl⟩ PySem.F.entry_tuple_index (PySem.F.args_tuple_index_2 _ _)
      (TI.tuple_indexAt a its.toArray n dd sl uy (eqU y) j hj ?_ ?_) ⟨ho, fun u' hu' => mem_eqAt ry fy rv fys u' (by simpa using hu'), ?_⟩
    · have e1 : its.toArray[j] = u := by simpa using hje
      rw [e1, eqU_of ru (flat_at fys hz)]
      exact hzj
    · intro m hm hmj
      have hml : m < its.length := by simpa using hm
      have hmy : m < ys.length := by omega
      have hy' : ys[m]? = some ys[m] := List.getElem?_eq_getElem hmy
      obtain ⟨u2, hu2, ru2⟩ := rv.get hy'
      obtain ⟨_, hme⟩ := List.getElem?_eq_some_iff.mp hu2
      have e1 : its.toArray[m] = u2 := by simpa using hme
      rw [e1, eqU_of ru2 (flat_at fys hy')]
      exact hno m _ hmj hy'
    · exact ⟨.int (j : Nat), H, I.tok _, ⟨_, rfl⟩, q⟩
theorem vrs_get_r : ∀ {ds : List D} {xs : List V} {i : Nat} {x : V}, VRs K ι H ds xs → xs[i]? = some x → ∃ d, ds[i]? = some d ∧ VR K ι H d x
  | [], xs, i, x, h, e => by simp only [VRs] at h; subst h; simp at e
  | d0 :: ds, xs, i, x, h, e => by
    simp only [VRs] at h
    obtain ⟨y, r, rfl, q, s⟩ := h
    cases i with
    | zero => simp at e; subst e; exact ⟨d0, by simp, q⟩
    | succ i => simpa using vrs_get_r s (by simpa using e)
theorem all_at {α : Type} {p : α → Bool} {xs : List α} {i : Nat} {x : α} (h : xs.all p = true) (e : xs[i]? = some x) : p x = true := (List.all_eq_true.mp h) x (List.mem_of_getElem? e)
theorem index_V {d : D} {v : V} {ds : List D} {xs : List V} {j : Nat} (hd : flatD d = true) (hds : ds.all flatD = true) (rd : VR K ι H d v) (r : VRs K ι H ds xs) (h : firstD d ds = some j) :
    ∃ z, xs[j]? = some z ∧ eqV z v = true ∧ ∀ (m : Nat) (z' : V), m < j → xs[m]? = some z' → eqV z' v = false := by
  obtain ⟨z, z1, z2, z3⟩ := firstD_at h
  obtain ⟨y, y1, y2⟩ := vrs_get r z1
  refine ⟨y, y1, by rw [flat_eq (all_at hds z1) hd y2 rd]; exact z2, fun m z' hm hz => ?_⟩
  obtain ⟨e, e1, e2⟩ := vrs_get_r r hz
  rw [flat_eq (all_at hds e1) hd e2 rd]
  exact z3 m e hm e1
/-- a list's -/
def mIxL : OpM := fun _ x ds M => match lst? x M, ds with
  | some es, [d] => if flatD d && es.all flatD then match firstD d es with
      | some j => .ok (.int j) M
      | none => .stuck
    else .stuck
  | _, _ => .stuck
theorem ixL_ok : MtS K E (rIndex K) mIxL := fun n0 ι M H x v ds vs Q a hx hd h => by
  unfold mIxL at h
  split at h
  · rename_i es d e1
    split at h
    · rename_i hc
      simp only [Bool.and_eq_true] at hc
      split at h
      · rename_i j e2
        obtain ⟨u, rfl, h1⟩ := vrs1 (ds := []) hd
        obtain ⟨p, xs, rfl, h2, h3⟩ := sqL_of a.sh e1 hx
        obtain ⟨z, z1, z2, z3⟩ := index_V hc.1 hc.2 h1 h3 e2
        exact ⟨p, xs, u, j, z, rfl, rfl, h2, flat_V hc.1 h1, flats_V hc.2 h3, z1, z2, z3, wp_ok a h _ vr_int⟩
      · exact h.elim
    · exact h.elim
  · exact h.elim
/-! ### min of a list of ints -/
def minI : Int → List Int → Int
  | x, [] => x
  | x, y :: ys => minI (if y < x then y else x) ys
theorem minI_mem : ∀ (ys : List Int) (x : Int), minI x ys ∈ x :: ys
  | [], x => by simp [minI]
  | y :: ys, x => by
    unfold minI
    have := minI_mem ys (if y < x then y else x)
    rcases List.mem_cons.mp this with h | h
    · rw [h]; split <;> simp
    · exact List.mem_cons_of_mem _ (List.mem_cons_of_mem _ h)
theorem minI_le : ∀ (ys : List Int) (x z : Int), z ∈ x :: ys → minI x ys ≤ z
  | [], x, z, h => by simp at h; subst h; simp [minI]
  | y :: ys, x, z, h => by
    unfold minI
    have h0 := minI_le ys (if y < x then y else x) (if y < x then y else x) List.mem_cons_self
    rcases List.mem_cons.mp h with h | h
    · subst h
      refine Int.le_trans h0 ?_
      split <;> omega
    · rcases List.mem_cons.mp h with h | h
      · subst h
        refine Int.le_trans h0 ?_
        split <;> omega
      · exact minI_le ys _ z (List.mem_cons_of_mem _ h)
def pMinL : PL := fun ds M => match ds with
  | [d] => match (lst? d M).bind intsOf with
    | some (n :: ns) => some (.ok (.int (minI n ns)) M)
    | _ => none
  | _ => none
theorem minL_ok : PLS K E (rMin K) pMinL := fun n0 ι M H xs vs Q res a hx e h => by
  unfold pMinL at e
  split at e
  · split at e
    · rename_i n ns e1
      cases e
      simp only [Option.bind_eq_some_iff] at e1
      obtain ⟨es, e2, e3⟩ := e1
      obtain ⟨v, rfl, hv⟩ := vrs1 (ds := []) hx
      obtain ⟨p, ys, rfl, h1, h2⟩ := sqL_of a.sh e2 hv
      rw [ints_of e3 h2] at h1
      refine ⟨p, n :: ns, rfl, h1, Nat.succ_pos _, fun m hm hle => ?_⟩
      have : m = minI n ns := Int.le_antisymm (hle _ (minI_mem ns n)) (minI_le ns n m hm)
      rw [this]
      exact wp_ok a h _ vr_int
    · cases e
  · cases e
def pMinA : PL := pMin.or pMinL
/-! ### xs.count(x) of flat values, truths too -/
def flatB : D → Bool
  | .non => true
  | .bl _ => true
  | .int _ => true
  | .str _ => true
  | _ => false
def eqF : D → D → Bool
  | .non, .non => true
  | .bl a, .bl b => a == b
  | .bl a, .int b => (if a then 1 else 0) == b
  | .int a, .bl b => a == (if b then 1 else 0)
  | .int a, .int b => a == b
  | .str a, .str b => decide (a = b)
  | _, _ => false
theorem flatB_V {d : D} {v : V} (h : flatB d = true) (r : VR K ι H d v) : flatV v = true := by
  cases d <;> (first | (cases h; done) | skip) <;> simp only [VR] at r <;> subst r <;> rfl
theorem flatB_eq {x y : D} {v u : V} (hx : flatB x = true) (hy : flatB y = true) (rx : VR K ι H x v) (ry : VR K ι H y u) : eqV v u = eqF x y := by
  cases x <;> (first | (cases hx; done) | skip) <;> cases y <;> (first | (cases hy; done) | skip) <;> simp only [VR] at rx ry <;> subst rx <;> subst ry <;>
    first | rfl | (simp only [eqV, eqF, str_beq])
theorem flatsB_V : ∀ {ds : List D} {xs : List V}, ds.all flatB = true → VRs K ι H ds xs → xs.all flatV = true
  | [], xs, _, r => by simp only [VRs] at r; subst r; rfl
  | d :: ds, xs, h, r => by
    simp only [VRs] at r
    obtain ⟨x, r', rfl, r1, r2⟩ := r
    simp only [List.all_cons, Bool.and_eq_true] at h ⊢
    exact ⟨flatB_V h.1 r1, flatsB_V h.2 r2⟩
theorem flatB_count {x : D} {v : V} (hx : flatB x = true) (rx : VR K ι H x v) : ∀ {ds : List D} {xs : List V}, ds.all flatB = true → VRs K ι H ds xs → xs.countP (fun y => eqV y v) = ds.countP fun d => eqF d x
  | [], xs, _, r => by simp only [VRs] at r; subst r; rfl
  | d :: ds, xs, h, r => by
    simp only [VRs] at r
    obtain ⟨y, r', rfl, r1, r2⟩ := r
    simp only [List.all_cons, Bool.and_eq_true] at h
    rw [List.countP_cons, List.countP_cons, flatB_eq h.1 hx r1 rx, flatB_count hx rx h.2 r2]
def rCntF (K : PySem.W.Frag) : V → List V → Hp → VK → Prop := fun x xs H Q => ∃ (p : Addr) (ys : List V) (y : V), x = .ref p ∧ xs = [y] ∧ SqL K H p ys ∧ flatV y = true ∧ ys.all flatV = true ∧ Q (.int (ys.countP (fun z => eqV z y) : Nat)) H
theorem countP_V {y : V} : ∀ {ys : List V} {us : List Value}, Vals ys us → ys.all flatV = true → us.countP (eqU y) = ys.countP fun z => eqV z y
  | _, _, .nil, _ => rfl
  | z :: ys, u :: us, .cons r t, f => by
    simp only [List.all_cons, Bool.and_eq_true] at f
    rw [List.countP_cons, List.countP_cons, eqU_of r f.1, countP_V t f.2]
theorem mt_lcountF {X : Cx} : MtR X "list.count" (rCntF X.K) := by
  intro pins s σ H x xs v us Q I rx rxs h
  obtain ⟨p, ys, y, rfl, rfl, hs, fy, fys, q⟩ := h
  cases rx
  obtain ⟨u, rfl, ru⟩ := rxs.one
  obtain ⟨its, rv, ⟨⟨cls, dd, data, sl⟩, n, ho, hc, hdn, hd⟩, hlen⟩ := I.list hs
  simp only at hc hd
  subst hc hd
  refine call_meets PySem.F.slot_list_count ⟨_, ho, rfl⟩ PySem.F.entry_list_count (PySem.F.args_list_count_2 _ _)
    (SeqAt.list_countAt p its.toArray n dd sl u (eqU y)) ⟨ho, fun u' hu' => mem_eqAt ru fy rv fys u' (by simpa using hu'), ?_⟩
  have ec : its.toArray.toList.countP (eqU y) = ys.countP fun z => eqV z y := countP_V rv fys
  refine ⟨.int (ys.countP (fun z => eqV z y) : Nat), H, I.tok _, ⟨s.toks, ?_⟩, q⟩
  show Value.int ((its.toArray.toList.countP (eqU y) : Nat) : Int) s.toks = Value.int ((ys.countP (fun z => eqV z y) : Nat) : Int) s.toks
  rw [ec]
def mCnt : OpM := fun _ x ds M => match lst? x M, ds with
  | some es, [d] => if flatB d && es.all flatB then .ok (.int (es.countP (fun z => eqF z d) : Nat)) M else .stuck
  | _, _ => .stuck
theorem cnt_ok : MtS K E (rCntF K) mCnt := fun n0 ι M H x v ds vs Q a hx hd h => by
  unfold mCnt at h
  split at h
  · rename_i es d e1
    split at h
    · rename_i hc
      simp only [Bool.and_eq_true] at hc
      obtain ⟨u, rfl, h1⟩ := vrs1 (ds := []) hd
      obtain ⟨p, xs, rfl, h2, h3⟩ := sqL_of a.sh e1 hx
      exact ⟨p, xs, u, rfl, rfl, h2, flatB_V hc.1 h1, flatsB_V hc.2 h3, wp_ok a h _ (by rw [flatB_count hc.1 h1 hc.2 h3]; exact vr_int)⟩
    · exact h.elim
  · exact h.elim
/-! ### tuple * 1 -/
theorem tuple_mul1 (l : Addr) (items : Array Value) (n : Nat) (sl : Array (Option Value)) (dd : Option Addr) (u : Tok) :
    Meets (Builtin.«tuple.__mul__» ⟨[.ref l, .int 1 u], []⟩) (fun _ R s => s.heap.get? l = some { cls := .type "tuple", dict := dd, data := .seq items n, slots := sl } ∧ R (.ok (.ret (Value.ref l))) s) :=
  .of_wp fun prog w A R s h => by
    obtain ⟨hp, g, d, tk, os⟩ := s
    obtain ⟨hl, h⟩ := h
    have f1 := AutoSeq1.idx_int
    wp_walk using wpAny_loadPart' hl
    repeat (first
      | (refine wpAny_ite_false (decide_eq_false (by decide)) ?_; wp_walk using wpAny_loadPart' hl)
      | (refine wpAny_ite_true (decide_eq_true (by simp)) ?_; wp_walk using wpAny_loadPart' hl))
    exact ⟨_, rfl, h⟩
/-! ### d.get(k), d.get(k, x) -/
def isDct (d : D) (M : Hep) : Bool := (dct? d M).isSome
theorem isDct_ty : ∀ ι M H x v, SH K ι M H → VR K ι H x v → isDct x M = true → tyV K "dict" v H := fun ι M H x v s h c => by
  unfold isDct at c
  obtain ⟨⟨ks, vs⟩, e⟩ := Option.isSome_iff_exists.mp c
  obtain ⟨m, a, kvs, rfl, rfl, _, h1, _⟩ := dct_of s e h
  exact .inr (.inr (.inl ⟨rfl, .inl ⟨kvs, h1⟩⟩))
def rGet2 : V → List V → Hp → VK → Prop := fun x xs H Q => ∃ a y z o, x = .ref a ∧ xs = [y, z] ∧ DGet H a y o ∧ Q (o.getD z) H
theorem mt_get2 {X : Cx} (hu : X.A.units + 1 < cLine) : MtR X "dict.get" rGet2 := by
  intro pins s σ H x xs v us Q I rx rs h
  obtain ⟨a, y, z, o, rfl, rfl, g, q⟩ := h
  obtain rfl : v = Value.ref a := rx
  cases rs with
  | cons r1 rt =>
    cases rt with
    | cons r2 rt =>
      cases rt
      exact d_get2 hu I g r1 r2 fun w' s' I' r' => ⟨_, H, I', r', q⟩
def mGet2 : OpM := fun _ x ds M => match dct? x M, ds with
  | some (ks, vs), [k, z] => if keyD k then .ok ((valD ks vs k).getD z) M else .stuck
  | _, _ => .stuck
theorem get2_ok : MtS K E rGet2 mGet2 := fun n0 ι M H x v ds us Q a hx hd h => by
  unfold mGet2 at h
  split at h
  · rename_i ks vs k z e1
    split at h
    · rename_i hk
      obtain ⟨m, b, kvs, rfl, rfl, _, h1, h2, h3⟩ := dct_of a.sh e1 hx
      obtain ⟨y, w, rfl, r1, r2⟩ := vrs2 (ds := []) hd
      have := key_V hk r1
      subst this
      refine ⟨b, _, _, _, rfl, rfl, DGet.k h1, ?_⟩
      refine wp_ok a h _ ?_
      cases hv : valD ks vs k with
      | none => rw [(valD_V hk h2 h3).2 hv]; exact r2
      | some d => obtain ⟨w', e3, e4⟩ := (valD_V hk h2 h3).1 d hv; rw [e3]; exact e4
    · exact h.elim
  · exact h.elim
/-! ### dict(pairs) -/
def putAll (p : List D × List D) : List (D × D) → List D × List D
  | [] => p
  | (k, v) :: r => putAll (putD p.1 p.2 k v) r
def pairsOf : List D → Option (List (D × D))
  | [] => some []
  | .tup [k, v] :: r => if keyD k then (pairsOf r).map ((k, v) :: ·) else none
  | _ => none
def pDict : PL := fun ds M => match ds with
  | [d] => match (lst? d M).bind pairsOf with
    | some ps => some (.ok (.ref M.length) (M ++ [.dct (putAll ([], []) ps).1 (putAll ([], []) ps).2]))
    | none => none
  | _ => none
theorem pairs_V : ∀ {ds : List D} {xs : List V} {ps : List (D × D)}, pairsOf ds = some ps → VRs K ι H ds xs → ∃ (as : List Addr) (kvs : List (L2.Key × V)), xs = as.map V.ref ∧ Paired (fun p kv => SqT K H p [kV kv.1, kv.2]) as kvs ∧ VRs K ι H (ps.map (·.1)) (kvs.map fun p => kV p.1) ∧ VRs K ι H (ps.map (·.2)) (kvs.map (·.2)) ∧ ∀ p ∈ ps, keyD p.1 = true
  | [], xs, ps, e, h => by
    simp only [pairsOf, Option.some.injEq] at e
    subst e
    simp only [VRs] at h
    subst h
    exact ⟨[], [], rfl, .nil, by simp only [List.map_nil, VRs], by simp only [List.map_nil, VRs], fun _ h => by cases h⟩
  | d :: ds, xs, ps, e, h => by
    unfold pairsOf at e
    split at e
    · rename_i e0; cases e0
    · rename_i k v r e0
      cases e0
      split at e
      · rename_i hk
        simp only [Option.map_eq_some_iff] at e
        obtain ⟨ps', e1, rfl⟩ := e
        simp only [VRs] at h
        obtain ⟨x, r', rfl, h1, h2⟩ := h
        obtain ⟨p, ys, rfl, h3, h4⟩ := tup_of h1
        obtain ⟨y, z, rfl, h5, h6⟩ := vrs2 (ds := []) h4
        obtain ⟨as, kvs, rfl, q1, q2, q3, q4⟩ := pairs_V e1 h2
        have ek := key_V hk h5
        refine ⟨p :: as, (toKey k, z) :: kvs, rfl, .cons (by rw [← ek]; exact h3) q1, ?_, ?_, fun q hq => ?_⟩
        · simp only [List.map_cons, VRs]; exact ⟨_, _, rfl, by rw [← ek]; exact h5, q2⟩
        · simp only [List.map_cons, VRs]; exact ⟨_, _, rfl, h6, q3⟩
        · rcases List.mem_cons.mp hq with w | w
          · rw [w]; exact hk
          · exact q4 q w
      · cases e
    · cases e
theorem putAll_V : ∀ {ps : List (D × D)} {kvs kvs0 : List (L2.Key × V)} {ks vs : List D}, (∀ p ∈ ps, keyD p.1 = true) → VRs K ι H (ps.map (·.1)) (kvs.map fun p => kV p.1) → VRs K ι H (ps.map (·.2)) (kvs.map (·.2)) →
    VRs K ι H ks (kvs0.map fun p => kV p.1) → VRs K ι H vs (kvs0.map (·.2)) → VRs K ι H (putAll (ks, vs) ps).1 ((mergeK kvs0 kvs).map fun p => kV p.1) ∧ VRs K ι H (putAll (ks, vs) ps).2 ((mergeK kvs0 kvs).map (·.2))
  | [], kvs, kvs0, ks, vs, _, h1, h2, h3, h4 => by
    have : kvs = [] := by
      cases kvs with
      | nil => rfl
      | cons _ _ => simp only [VRs, List.map_cons, List.map_nil] at h1; cases h1
    subst this
    exact ⟨h3, h4⟩
  | (k, v) :: ps, kvs, kvs0, ks, vs, hk, h1, h2, h3, h4 => by
    simp only [List.map_cons, VRs] at h1 h2
    obtain ⟨x, r, e1, k1, k2⟩ := h1
    cases kvs with
    | nil => cases e1
    | cons q kvs =>
      simp only [List.map_cons, List.cons.injEq] at e1
      obtain ⟨rfl, rfl⟩ := e1
      obtain ⟨y, r2, e2, m1, m2⟩ := h2
      simp only [List.map_cons, List.cons.injEq] at e2
      obtain ⟨rfl, rfl⟩ := e2
      obtain ⟨kd, tk⟩ := V_key k1
      obtain ⟨p1, p2⟩ := putD_V (k := k) (v := v) kd (by rw [tk]; exact k1) m1 h3 h4
      rw [tk] at p1 p2
      exact putAll_V (ps := ps) (kvs := kvs) (ks := (putD ks vs k v).1) (vs := (putD ks vs k v).2) (fun p hp => hk p (List.mem_cons_of_mem _ hp)) k2 m2 p1 p2
def rDictP (K : PySem.W.Frag) : List V → Hp → VK → Prop := fun xs H Q => ∃ (a : Addr) (ps : List Addr) (kvs : List (L2.Key × V)), xs = [.ref a] ∧ SqL K H a (ps.map V.ref) ∧ Paired (fun p kv => SqT K H p [kV kv.1, kv.2]) ps kvs ∧ ∀ p, H p = none → Q (.ref p) (upd H p (.dK (mergeK [] kvs)))
theorem dict_ok : PLS K E (rDictP K) pDict := fun n0 ι M H xs vs Q res a hx e h => by
  unfold pDict at e
  split at e
  · split at e
    · rename_i ps e1
      cases e
      simp only [Option.bind_eq_some_iff] at e1
      obtain ⟨es, e2, e3⟩ := e1
      obtain ⟨v, rfl, hv⟩ := vrs1 (ds := []) hx
      obtain ⟨p, ys, rfl, h1, h2⟩ := sqL_of a.sh e2 hv
      obtain ⟨as, kvs, rfl, q1, q2, q3, q4⟩ := pairs_V e3 h2
      refine ⟨p, as, kvs, rfl, h1, q1, fun l hl => ?_⟩
      obtain ⟨r1, r2⟩ := putAll_V (kvs0 := []) (ks := []) (vs := []) q4 q2 q3 (by simp only [List.map_nil, VRs]) (by simp only [List.map_nil, VRs])
      exact h _ _ (post_refD a.sh hl r1 r2 a.le) _ (vr_ref a.sh)
    · cases e
  · cases e
/-! ### {k: v, ..} -/
structure ExtW (ι : Io) (H : Hp) (ι' : Io) (H' : Hp) : Prop where
  get : ∀ (n : Nat) (a : Addr), ι[n]? = some a → ι'[n]? = some a
  frame : ∀ a o, H a = some o → (∀ kvs, o ≠ .dK kvs) → a ∉ ι → H' a = some o
  nin : ∀ a o, H a = some o → (∀ kvs, o ≠ .dK kvs) → a ∉ ι → a ∉ ι'
theorem rd_extW {a : Addr} {u : HO} (e : ExtW ι H ι' H') (h : Rd H a u) (hu : ∀ kvs, u ≠ .dK kvs) (n : a ∉ ι) : Rd H' a u ∧ a ∉ ι' := by
  rcases h with h | ⟨o, h⟩
  · exact ⟨.inl (e.frame _ _ h hu n), e.nin _ _ h hu n⟩
  · exact ⟨.inr ⟨o, e.frame _ _ h (by intro k z; cases z) n⟩, e.nin _ _ h (by intro k z; cases z) n⟩
theorem TT.extW {a : Addr} {xs : List V} (e : ExtW ι H ι' H') (h : TT K ι H a xs) : TT K ι' H' a xs := by
  rcases h with h | ⟨h, n⟩
  · exact .inl h
  · exact .inr (rd_extW e h (by intro k z; cases z) n)
theorem LL.extW {a : Addr} {xs : List V} (e : ExtW ι H ι' H') (h : LL K ι H a xs) : LL K ι' H' a xs := by
  rcases h with h | ⟨h, n⟩
  · exact .inl h
  · exact .inr (rd_extW e h (by intro k z; cases z) n)
theorem LF.extW {a : Addr} {xs : List V} (e : ExtW ι H ι' H') (h : LF ι H a xs) : LF ι' H' a xs := ⟨e.frame _ _ h.1 (by intro k z; cases z) h.2, e.nin _ _ h.1 (by intro k z; cases z) h.2⟩
mutual
theorem VR.extW (e : ExtW ι H ι' H') : ∀ {d : D} {v : V}, VR K ι H d v → VR K ι' H' d v
  | .non, v, h => by simpa only [VR] using h
  | .bl b, v, h => by simpa only [VR] using h
  | .int i, v, h => by simpa only [VR] using h
  | .str cs, v, h => by simpa only [VR] using h
  | .ty n, v, h => by simpa only [VR] using h
  | .ref n, v, h => by
    simp only [VR] at h ⊢
    obtain ⟨a, e1, e2⟩ := h
    exact ⟨a, e1, e.get n a e2⟩
  | .tup ds, v, h => by
    simp only [VR] at h ⊢
    obtain ⟨a, xs, e1, e2, e3⟩ := h
    exact ⟨a, xs, e1, e2.extW e, VRs.extW e e3⟩
  | .fz ds, v, h => by
    simp only [VR] at h ⊢
    obtain ⟨a, xs, e1, e2, e3⟩ := h
    exact ⟨a, xs, e1, e2.extW e, VRs.extW e e3⟩
  | .ro ds, v, h => by
    simp only [VR] at h ⊢
    obtain ⟨a, xs, e1, e2, e3⟩ := h
    exact ⟨a, xs, e1, e2.extW e, VRs.extW e e3⟩
theorem VRs.extW (e : ExtW ι H ι' H') : ∀ {ds : List D} {xs : List V}, VRs K ι H ds xs → VRs K ι' H' ds xs
  | [], xs, h => by simpa only [VRs] using h
  | d :: ds, xs, h => by
    simp only [VRs] at h ⊢
    obtain ⟨x, r, e1, e2, e3⟩ := h
    exact ⟨x, r, e1, VR.extW e e2, VRs.extW e e3⟩
end
abbrev SemP := Nat → Sl → Hep → Res (List (D × D))
def pNil : SemP := fun _ _ M => .ok [] M
def pCons (a b : SemE) (r : SemP) : SemP := fun n σ M => (a n σ M).bind fun x M1 => (b n σ M1).bind fun y M2 => (r n σ M2).bind fun ps M3 => .ok ((x, y) :: ps) M3
def mkDct : List (D × D) → Hep → Res D := fun ps M => if ps.all (fun p => keyD p.1) then .ok (.ref M.length) (M ++ [.dct (putAll ([], []) ps).1 (putAll ([], []) ps).2]) else .stuck
def eDct (r : SemP) : SemE := fun n σ M => (r n σ M).bind fun ps M1 => mkDct ps M1
def semP : List (SemE × SemE) → SemP
  | [] => pNil
  | (a, b) :: r => pCons a b (semP r)
def vrp (K : PySem.W.Frag) (ι : Io) (H : Hp) : List (D × D) → List (V × V) → Prop
  | [], vs => vs = []
  | (a, b) :: r, vs => ∃ x y r', vs = (x, y) :: r' ∧ VR K ι H a x ∧ VR K ι H b y ∧ vrp K ι H r r'
theorem vrp_ext (e : Ext ι H ι' H') : ∀ {ps : List (D × D)} {vs : List (V × V)}, vrp K ι H ps vs → vrp K ι' H' ps vs
  | [], _, h => h
  | (a, b) :: r, vs, h => by
    obtain ⟨x, y, r', rfl, h1, h2, h3⟩ := h
    exact ⟨x, y, r', rfl, h1.ext e, h2.ext e, vrp_ext e h3⟩
theorem pairs_read {σ : L2.St} {n0 : Nat} {σd : Sl} : ∀ (fs : List (SemE × SemE)) {ι : Io} {M : Hep} {H : Hp} {Q : List (V × V) → Hp → Prop}, Bg K n0 ι M H σd σ → Wp K E n0 ι M H (semP fs n0 σd M) (fun ps ι' M' H' => ∀ vs, vrp K ι' H' ps vs → Q vs H') →
    tPairs (fs.map fun f => (DL.T K E f.1, DL.T K E f.2)) σ H Q
  | [], ι, M, H, Q, b, q => by
    have q : Wp K E n0 ι M H (Res.ok [] M) _ := q
    exact q ι H (Post.refl b.sh) [] rfl
  | (fa, fb) :: r, ι, M, H, Q, b, q => by
    refine ⟨n0, ι, M, σd, b, (Wp.bind q).mono fun x ι1 M1 H1 p1 q1 v hv => ?_⟩
    refine ⟨n0, ι1, M1, σd, b.to p1, (Wp.bind q1).mono fun y ι2 M2 H2 p2 q2 u hu => ?_⟩
    refine pairs_read r (b.to (p1.trans p2)) ((Wp.bind q2).mono fun ps ι3 M3 H3 p3 q3 vs hvs => ?_)
    exact q3 ι3 H3 (Post.refl p3.sh) ((v, u) :: vs) ⟨v, u, vs, rfl, (hv.ext p2.ext).ext p3.ext, hu.ext p3.ext, hvs⟩
theorem vrp_split : ∀ {ps : List (D × D)} {vs : List (V × V)}, vrp K ι H ps vs → ps.all (fun p => keyD p.1) = true → ∃ kvs : List (L2.Key × V), vs = kvs.map (fun kv => (kV kv.1, kv.2)) ∧ kvs.length = ps.length ∧ VRs K ι H (ps.map (·.1)) (kvs.map fun p => kV p.1) ∧ VRs K ι H (ps.map (·.2)) (kvs.map (·.2))
  | [], vs, h, _ => by
    have h : vs = [] := h
    subst h
    exact ⟨[], rfl, rfl, by simp only [List.map_nil, VRs], by simp only [List.map_nil, VRs]⟩
  | (a, b) :: r, vs, h, hk => by
    obtain ⟨x, y, r', rfl, h1, h2, h3⟩ := h
    simp only [List.all_cons, Bool.and_eq_true] at hk
    obtain ⟨kvs, rfl, e1, e2, e3⟩ := vrp_split h3 hk.2
    have ek := key_V hk.1 h1
    refine ⟨(toKey a, y) :: kvs, by rw [ek]; rfl, by simp [e1], ?_, ?_⟩
    · simp only [List.map_cons, VRs]; exact ⟨_, _, rfl, by rw [← ek]; exact h1, e2⟩
    · simp only [List.map_cons, VRs]; exact ⟨_, _, rfl, h2, e3⟩
theorem semP_len {n0 : Nat} {σd : Sl} : ∀ (fs : List (SemE × SemE)) {M M' : Hep} {ps : List (D × D)}, semP fs n0 σd M = .ok ps M' → ps.length = fs.length
  | [], M, M', ps, h => by
    unfold semP pNil at h
    cases h; rfl
  | (a, b) :: r, M, M', ps, h => by
    unfold semP pCons at h
    cases h1 : a n0 σd M with
    | ok x M1 =>
      rw [h1] at h
      simp only [Res.bind_ok] at h
      cases h2 : b n0 σd M1 with
      | ok y M2 =>
        rw [h2] at h
        simp only [Res.bind_ok] at h
        cases h3 : semP r n0 σd M2 with
        | ok qs M3 =>
          rw [h3] at h
          simp only [Res.bind_ok] at h
          cases h
          rw [List.length_cons, semP_len r h3, List.length_cons]
        | err c M3 => rw [h3] at h; cases h
        | stuck => rw [h3] at h; cases h
      | err c M3 => rw [h2] at h; cases h
      | stuck => rw [h2] at h; cases h
    | err c M3 => rw [h1] at h; cases h
    | stuck => rw [h1] at h; cases h
theorem Wp.know {α : Type} {r : Res α} {k : α → Io → Hep → Hp → Prop} (h : Wp K E n0 ι M H r k) : Wp K E n0 ι M H r fun a ι' M' H' => r = .ok a M' ∧ k a ι' M' H' := by
  cases r with
  | ok a M' => exact fun ι' H' p => ⟨rfl, h ι' H' p⟩
  | err c M' => exact h
  | stuck => exact h
theorem T_dct {X : Cx} {keys : List (Option Expr)} {values : List Expr} {fs : List (SemE × SemE)} {pos : Pos} (h : PPs X pos keys values (fs.map fun f => (DL.T K E f.1, DL.T K E f.2))) (hall : keys.all (·.isSome) = true) (hl : keys.length = values.length) (h0 : keys ≠ [])
    (h15 : keys.length ≤ 15) (hf : fs.length ≤ 15) : PE X (.Dict keys values pos) (DL.T K E (eDct (semP fs))) :=
  PE.to (pe_disp h hall hl h0 h15) fun σ H Q ⟨n0, ι, M, σd, b, q⟩ p hp => by
    have pn : Post K n0 ι M H ι M (upd H p (.dK [])) := post_new b.sh hp
    refine pairs_read fs (b.to pn) ((Wp.know (Wp.shift pn (Wp.bind2 q))).mono fun ps ι2 M2 H2 p2 q2 vs hvs => ?_)
    obtain ⟨eps, q2⟩ := q2
    have pιn : p ∉ ι := b.sh.new hp
    have at2 : H2 p = some (.dK []) := p2.ext.frame p _ upd_same pιn
    have pn2 : p ∉ ι2 := p2.ext.notin (upd_same (H := H) (a := p) (o := HO.dK [])) pιn
    unfold mkDct at q2
    split at q2
    · rename_i hk
      obtain ⟨kvs, rfl, e1, e2, e3⟩ := vrp_split hvs hk
      have hlen : kvs.length ≤ 15 := by rw [e1, semP_len fs eps]; exact hf
      refine ⟨at2, kvs, rfl, hlen, ?_⟩
      have hkp : ∀ r ∈ ps, keyD r.1 = true := fun r hr => List.all_eq_true.mp hk r hr
      obtain ⟨r1, r2⟩ := putAll_V (kvs0 := []) (ks := []) (vs := []) hkp e2 e3 (by simp only [List.map_nil, VRs]) (by simp only [List.map_nil, VRs])
      have w : ExtW ι2 H2 (ι2 ++ [p]) (upd H2 p (.dK (mergeK [] kvs))) := ⟨fun n a e => by
          rw [List.getElem?_append_left (List.getElem?_eq_some_iff.mp e).1]; exact e,
        fun a o e hn _ => by
          have : a ≠ p := fun z => by subst z; rw [at2] at e; cases e; exact hn _ rfl
          rw [upd_ne this]; exact e,
        fun a o e hn ha => by
          simp only [List.mem_append, List.mem_singleton, not_or]
          exact ⟨ha, fun z => by subst z; rw [at2] at e; cases e; exact hn _ rfl⟩⟩
      have hι : ι2.length = M2.length := p2.sh.len
      obtain ⟨t, et, ft⟩ := p2.ext.pre
      refine q2 (ι2 ++ [p]) (upd H2 p (.dK (mergeK [] kvs))) ⟨⟨⟨t ++ [p], by rw [et, List.append_assoc], fun a ha => ?_⟩, fun a o e ha => ?_, fun a e => ?_⟩, ⟨?_, by simp [hι], fun n ob a e1 e2 => ?_⟩, ⟨?_, fun n hn bl i ob hi ei => ?_⟩⟩ (.ref p) ?_
      · rcases List.mem_append.mp ha with z | z
        · have := ft a z
          by_cases y : a = p
          · rw [y, upd_same] at this; cases this
          · rw [upd_ne y] at this; exact this
        · rw [List.mem_singleton.mp z]; exact hp
      · have : a ≠ p := fun z => by rw [z, hp] at e; cases e
        rw [upd_ne this]
        exact p2.ext.frame a o (by rw [upd_ne this]; exact e) ha
      · by_cases y : a = p
        · rw [y, upd_same] at e; cases e
        · rw [upd_ne y] at e
          have := p2.ext.dom a e
          rw [upd_ne y] at this; exact this
      · rw [List.nodup_append]
        exact ⟨p2.sh.nd, by simp, fun x hx y hy => by simp at hy; subst hy; intro z; subst z; exact pn2 hx⟩
      · by_cases z : n < M2.length
        · rw [List.getElem?_append_left z] at e1
          rw [List.getElem?_append_left (by omega)] at e2
          have o := p2.sh.ob n ob a e1 e2
          have ap : a ≠ p := fun y => pn2 (by rw [← y]; exact List.mem_of_getElem? e2)
          cases ob with
          | lst ds =>
            obtain ⟨xs, h1, h2⟩ := o
            exact ⟨xs, by rw [upd_ne ap]; exact h1, h2.extW w⟩
          | dct ks vs =>
            obtain ⟨xs, h1, h2, h3⟩ := o
            exact ⟨xs, by rw [upd_ne ap]; exact h1, h2.extW w, h3.extW w⟩
        · have hn : n = M2.length := by
            have := (List.getElem?_eq_some_iff.mp e1).1
            simp at this; omega
          subst hn
          have ea : a = p := by
            rw [List.getElem?_append_right (by omega), hι] at e2
            simp at e2; exact e2.symm
          have eo : ob = .dct (putAll ([], []) ps).1 (putAll ([], []) ps).2 := by simp at e1; exact e1.symm
          subst ea eo
          exact ⟨_, upd_same, r1.extW w, r2.extW w⟩
      · have := p2.keep.sz; simp; omega
      · have hs := p2.keep.sz
        have := b.le
        rw [List.getElem?_append_left (by omega)] at ei
        exact p2.keep.bel n hn bl i ob hi ei
      · simp only [VR]
        exact ⟨p, rfl, by rw [List.getElem?_append_right (by omega), hι]; simp⟩
    · exact q2.elim
theorem T_dct0 {X : Cx} {pos : Pos} : PE X (.Dict [] [] pos) (DL.T K E (eDct pNil)) :=
  PE.to pe_dnewK fun σ H Q ⟨n0, ι, M, σd, b, q⟩ p hp => by
    have q : Wp K E n0 ι M H (Res.ok (DL.D.ref M.length) (M ++ [.dct [] []])) _ := q
    exact q _ _ (post_refD (kvs := []) b.sh hp (by simp only [List.map_nil, VRs]) (by simp only [List.map_nil, VRs]) b.le) _ (vr_ref b.sh)
theorem isA_rule {X : Cx} : ∃ r, OpR X (compareOp .Is) r ∧ Op2S K E r opIsA := ⟨_, opR_or op_isN op_isBl, ((isN_okG fun _ _ _ _ h => h).or (isB_okG fun _ _ _ _ h => h)).op⟩
theorem notA_rule {X : Cx} : ∃ r, OpR X (compareOp .IsNot) r ∧ Op2S K E r opNotA := ⟨_, opR_or op_notN op_notBl, ((isN_okG fun _ _ _ _ h => h).or (isB_okG fun _ _ _ _ h => h)).op⟩
theorem in_rule {X : Cx} {k : Nat} (hK : X.K = K) (hr : Room k X.A) : ∃ r, OpR X (compareOp .In) r ∧ Op2S K E r opIn := by
  subst hK
  exact ⟨_, opR_or op_in_seq (opR_or (op_inD (by have := hr.un; omega)) (op_inDc (by have := hr.un; omega))), ((inF_ok false).or (inD_ok.or (pInDc_ok false))).op⟩
theorem notIn_rule {X : Cx} {k : Nat} (hK : X.K = K) (hr : Room k X.A) : ∃ r, OpR X (compareOp .NotIn) r ∧ Op2S K E r opNotIn := by
  subst hK
  exact ⟨_, opR_or op_notIn_seq (opR_or (op_notInD (by have := hr.un; omega)) (op_notInDc (by have := hr.un; omega))), ((inF_ok true).or (notInD_ok.or (pInDc_ok true))).op⟩
end
end DL

namespace DL
open PySem PySem.Spec PyProof.Rows L2

/-! ### the text's own forms -/
def plainE : Expr → Bool
  | .Starred _ _ => false
  | _ => true
def plainEs : List Expr → Bool
  | [] => true
  | e :: es => plainE e && plainEs es
theorem star_cons {e : Expr} {es : List Expr} (env : Env) (h : plainE e = true) : starEach (e :: es) env = (false, eval e env) :: starEach es env := by
  cases e <;> first | rfl | cases h
theorem star_any {es : List Expr} (env : Env) (pos : Pos) (h : plainEs es = true) : (backTo pos (starEach es env)).any (·.1) = false := by
  induction es with
  | nil => rfl
  | cons e es ih =>
    simp only [plainEs, Bool.and_eq_true] at h
    rw [star_cons env h.1]
    have := ih h.2
    unfold backTo at this ⊢
    simpa using this
theorem star_all {es : List Expr} (env : Env) (pos : Pos) (h : plainEs es = true) : ((backTo pos (starEach es env)).all fun x => !x.1) = true := by
  induction es with
  | nil => rfl
  | cons e es ih =>
    simp only [plainEs, Bool.and_eq_true] at h
    rw [star_cons env h.1]
    have := ih h.2
    unfold backTo at this ⊢
    simpa using this
/-- no comprehension, no set, no call without arguments -/
def calmE : Expr → Bool
  | .ListComp .. => false
  | .SetComp .. => false
  | .DictComp .. => false
  | _ => true
theorem swaps_no {e : Expr} (t : Option Expr) (l : Nat) (env : Env) (h : calmE e = true) : swapsWith e t l env = pure false := by
  cases e <;> first | rfl | cases h
def baseE : Expr → Bool
  | .Call (.Name _ _) [] [] _ => false
  | _ => true
theorem base_ok {o : Expr} (name : Str) (env : Env) (h : baseE o = true) : attributeBase o name env (eval o env) = eval o env := by
  unfold attributeBase
  split
  · cases h
  · rfl
def noSet : Expr → Bool
  | .Set .. => false
  | _ => true
theorem folded_ok {e : Expr} (env : Env) (h : noSet e = true) (x : Value) : foldedSetIterable e env x = pure x := by
  cases e <;> first | rfl | cases h
def ixE : Expr → Bool
  | .Slice .. => false
  | _ => true
theorem ix_ok {e : Expr} (h : ixE e = true) : PlainIx e := by
  intro o i
  cases e <;> first | rfl | cases h
/-- one of these is true as its value is -/
def truE : Expr → Bool
  | .Name .. => true
  | .Call .. => true
  | .Subscript .. => true
  | .Attribute .. => true
  | _ => false
/-- a target that is no star and no tuple, a tuple -/
theorem assign_cons {e : Expr} {es : List Expr} (env : Env) (h : plainE e = true) : (assignEach (e :: es) env).map (·.2) = assign e env :: (assignEach es env).map (·.2) := by
  cases e <;> first | rfl | cases h
theorem assign_len {es : List Expr} (env : Env) (h : plainEs es = true) : (assignEach es env).length = es.length ∧ (assignEach es env).findIdx? (·.1) = none := by
  induction es with
  | nil => exact ⟨rfl, rfl⟩
  | cons e es ih =>
    simp only [plainEs, Bool.and_eq_true] at h
    obtain ⟨i1, i2⟩ := ih h.2
    have : ∃ g, assignEach (e :: es) env = (false, g) :: assignEach es env := by
      cases e <;> first | exact ⟨_, rfl⟩ | cases h.1
    obtain ⟨g, hg⟩ := this
    rw [hg]
    refine ⟨by simp [i1], ?_⟩
    rw [List.findIdx?_cons]
    simp [i2]
def isTupE : Expr → Bool
  | .Tuple .. => true
  | _ => false
theorem tupE_of {e : Expr} (h : isTupE e = true) : ∃ es k p, e = .Tuple es k p := by
  cases e <;> first | exact ⟨_, _, _, rfl⟩ | cases h
theorem isRev_of {e : Expr} (h : isRev e = true) : ∃ k p1 p2 p3, e = .Slice none none (some (.UnaryOp .USub (.Constant (.int 1) k p1) p2)) p3 := by
  unfold isRev at h
  split at h
  · simp only [decide_eq_true_eq] at h
    subst h
    exact ⟨_, _, _, _, rfl⟩
  · cases h
def isLstE : Expr → Bool
  | .List .. => true
  | _ => false
def isNameE : Expr → Bool
  | .Name .. => true
  | _ => false
theorem stores_none {t e : Expr} (env : Env) (h : (isTupE t || isLstE t) = false ∨ isTupE e = false) : swappedStores [t] e env = pure none := by
  rcases h with h | h
  · cases t <;> first | rfl | simp [isTupE, isLstE] at h
  · cases t <;> cases e <;> first | rfl | simp [isTupE] at h
theorem stores_none2 {ts vs : List Expr} {k1 k2 : Nat} {p1 p2 : Pos} (env : Env) (q : Expr → Bool) (hq : ∀ x p, q (.Name x p) = false → env.kindOf x ≠ some .local) (h : (!(ts.length == 2 || ts.length == 3) || vs.length != ts.length || ts.any (fun t => !q t)) = true) (hv : plainEs vs = true) :
    swappedStores [.Tuple ts k1 p1] (.Tuple vs k2 p2) env = pure none := by
  unfold swappedStores
  simp only [pure_bind]
  split
  · rfl
  · rename_i h1
    split
    · rfl
    · rename_i h2
      have hx : ∃ t ∈ ts, q t = false := by
        simp only [Bool.or_eq_true] at h
        rcases h with (h | h) | h
        · simp [h] at h1
        · simp [h] at h1
        · simpa using h
      rw [if_pos]
      simp only [Bool.or_eq_true]
      left
      rw [bne_iff_ne]
      apply Nat.ne_of_lt
      rw [List.length_filterMap_lt_length_iff_exists]
      obtain ⟨t, h3, h4⟩ := hx
      refine ⟨t, h3, ?_⟩
      cases t <;> first | rfl | (rename_i x p; have := hq x p h4; simp [this])
theorem stores_some {x y : Str} {a b : Expr} {px py p1 p2 : Pos} {k1 k2 : Nat} (env : Env) (hk : env.blockKind = .function) (hx : env.kindOf x = some .local) (hy : env.kindOf y = some .local) (hl : py.line = px.line) (hxy : x ≠ y)
    (ha : plainE a = true) (hb : plainE b = true) (hf : (foldedForSure 8 a && foldedForSure 8 b) = false) (hc : (constantsAlone 8 a && constantsAlone 8 b) = false) :
    swappedStores [.Tuple [.Name x px, .Name y py] k1 p1] (.Tuple [a, b] k2 p2) env = pure (some [x, y]) := by
  unfold swappedStores
  simp only []
  split
  · rename_i h; simp [hk] at h
  · split
    · rename_i h
      exfalso
      have g : ∀ e : Expr, plainE e = true → ∀ v q, e ≠ .Starred v q := fun e h v q z => by subst z; cases h
      simp only [List.any_cons, List.any_nil, Bool.or_eq_true] at h
      rcases h with h | h | h
      · split at h
        · exact g _ ha _ _ rfl
        · cases h
      · split at h
        · exact g _ hb _ _ rfl
        · cases h
      · cases h
    · have e : ([x, y] : List Str).eraseDups = [x, y] := by
        have : (y == x) = false := by simpa using fun e => hxy e.symm
        simp [List.eraseDups, List.eraseDupsBy, List.eraseDupsBy.loop, this]
      simp only [List.filterMap_cons, List.filterMap_nil, List.head?_cons, Option.map_some, Option.getD_some, Expr.pos, hx, hy, hl, beq_self_eq_true, Bool.and_self, if_true, e, List.length_cons, List.length_nil, bne_self_eq_false, Bool.or_self, Bool.false_eq_true, if_false, List.all_cons, List.all_nil, Bool.and_true, hf, hc]
theorem stores_some3 {x y z : Str} {a b c : Expr} {px py pz p1 p2 : Pos} {k1 k2 : Nat} (env : Env) (hk : env.blockKind = .function) (hx : env.kindOf x = some .local) (hy : env.kindOf y = some .local) (hz : env.kindOf z = some .local) (hl : py.line = px.line) (hl2 : pz.line = px.line) (hxy : x ≠ y) (hxz : x ≠ z) (hyz : y ≠ z)
    (ha : plainE a = true) (hb : plainE b = true) (hc0 : plainE c = true) (hf : (foldedForSure 8 a && (foldedForSure 8 b && foldedForSure 8 c)) = false) (hc : (constantsAlone 8 a && (constantsAlone 8 b && constantsAlone 8 c)) = false) :
    swappedStores [.Tuple [.Name x px, .Name y py, .Name z pz] k1 p1] (.Tuple [a, b, c] k2 p2) env = pure (some [x, y, z]) := by
  unfold swappedStores
  simp only []
  split
  · rename_i h; simp [hk] at h
  · split
    · rename_i h
      exfalso
      have g : ∀ e : Expr, plainE e = true → ∀ v q, e ≠ .Starred v q := fun e h v q z => by subst z; cases h
      simp only [List.any_cons, List.any_nil, Bool.or_eq_true] at h
      rcases h with h | h | h | h
      · split at h
        · exact g _ ha _ _ rfl
        · cases h
      · split at h
        · exact g _ hb _ _ rfl
        · cases h
      · split at h
        · exact g _ hc0 _ _ rfl
        · cases h
      · cases h
    · have e : ([x, y, z] : List Str).eraseDups = [x, y, z] := by
        have h1 : (y == x) = false := by simpa using fun e => hxy e.symm
        have h2 : (z == x) = false := by simpa using fun e => hxz e.symm
        have h3 : (z == y) = false := by simpa using fun e => hyz e.symm
        simp [List.eraseDups, List.eraseDupsBy, List.eraseDupsBy.loop, h1, h2, h3]
      simp only [List.filterMap_cons, List.filterMap_nil, List.head?_cons, Option.map_some, Option.getD_some, Expr.pos, hx, hy, hz, hl, hl2, beq_self_eq_true, Bool.and_self, if_true, e, List.length_cons, List.length_nil, bne_self_eq_false, Bool.or_self, Bool.false_eq_true, if_false, List.all_cons, List.all_nil, Bool.and_true, hf, hc]

theorem swaps_sole {t e : Expr} (l : Nat) (env : Env) (h : calmE e = true) : swapsWithSole [t] e l env = pure false := by
  show swapsWith e (some t) l env = pure false
  exact swaps_no _ _ _ h
end DL

namespace DL
open PySem PySem.Spec PyProof.Rows L2

/-- what a name of the module is -/
inductive G where
  | fn (F : DFun) (np : Nat)
  | cst (d : D)
  | exc
  | blt
structure Ctx where
  N : List Str
  names : List (Str × NameKind)
  blk : Bool
  glob : List (Str × G)
  muts : List (Str × Nat)
  ret : Nat
  vs : List Nat
  cells : List Str := []
def Ctx.kind (c : Ctx) (x : Str) : Option NameKind := c.names.lookup x
def Ctx.isGl (c : Ctx) (x : Str) : Bool := match c.kind x with
  | some .globalImplicit => true
  | _ => false
def noDun (x : Str) : Bool := !(x == ("__debug__" : Str)) && !(x == ("__classdict__" : Str)) && !decide (x = ("__name__" : Str))
def Ctx.g (c : Ctx) (x : Str) : Option G := if c.isGl x && noDun x then c.glob.lookup x else none
def ixOf (N : List Str) (x : Str) : Option Nat := N.findIdx? fun y => decide (y = x)
/-- the slot of a name that is seen -/
def Ctx.slot (c : Ctx) (x : Str) : Option Nat := match c.kind x with
  | some .local => if noDun x then ixOf c.N x else none
  | some .cell => if noDun x then ixOf c.N x else none
  | some .free => if noDun x then ixOf c.N x else none
  | _ => none
/-- the slot of a name that may be stored -/
def Ctx.put (c : Ctx) (x : Str) : Option Nat := match c.kind x with
  | some .local => ixOf c.N x
  | some .cell => if c.blk && !c.cells.contains x then none else ixOf c.N x
  | _ => none
def tyNameOf (x : Str) : Option String :=
  if x = ("int" : Str) then some "int" else if x = ("bool" : Str) then some "bool" else if x = ("str" : Str) then some "str"
  else if x = ("tuple" : Str) then some "tuple" else if x = ("list" : Str) then some "list" else none
def constD : Const → Option D
  | .int i => some (.int i)
  | .bool b => some (.bl b)
  | .none => some .non
  | .str x => some (.str x.cps.toList)
  | _ => none
def bltOf (x : Str) (m : Bool) : Option PL :=
  if x = ("len" : Str) then some pLen else if x = ("isinstance" : Str) then some pIsi else if x = ("all" : Str) then some pAll
  else if x = ("any" : Str) then some pAny else if x = ("sum" : Str) then some pSum else if x = ("max" : Str) then some pMax else if x = ("min" : Str) then some pMinA
  else if x = ("abs" : Str) then some pAbs else if x = ("sorted" : Str) then some (pSortedA m)
  else if x = ("list" : Str) then some (pListA m) else if x = ("tuple" : Str) then some pTuple else if x = ("int" : Str) then some pInt else if x = ("repr" : Str) then some pRepr else if x = ("dict" : Str) then some pDict else none
/-- a method: its test, its effect -/
def mthOf (x : Str) (n : Nat) : Option ((D → Hep → Bool) × OpM) :=
  if n = 1 then
    (if x = ("append" : Str) then some (isLst, mApp) else if x = ("extend" : Str) then some (isLst, mExt) else if x = ("pop" : Str) then some (isLst, mPopAt) else if x = ("join" : Str) then some (isStr, mJoin) else if x = ("index" : Str) then some (isLst, mIxL) else if x = ("count" : Str) then some (isLst, mCnt) else none)
  else if n = 2 then (if x = ("get" : Str) then some (isDct, mGet2) else none)
  else if n = 0 then (if x = ("pop" : Str) then some (isLst, mPop) else none) else none
def binOf (op : Operator) (m : Bool) : Option Op2 := match op with
  | .Add => some (opAdd m)
  | .Sub => some opSub
  | .Mult => some (opMul m)
  | .Mod => some opMod
  | .FloorDiv => some opFdiv
  | .Pow => some opPow
  | _ => none
def cmpOf (op : CmpOp) : Option Op2 := match op with
  | .Eq => some opEq
  | .NotEq => some opNe
  | .Lt => some opLt
  | .LtE => some opLe
  | .Gt => some opGt
  | .GtE => some opGe
  | .Is => some opIsA
  | .IsNot => some opNotA
  | .In => some opIn
  | .NotIn => some opNotIn
def ordOf (op : CmpOp) : Option Ord := match op with
  | .Lt => some .lt
  | .LtE => some .le
  | .Gt => some .gt
  | .GtE => some .ge
  | _ => none
/-- list(range(..)) -/
def rgD (a b : Int) : List D := (List.range (b - a).toNat).map fun i => .int (a + (i : Nat))
def rgOkB (a b : Int) : Bool := decide (-2 ^ 62 ≤ a) && decide (a < 2 ^ 62) && decide (-2 ^ 62 ≤ b) && decide (b < 2 ^ 62) && decide ((b - a).toNat ≤ 2 ^ 24)
def lstRg (m : Bool) : OpL := fun ds M => match ds with
  | [.int n] => if rgOkB 0 n then mkLst m (rgD 0 n) M else .stuck
  | [.int a, .int b] => if rgOkB a b then mkLst m (rgD a b) M else .stuck
  | _ => .stuck
/-- tuple(range(..)) -/
def tupRg : OpL := fun ds M => match ds with
  | [.int n] => if rgOkB 0 n then .ok (.tup (rgD 0 n)) M else .stuck
  | _ => .stuck
/-- range(..) that is walked -/
def inRg (i : Int) : Bool := decide (-(2 ^ 62) ≤ i) && decide (i < 2 ^ 62)
def rngOf : List D → Option Itm
  | [.int j] => if inRg j then some ⟨intsFrom 0 j.toNat, none⟩ else none
  | [.int i, .int j] => if inRg i && inRg j then some ⟨intsFrom i (j - i).toNat, none⟩ else none
  | _ => none
def iRng (r : SemL) : SemI := fun n σ M => (r n σ M).bind fun ds M1 => .of (rngOf ds) M1
def relNames (scope : Scope) (c : Ctx) : List (Str × NameKind) := scope.names.map fun (n, k) => if (k == .free && c.kind n == some .cell) then (n, .cell) else (n, k)
/-- a block's own names, with their slots -/
def ownOf (c : Ctx) (scope : Scope) : List (Str × Nat) := scope.names.filterMap fun (n, k) => match k with
  | .local => (ixOf c.N n).map fun i => (n, i)
  | .cell => (ixOf c.N n).map fun i => (n, i)
  | _ => none
def Ctx.inner (c : Ctx) (scope : Scope) : Ctx := { c with names := relNames scope c, blk := true, muts := [], vs := (ownOf c scope).map (·.2), cells := scope.names.filterMap fun (n, k) => match k with | .cell => some n | _ => none }
def blkC' (c : Ctx) (scope : Scope) : Bool := blkC c.N { kind := .function, names := c.names, isGenerator := false, isCoroutine := false } scope (ownOf c scope)
mutual
/-- a target: a name or a tuple of such, within the slots that may change -/
def cG (c : Ctx) : Nat → Expr → Option SemG
  | 0, _ => none
  | n + 1, e => match e with
    | .Name x _ => match c.put x with
      | some i => if c.vs.contains i then some (gVar i) else none
      | none => none
    | .Tuple es _ _ => if plainEs es then (cGs c n es).map fun g => gLen es.length g else none
    | _ => none
def cGs (c : Ctx) : Nat → List Expr → Option SemGs
  | 0, _ => none
  | n + 1, es => match es with
    | [] => some gNil
    | e :: es => if plainE e then match cG c n e, cGs c n es with
      | some g, some r => some (gCons g r)
      | _, _ => none else none
end
def pm (md : Nat) : Bool := decide (0 < md)
mutual
/-- an expression: md: how deep its lists may change -/
def cE : Nat → Ctx → Nat → Expr → Option SemE
  | 0, _, _, _ => none
  | n + 1, c, md, e => match e with
    | .Name x _ => match c.slot x with
      | some i => some (eVar i)
      | none => match c.g x with
        | some (.cst d) => some (eC d)
        | some .blt => (tyNameOf x).map fun t => eC (.ty t)
        | _ => none
    | .Constant k _ _ => (constD k).map eC
    | .Tuple es _ _ => (cL n c (md - 1) es).map (eApp mkTup)
    | .List es _ => (cL n c (md - 1) es).map (eApp (mkLst (pm md)))
    | .BinOp a op b _ => match binOf op (pm md), cE n c 0 a, cE n c 0 b with
      | some o, some fa, some fb => some (eBin o fa fb)
      | _, _, _ => none
    | .UnaryOp .Not a _ => (cE n c 0 a).map eNot
    | .UnaryOp .USub a _ => (cE n c 0 a).map (eUn opNeg)
    | .BoolOp op es _ => cBool n c op es
    | .Compare a [op] [b] _ => if behindInMarks op b then none else match cmpOf op, cE n c 0 a, cE n c 0 b with
      | some o, some fa, some fb => some (eBin o fa fb)
      | _, _, _ => none
    | .Compare a [op, op'] [b, b'] _ => if lastMarks [op, op'] [b, b'] then none else match ordOf op, ordOf op', cE n c 0 a, cE n c 0 b, cE n c 0 b' with
      | some o, some o', some fa, some fb, some fc => some (eChain o o' fa fb fc)
      | _, _, _, _, _ => none
    | .Compare a [op, op', op''] [b, b', b''] _ => if lastMarks [op, op', op''] [b, b', b''] then none else match ordOf op, ordOf op', ordOf op'', cE n c 0 a, cE n c 0 b, cE n c 0 b', cE n c 0 b'' with
      | some o, some o', some o'', some fa, some fb, some fc, some fd => some (eChain3 o o' o'' fa fb fc fd)
      | _, _, _, _, _, _, _ => none
    | .IfExp t a b _ => match cT n c t, cE n c md a, cE n c md b with
      | some ft, some fa, some fb => some (eIf ft fa fb)
      | _, _, _ => none
    | .Subscript a (.Slice lo hi none _) _ => match cE n c 0 a, cO n c lo, cO n c hi with
      | some fa, some fl, some fh => some (eSl (opSl (pm md)) fa fl fh)
      | _, _, _ => none
    | .Subscript a b _ => if isRev b then (cE n c 0 a).map (eUn (opRev (pm md))) else if ixE b then match cE n c 0 a, cE n c 0 b with
      | some fa, some fb => some (eBin opIx fa fb)
      | _, _ => none else none
    | .Call (.Name f _) args [] _ => if plainEs args then match c.g f with
      | some (.fn F np) => (cL n c 0 args).map (eApp F)
      | some .blt => match args with
        | [.Call (.Name r _) as [] _] => if f = ("list" : Str) ∧ r = ("range" : Str) then (match c.g r with
            | some .blt => if plainEs as then (match as with
                | [a] => (cE n c 0 a).map fun fa => eApp (lstRg (pm md)) (lCons fa lNil)
                | [a, b] => match cE n c 0 a, cE n c 0 b with
                  | some fa, some fb => some (eApp (lstRg (pm md)) (lCons fa (lCons fb lNil)))
                  | _, _ => none
                | _ => none) else none
            | _ => none) else if f = ("tuple" : Str) ∧ r = ("range" : Str) then (match c.g r with
            | some .blt => if plainEs as then (match as with
                | [a] => (cE n c 0 a).map fun fa => eApp tupRg (lCons fa lNil)
                | _ => none) else none
            | _ => none) else match bltOf f (pm md) with
              | some o => (cL n c 0 args).map (eApp o.op)
              | none => none
        | _ :: _ => match bltOf f (pm md) with
          | some o => (cL n c 0 args).map (eApp o.op)
          | none => none
        | [] => none
      | _ => none else none
    | .Call (.Attribute o m p) args [] q => if plainEs args && baseE o && (p.endLine == q.line) && decide (args.length < 30) then match mthOf m args.length, cE n c 0 o, cL n c 0 args with
      | some (ok, op), some fo, some fr => some (eMt ok op fo fr)
      | _, _, _ => none else none
    | .ListComp elt [⟨tg, iter, ifs, 0⟩] scope _ => if noSet iter && blkC' c scope then
        match cI n c (isTupE tg) iter, cG (c.inner scope) n tg, cIfs n (c.inner scope) ifs, cE n (c.inner scope) (md - 1) elt with
        | some fi, some g, some tt, some te => some (eLc (pm md) (decide (2 ≤ md)) (c.inner scope).vs fi g tt te)
        | _, _, _, _ => none else none
    | .Dict keys values _ => if keys.all (·.isSome) && decide (keys.length = values.length) && decide (keys ≠ []) && decide (keys.length ≤ 15) then (cP n c keys values).map fun fs => eDct (semP fs)
      else if keys.isEmpty && values.isEmpty then some (eDct pNil) else none
    | _ => none
def cP : Nat → Ctx → List (Option Expr) → List Expr → Option (List (SemE × SemE))
  | 0, _, _, _ => none
  | n + 1, c, ks, vs => match ks, vs with
    | [], [] => some []
    | some k :: ks, v :: vs => match cE n c 0 k, cE n c 0 v, cP n c ks vs with
      | some a, some b, some r => some ((a, b) :: r)
      | _, _, _ => none
    | _, _ => none
def cL : Nat → Ctx → Nat → List Expr → Option SemL
  | 0, _, _, _ => none
  | n + 1, c, md, es => match es with
    | [] => some lNil
    | e :: es => if plainE e then match cE n c md e, cL n c md es with
      | some f, some r => some (lCons f r)
      | _, _ => none else none
def cO : Nat → Ctx → Option Expr → Option SemO
  | 0, _, _ => none
  | n + 1, c, o => match o with
    | none => some oNone
    | some e => (cE n c 0 e).map oSome
def cBool : Nat → Ctx → PySem.BoolOp → List Expr → Option SemE
  | 0, _, _, _ => none
  | n + 1, c, op, es => match es with
    | [] => none
    | [e] => cE n c 0 e
    | e :: e' :: es => match op, cE n c 0 e, cBool n c op (e' :: es) with
      | .And, some f, some r => some (eAnd f r)
      | .Or, some f, some r => some (eOr f r)
      | _, _, _ => none
/-- a test -/
def cT : Nat → Ctx → Expr → Option SemT
  | 0, _, _ => none
  | n + 1, c, e => match e with
    | .BoolOp op es _ => cTB n c op es
    | .UnaryOp .Not a _ => (cT n c a).map tNot
    | .Compare a [op] [b] _ => if behindInMarks op b then none else match cmpOf op, cE n c 0 a, cE n c 0 b with
      | some o, some fa, some fb => some (tOf (eBin o fa fb))
      | _, _, _ => none
    | .Compare a [op, op'] [b, b'] _ => if lastMarks [op, op'] [b, b'] then none else match ordOf op, ordOf op', cE n c 0 a, cE n c 0 b, cE n c 0 b' with
      | some o, some o', some fa, some fb, some fc => some (tOf (eChain o o' fa fb fc))
      | _, _, _, _, _ => none
    | .Name x p => (cE n c 0 (.Name x p)).map tTr
    | e => if truE e then (cE n c 0 e).map tOf else none
def cTB : Nat → Ctx → PySem.BoolOp → List Expr → Option SemT
  | 0, _, _, _ => none
  | n + 1, c, op, es => match es with
    | [] => none
    | [e] => cT n c e
    | e :: e' :: es => match op, cT n c e, cTB n c op (e' :: es) with
      | .And, some f, some r => some (tAnd f r)
      | .Or, some f, some r => some (tOr f r)
      | _, _, _ => none
def cIfs : Nat → Ctx → List Expr → Option SemT
  | 0, _, _ => none
  | n + 1, c, es => match es with
    | [] => some fun _ _ M => .ok true M
    | [e] => cT n c e
    | _ => none
/-- what a for walks -/
def cI : Nat → Ctx → Bool → Expr → Option SemI
  | 0, _, _, _ => none
  | n + 1, c, tp, e => match e with
    | .Call (.Name f p) args [] pos => if f = ("range" : Str) then (match c.g f with
        | some .blt => if plainEs args && (args.length == 1 || args.length == 2) then (cL n c 0 args).map iRng else none
        | _ => none)
      else if f = ("enumerate" : Str) then (match c.g f with
        | some .blt => if tp && plainEs args && args.length == 1 then (cL n c 0 args).map iEnu else none
        | _ => none)
      else if f = ("zip" : Str) then (match c.g f with
        | some .blt => if tp && plainEs args && args.length == 2 then (cL n c 0 args).map iZp else none
        | _ => none)
      else (cE n c 0 e).map iSeq
    | e => (cE n c 0 e).map iSeq
end
end DL

namespace DL
open PySem PySem.Spec PyProof.Rows L2

structure Wo where
  P : Program
  w : World
  K : PySem.W.Frag
  mg : Str → Option Value
  base : Heap
  C : Str → Addr
/-- what is known of a name of the module -/
def GFact (O : Wo) (k : Nat) (x : Str) : G → Prop
  | .fn F np => ∃ f fd ps, O.mg x = some (.ref f) ∧ PySem.W.keepIn O.K (.ref f) = true ∧ ps.length = np ∧ FnG O.P O.w O.K O.mg O.base k f fd ps (spD O.K O.C np F) ∧ Binds O.K fd ps [] ∧ ∀ ds M, ds.length ≠ np → F ds M = .stuck
  | .cst d => ∃ v u, O.mg x = some u ∧ RelV v u ∧ ∀ ι H, VR O.K ι H d v
  | .exc => O.mg x = some (.ref (O.C x)) ∧ PySem.W.excIn O.K (O.C x) [.type "ValueError", .type "Exception", .type "BaseException", .type "object"] "ValueError.__new__" = true ∧ PySem.W.keepIn O.K (.ref (O.C x)) = true ∧ PySem.W.subIn O.K (.ref (O.C x)) (.type "BaseException") = some true ∧ PySem.W.typeIn O.K (.ref (O.C x)) = some (.type "type")
  | .blt => O.mg x = none
structure Good (O : Wo) (k : Nat) (c : Ctx) (E : XK) (X : Cx) : Prop where
  prog : X.prog = O.P
  w : X.w = O.w
  K : X.K = O.K
  mg : X.mg = O.mg
  base : X.base = O.base
  N : X.N = c.N
  nd : c.N.Nodup
  kind : X.env.scope.kind = .function
  names : X.env.scope.names = c.names
  fn : c.blk = false → ∀ x, X.fn x = true
  calm : X.calm = true
  room : Room k X.A
  own : PassesOwn (model X.prog X.w) X.A X.env X.xe
  pass : Passes (L2.CX X.prog X.w) X E
  glob : ∀ x g, c.glob.lookup x = some g → GFact O k x g
  grd : X.A.guards = some []
  cel : ∀ x ∈ c.cells, X.fn x = true
  takes : c.blk = false → L2.Takes X (fun cls d _ H => E cls d H)
section
variable {O : Wo} {k : Nat} {c : Ctx} {E : XK} {X : Cx}
theorem Good.kindOf (h : Good O k c E X) (x : Str) : X.env.kindOf x = c.kind x := by
  unfold Env.kindOf Ctx.kind
  rw [h.names]
theorem noDun_of {x : Str} (h : noDun x = true) : (x == ("__debug__" : Str)) = false ∧ (x == ("__classdict__" : Str)) = false ∧ x ≠ "__name__" := by
  unfold noDun at h
  simp only [Bool.and_eq_true, Bool.not_eq_true', decide_eq_false_iff_not] at h
  exact ⟨h.1.1, h.1.2, h.2⟩
theorem ixOf_get {N : List Str} {x : Str} {i : Nat} (h : ixOf N x = some i) : N[i]? = some x := by
  unfold ixOf at h
  obtain ⟨hl, h1, _⟩ := List.findIdx?_eq_some_iff_getElem.mp h
  simp only [decide_eq_true_eq] at h1
  rw [List.getElem?_eq_getElem hl, h1]
theorem Good.slot (h : Good O k c E X) {x : Str} {i : Nat} {p : Pos} (e : c.slot x = some i) : PE X (.Name x p) (tVar i) := by
  unfold Ctx.slot at e
  have lk : X.env.scope.names.lookup x = c.kind x := by unfold Ctx.kind; rw [h.names]
  have fin : ∀ {b : Bool}, (if b then ixOf c.N x else none) = some i → b = true ∧ X.N[i]? = some x := fun {b} q => by
    cases b with
    | false => cases q
    | true => exact ⟨rfl, by rw [h.N]; exact ixOf_get q⟩
  split at e
  · rename_i hk
    obtain ⟨h1, h2⟩ := fin e
    obtain ⟨d1, d2, _⟩ := noDun_of h1
    exact pe_var h2 (.inl (by rw [lk]; exact hk)) d1 d2
  · rename_i hk
    obtain ⟨h1, h2⟩ := fin e
    obtain ⟨d1, d2, _⟩ := noDun_of h1
    exact pe_var h2 (.inr (.inl (by rw [lk]; exact hk))) d1 d2
  · rename_i hk
    obtain ⟨h1, h2⟩ := fin e
    obtain ⟨d1, d2, _⟩ := noDun_of h1
    exact pe_var h2 (.inr (.inr (by rw [lk]; exact hk))) d1 d2
  · cases e
theorem Good.gl (h : Good O k c E X) {x : Str} {g : G} (e : c.g x = some g) : Gl X x ∧ (x == ("__debug__" : Str)) = false ∧ x ≠ "__name__" ∧ GFact O k x g := by
  unfold Ctx.g at e
  split at e
  · rename_i hc
    simp only [Bool.and_eq_true] at hc
    obtain ⟨d1, _, d3⟩ := noDun_of hc.2
    refine ⟨?_, d1, d3, h.glob x g e⟩
    show X.env.kindOf x = some .globalImplicit
    rw [h.kindOf]
    have := hc.1
    unfold Ctx.isGl at this
    split at this
    · assumption
    · cases this
  · cases e
theorem Good.put (h : Good O k c E X) {x : Str} {i : Nat} {p : Pos} (e : c.put x = some i) : PG X (.Name x p) (gName i) := by
  unfold Ctx.put at e
  have lk : X.env.scope.names.lookup x = c.kind x := by unfold Ctx.kind; rw [h.names]
  have hN : X.N.Nodup := by rw [h.N]; exact h.nd
  split at e
  · rename_i hk
    exact pg_name hN (by rw [h.N]; exact ixOf_get e) (.inl (by rw [lk]; exact hk)) (.inr (by rw [lk]; exact hk))
  · rename_i hk
    split at e
    · cases e
    · rename_i hb
      have hf : X.fn x = true := by
        by_cases q : c.blk = false
        · exact h.fn q x
        · refine h.cel x ?_
          simp only [Bool.and_eq_true, Bool.not_eq_true', not_and, Bool.not_eq_false] at hb
          have := hb (by simpa using q)
          simpa using this
      exact pg_name hN (by rw [h.N]; exact ixOf_get e) (.inr (by rw [lk]; exact hk)) (.inl hf)
  · cases e
theorem Good.blt (h : Good O k c E X) {x : Str} (e : c.g x = some .blt) : Gl X x ∧ X.mg x = none ∧ (x == ("__debug__" : Str)) = false ∧ x ≠ "__name__" := by
  obtain ⟨h1, h2, h3, h4⟩ := h.gl e
  exact ⟨h1, by rw [h.mg]; exact h4, h2, h3⟩
abbrev TE' (O : Wo) (E : XK) (f : SemE) : TE := T O.K (EKof O.C E) f
theorem str_id (x : Str) : V.str ⟨x.cps.toList.toArray⟩ = V.str x := by cases x; simp
theorem const_ok {co : Const} {d : D} {j : Nat} {p : Pos} (e : constD co = some d) : PE X (.Constant co j p) (TE' O E (eC d)) := by
  unfold constD at e
  split at e
  · cases e; exact T_C pe_int fun _ _ => vr_int
  · cases e; exact T_C pe_bl fun _ _ => vr_bl
  · cases e; exact T_C pe_non fun _ _ => vr_non
  · cases e
    refine T_C pe_str fun ι H => ?_
    simp only [VR]
  · cases e
theorem Good.name (h : Good O k c E X) {x : Str} {p : Pos} {t : String} (e : c.g x = some .blt) (ht : tyNameOf x = some t) : PE X (.Name x p) (TE' O E (eC (.ty t))) := by
  obtain ⟨h1, h2, h3, h4⟩ := h.blt e
  have r : ∀ ι H, VR O.K ι H (.ty t) (.ty t) := fun ι H => by simp only [VR]
  unfold tyNameOf at ht
  by_cases q : x = ("int" : Str)
  · rw [if_pos q] at ht; cases ht; subst q; exact T_C (pe_bltn (v := .ty "int") h1 h2 (by decide +kernel) rfl h4 h3) r
  rw [if_neg q] at ht
  by_cases q : x = ("bool" : Str)
  · rw [if_pos q] at ht; cases ht; subst q; exact T_C (pe_bltn (v := .ty "bool") h1 h2 (by decide +kernel) rfl h4 h3) r
  rw [if_neg q] at ht
  by_cases q : x = ("str" : Str)
  · rw [if_pos q] at ht; cases ht; subst q; exact T_C (pe_bltn (v := .ty "str") h1 h2 (by decide +kernel) rfl h4 h3) r
  rw [if_neg q] at ht
  by_cases q : x = ("tuple" : Str)
  · rw [if_pos q] at ht; cases ht; subst q; exact T_C (pe_bltn (v := .ty "tuple") h1 h2 (by decide +kernel) rfl h4 h3) r
  rw [if_neg q] at ht
  by_cases q : x = ("list" : Str)
  · rw [if_pos q] at ht; cases ht; subst q; exact T_C (pe_bltn (v := .ty "list") h1 h2 (by decide +kernel) rfl h4 h3) r
  rw [if_neg q] at ht
  cases ht
theorem bin_ok {op : Operator} {m : Bool} {o : Op2} {a b : Expr} {fa fb : SemE} {p : Pos} (h : Good O k c E X) (e : binOf op m = some o) (ha : PE X a (TE' O E fa)) (hb : PE X b (TE' O E fb)) : PE X (.BinOp a op b p) (TE' O E (eBin o fa fb)) := by
  cases op <;> (first | (cases e; done) | skip)
  · cases e; exact b_add h.K m ha hb
  · cases e; exact b_sub ha hb
  · cases e; exact b_mul h.K m ha hb
  · cases e; exact b_mod ha hb
  · cases e; exact b_pow ha hb
  · cases e; exact b_fdiv ha hb
theorem cmp_ok {op : CmpOp} {o : Op2} {a b : Expr} {fa fb : SemE} {p : Pos} (h : Good O k c E X) (e : cmpOf op = some o) (hm : behindInMarks op b = false) (ha : PE X a (TE' O E fa)) (hb : PE X b (TE' O E fb)) : PE X (.Compare a [op] [b] p) (TE' O E (eBin o fa fb)) := by
  cases op <;> (first | (cases e; done) | skip)
  · cases e; exact b_eq h.K h.room ha hb hm
  · cases e; exact b_ne h.K h.room ha hb hm
  · cases e; exact b_lt h.K h.room ha hb hm
  · cases e; exact b_le ha hb hm
  · cases e; exact b_gt ha hb hm
  · cases e; exact b_ge ha hb hm
  · cases e; exact b_isA ha hb hm
  · cases e; exact b_notA ha hb hm
  · cases e; exact b_in h.K h.room ha hb hm
  · cases e; exact b_notIn h.K h.room ha hb hm
theorem ord_cmp {op : CmpOp} {o : Ord} (e : ordOf op = some o) : op = o.cmp := by
  cases op <;> first | (cases e; rfl) | cases e
/-- what is to be shown of a built-in -/
def BltOk (O : Wo) (E : XK) (X : Cx) (x : Str) (op : OpL) : Prop := ∃ r, OpLS O.K (EKof O.C E) r op ∧ ((∃ id, CallR X (.builtin id) r ∧ bootBuiltins x = some (.builtin id)) ∨ ∃ t, CallR X (.type t) r ∧ bootBuiltins x = some (.type t))
theorem blt_app {e : Expr} {es : List Expr} {f : SemL} {p pos : Pos} {x : Str} {op : OpL} (h : Good O k c E X) (hg : c.g x = some .blt) (hb : BltOk O E X x op) (hp : plainEs (e :: es) = true) (ha : PA X (e :: es) (Tl O.K (EKof O.C E) f)) :
    PE X (.Call (.Name x p) (e :: es) [] pos) (TE' O E (eApp op f)) := by
  obtain ⟨h1, h2, h3, h4⟩ := h.blt hg
  have hpe : plainE e = true ∧ plainEs es = true := by simpa only [plainEs, Bool.and_eq_true] using hp
  have s1 := star_cons (es := es) X.env hpe.1
  have s2 := star_any X.env pos hpe.2
  obtain ⟨r, ho, ⟨id, hr, hb⟩ | ⟨t, hr, hb⟩⟩ := hb
  · exact T_app (pe_callB hr h1 h2 hb ha h4 h3 s1 s2) ho
  · exact T_app (pe_callTy hr h1 h2 hb ha h4 h3 s1 s2) ho
theorem blt_len (hK : X.K = O.K) : BltOk O E X "len" pLen.op := ⟨rLenV O.K, len_ok.op, .inl ⟨"len", by rw [← hK]; exact call_len, PySem.boot_len⟩⟩
theorem blt_isi (hK : X.K = O.K) : BltOk O E X "isinstance" pIsi.op := ⟨rIsi O.K, isi_ok.op, .inl ⟨"isinstance", by rw [← hK]; exact call_isi, by decide +kernel⟩⟩
theorem blt_all (hK : X.K = O.K) (hc : X.calm = true) : BltOk O E X "all" pAll.op := ⟨rAll O.K, all_ok.op, .inl ⟨"all", by rw [← hK]; exact cr_all hc, by decide +kernel⟩⟩
theorem blt_any (hK : X.K = O.K) (hc : X.calm = true) : BltOk O E X "any" pAny.op := ⟨rAny O.K, any_ok.op, .inl ⟨"any", by rw [← hK]; exact cr_any hc, by decide +kernel⟩⟩
theorem blt_sum (hK : X.K = O.K) (hc : X.calm = true) : BltOk O E X "sum" pSum.op := ⟨rSum O.K, sum_ok.op, .inl ⟨"sum", by rw [← hK]; exact cr_sum hc, by decide +kernel⟩⟩
theorem blt_max (hc : X.calm = true) : BltOk O E X "max" pMax.op := ⟨_, max_ok.op, .inl ⟨"max", call_max2 hc, by decide +kernel⟩⟩
theorem blt_min (hK : X.K = O.K) (hc : X.calm = true) : BltOk O E X "min" pMinA.op := ⟨_, (min_ok.or minL_ok).op, .inl ⟨"min", by rw [← hK]; exact callR_or (call_min2 hc) (cr_min hc), by decide +kernel⟩⟩
theorem blt_dict (hK : X.K = O.K) (hc : X.calm = true) : BltOk O E X "dict" pDict.op := ⟨rDictP O.K, dict_ok.op, .inr ⟨"dict", by rw [← hK]; exact call_dictP hc, by decide +kernel⟩⟩
theorem blt_abs : BltOk O E X "abs" pAbs.op := ⟨_, abs_ok.op, .inl ⟨"abs", call_abs, by decide +kernel⟩⟩
theorem blt_sorted (hK : X.K = O.K) (m : Bool) : BltOk O E X "sorted" (pSortedA m).op := ⟨rSortedA O.K, (sortedA_ok m).op, .inl ⟨"sorted", by rw [← hK]; exact cr_sortedA, by decide +kernel⟩⟩
theorem blt_repr {k : Nat} (hK : X.K = O.K) (hg : X.A.guards = some []) (hr : Room k X.A) : BltOk O E X "repr" pRepr.op := ⟨rReprD O.K, repr_ok.op, .inl ⟨"repr", by rw [← hK]; exact call_reprD hg hr, by decide +kernel⟩⟩
theorem blt_list (hK : X.K = O.K) (hc : X.calm = true) (m : Bool) : BltOk O E X "list" (pListA m).op := ⟨rListA O.K, (listA_ok m).op, .inr ⟨"list", by rw [← hK]; exact call_listA hc, by decide +kernel⟩⟩
theorem blt_tuple (hK : X.K = O.K) : BltOk O E X "tuple" pTuple.op := ⟨rTupV O.K, tuple_ok.op, .inr ⟨"tuple", by rw [← hK]; exact call_tuple_of, by decide +kernel⟩⟩
theorem blt_int : BltOk O E X "int" pInt.op := ⟨_, int_ok.op, .inr ⟨"int", call_int1, by decide +kernel⟩⟩
theorem bltOf_ok {k : Nat} {x : Str} {m : Bool} {o : PL} (hK : X.K = O.K) (hc : X.calm = true) (hg : X.A.guards = some []) (hr : Room k X.A) (hb : bltOf x m = some o) : BltOk O E X x o.op := by
  unfold bltOf at hb
  by_cases q : x = ("len" : Str)
  · rw [if_pos q] at hb; cases hb; rw [q]; exact blt_len hK
  rw [if_neg q] at hb
  by_cases q : x = ("isinstance" : Str)
  · rw [if_pos q] at hb; cases hb; rw [q]; exact blt_isi hK
  rw [if_neg q] at hb
  by_cases q : x = ("all" : Str)
  · rw [if_pos q] at hb; cases hb; rw [q]; exact blt_all hK hc
  rw [if_neg q] at hb
  by_cases q : x = ("any" : Str)
  · rw [if_pos q] at hb; cases hb; rw [q]; exact blt_any hK hc
  rw [if_neg q] at hb
  by_cases q : x = ("sum" : Str)
  · rw [if_pos q] at hb; cases hb; rw [q]; exact blt_sum hK hc
  rw [if_neg q] at hb
  by_cases q : x = ("max" : Str)
  · rw [if_pos q] at hb; cases hb; rw [q]; exact blt_max hc
  rw [if_neg q] at hb
  by_cases q : x = ("min" : Str)
  · rw [if_pos q] at hb; cases hb; rw [q]; exact blt_min hK hc
  rw [if_neg q] at hb
  by_cases q : x = ("abs" : Str)
  · rw [if_pos q] at hb; cases hb; rw [q]; exact blt_abs
  rw [if_neg q] at hb
  by_cases q : x = ("sorted" : Str)
  · rw [if_pos q] at hb; cases hb; rw [q]; exact blt_sorted hK m
  rw [if_neg q] at hb
  by_cases q : x = ("list" : Str)
  · rw [if_pos q] at hb; cases hb; rw [q]; exact blt_list hK hc m
  rw [if_neg q] at hb
  by_cases q : x = ("tuple" : Str)
  · rw [if_pos q] at hb; cases hb; rw [q]; exact blt_tuple hK
  rw [if_neg q] at hb
  by_cases q : x = ("int" : Str)
  · rw [if_pos q] at hb; cases hb; rw [q]; exact blt_int
  rw [if_neg q] at hb
  by_cases q : x = ("repr" : Str)
  · rw [if_pos q] at hb; cases hb; rw [q]; exact blt_repr hK hg hr
  rw [if_neg q] at hb
  by_cases q : x = ("dict" : Str)
  · rw [if_pos q] at hb; cases hb; rw [q]; exact blt_dict hK hc
  rw [if_neg q] at hb
  cases hb
theorem call0_ok {e : Expr} {np : Nat} {F : DFun} {f : SemL} (he : PE X e (tCall (spD O.K O.C np F) [] E tNil)) (hF : ∀ ds M, ds.length ≠ np → F ds M = .stuck) (hf : f = lNil) : PE X e (TE' O E (eApp F f)) := by
  subst hf
  refine T_call (PE.to he fun σ H Q ⟨n0, ι, M, σd, b, q⟩ => ?_) hF
  exact q ι H (Post.refl b.sh) [] (by simp only [VRs])
theorem fn_call {args : List Expr} {f : SemL} {p pos : Pos} {x : Str} {F : DFun} {np : Nat} (h : Good O k c E X) (hg : c.g x = some (.fn F np)) (hp : plainEs args = true) (ha : PA X args (Tl O.K (EKof O.C E) f)) (h0 : args = [] → f = lNil) : PE X (.Call (.Name x p) args [] pos) (TE' O E (eApp F f)) := by
  obtain ⟨h1, h2, h3, fa, fd, ps, g1, g2, g3, g4, g5, g6⟩ := h.gl hg
  have g4' : FnG X.prog X.w X.K X.mg X.base k fa fd ps (spD O.K O.C np F) := by rw [h.prog, h.w, h.K, h.mg, h.base]; exact g4
  have g1' : X.mg x = some (.ref fa) := by rw [h.mg]; exact g1
  have g2' : PySem.W.keepIn X.K (.ref fa) = true := by rw [h.K]; exact g2
  have g5' : Binds X.K fd ps [] := by rw [h.K]; exact g5
  cases args with
  | nil =>
    exact call0_ok (call0_G g4' h.grd h.room h1 g1' g2' g5' h.pass h2) g6 (h0 rfl)
  | cons e es =>
    have hpe : plainE e = true ∧ plainEs es = true := by simpa only [plainEs, Bool.and_eq_true] using hp
    exact T_call (call_G g4' h.grd h.room h1 g1' g2' g5' h.pass ha h2 (star_cons X.env hpe.1) (star_any X.env pos hpe.2)) g6
end
end DL

namespace DL
open PySem PySem.Spec PyProof.Rows L2
section
variable {O : Wo} {k : Nat} {c : Ctx} {E : XK} {X : Cx}
theorem mth_ok {o : Expr} {args : List Expr} {m : Str} {p q : Pos} {ok : D → Hep → Bool} {op : OpM} {fo : SemE} {fr : SemL} (h : Good O k c E X) (hm : mthOf m args.length = some (ok, op)) (hp : plainEs args = true) (hb : baseE o = true) (hl : (p.endLine == q.line) = true) (hn : args.length < 30)
    (ho : PE X o (TE' O E fo)) (ha : PA X args (Tl O.K (EKof O.C E) fr)) (h0 : args = [] → fr = lNil) : PE X (.Call (.Attribute o m p) args [] q) (TE' O E (eMt ok op fo fr)) := by
  have hK := h.K
  unfold mthOf at hm
  cases args with
  | nil =>
    rw [if_neg (by simp), if_neg (by simp), if_pos (by simp)] at hm
    by_cases e : m = ("pop" : Str)
    · rw [if_pos e] at hm
      cases hm
      subst e
      rw [h0 rfl]
      have z := pe_bm0 PySem.F.plainAttrs_list PySem.F.slot_list_pop PySem.F.type_list_pop (mt_pop (X := X)) ho (base_ok _ _ hb) hl
      rw [hK] at z
      exact T_mt0 z isLst_ty pop_ok'
    · rw [if_neg e] at hm; cases hm
  | cons e es =>
    have hpe : plainE e = true ∧ plainEs es = true := by simpa only [plainEs, Bool.and_eq_true] using hp
    have s1 := star_cons (es := es) X.env hpe.1
    have s2 := star_any X.env q hpe.2
    have s3 := base_ok m X.env hb
    have s4 : (((backTo q (starEach (e :: es) X.env)).all fun x => !x.fst) && (backToKw q (keywordEach [] X.env)).all (fun x => x.fst.isSome) && decide ((e :: es).length + ([] : List Keyword).length + (if ([] : List Keyword).isEmpty = true then 0 else 1) < 30)) = true := by
      rw [star_all X.env q hp]
      simp only [Bool.true_and, Bool.and_eq_true, decide_eq_true_eq]
      exact ⟨rfl, by simpa using hn⟩
    by_cases hes : es.length = 0
    · have : es = [] := List.length_eq_zero_iff.mp hes
      subst this
      rw [if_pos (show ([e] : List Expr).length = 1 from rfl)] at hm
      by_cases q1 : m = ("append" : Str)
      · rw [if_pos q1] at hm; cases hm; subst q1
        have z := pe_bm PySem.F.plainAttrs_list PySem.F.slot_list_append PySem.F.type_list_append (mt_append (X := X)) ho ha s3 s4 hl s1 s2
        rw [hK] at z
        exact T_mt z isLst_ty app_ok'
      rw [if_neg q1] at hm
      by_cases q1 : m = ("extend" : Str)
      · rw [if_pos q1] at hm; cases hm; subst q1
        have z := pe_bm PySem.F.plainAttrs_list PySem.F.slot_list_extend PySem.F.type_list_extend (mt_extend (X := X)) ho ha s3 s4 hl s1 s2
        rw [hK] at z
        exact T_mt z isLst_ty ext_ok'
      rw [if_neg q1] at hm
      by_cases q1 : m = ("pop" : Str)
      · rw [if_pos q1] at hm; cases hm; subst q1
        have z := pe_bm PySem.F.plainAttrs_list PySem.F.slot_list_pop PySem.F.type_list_pop (mt_popAt (X := X)) ho ha s3 s4 hl s1 s2
        rw [hK] at z
        exact T_mt z isLst_ty popAt_ok'
      rw [if_neg q1] at hm
      by_cases q1 : m = ("join" : Str)
      · rw [if_pos q1] at hm; cases hm; subst q1
        have z := pe_bm PySem.F.plainAttrs_str PySem.F.slot_str_join PySem.F.type_str_join (mt_join (X := X)) ho ha s3 s4 hl s1 s2
        rw [hK] at z
        exact T_mt z isStr_ty join_ok'
      rw [if_neg q1] at hm
      by_cases q1 : m = ("index" : Str)
      · rw [if_pos q1] at hm; cases hm; subst q1
        have z := pe_bm PySem.F.plainAttrs_list PySem.F.slot_list_index PySem.F.type_list_index (mt_index (X := X)) ho ha s3 s4 hl s1 s2
        rw [hK] at z
        exact T_mt z isLst_ty ixL_ok
      rw [if_neg q1] at hm
      by_cases q1 : m = ("count" : Str)
      · rw [if_pos q1] at hm; cases hm; subst q1
        have z := pe_bm PySem.F.plainAttrs_list PySem.F.slot_list_count PySem.F.type_list_count (mt_lcountF (X := X)) ho ha s3 s4 hl s1 s2
        rw [hK] at z
        exact T_mt z isLst_ty cnt_ok
      rw [if_neg q1] at hm
      cases hm
    · have : ¬ (e :: es).length = 1 := fun z => hes (by simpa using z)
      rw [if_neg this] at hm
      by_cases h2 : (e :: es).length = 2
      · rw [if_pos h2] at hm
        by_cases q1 : m = ("get" : Str)
        · rw [if_pos q1] at hm; cases hm; subst q1
          have z := pe_bm PySem.F.plainAttrs_dict PySem.F.slot_dict_get PySem.F.type_dict_get (mt_get2 (X := X) (by have := h.room.un; omega)) ho ha s3 s4 hl s1 s2
          rw [hK] at z
          exact T_mt z isDct_ty get2_ok
        rw [if_neg q1] at hm
        cases hm
      · rw [if_neg h2, if_neg (by simp)] at hm
        cases hm
/-- list(range(..)) -/
theorem vrs_rg (a b : Int) {ι : Io} {H : Hp} : VRs O.K ι H (rgD a b) (rgV a b) := by
  unfold rgD rgV
  generalize List.range (b - a).toNat = l
  induction l with
  | nil => simp [VRs]
  | cons x l ih => simp only [List.map_cons, VRs]; exact ⟨_, _, rfl, vr_int, ih⟩
theorem rgOk_of {a b : Int} (h : rgOkB a b = true) : RgOk a b := by
  unfold rgOkB at h
  simp only [Bool.and_eq_true, decide_eq_true_eq] at h
  obtain ⟨⟨⟨⟨h1, h2⟩, h3⟩, h4⟩, h5⟩ := h
  exact ⟨h1, h2, h3, h4, h5⟩
theorem listRg1 {e : Expr} {p p' pos pos' : Pos} {fa : SemE} {m : Bool} (h : Good O k c E X) (h1 : Gl X "list") (h2 : X.mg "list" = none) (h3 : Gl X "range") (h4 : X.mg "range" = none) (he : plainE e = true) (ha : PE X e (TE' O E fa)) :
    PE X (.Call (.Name "list" p) [.Call (.Name "range" p') [e] [] pos] [] pos') (TE' O E (eApp (lstRg m) (lCons fa lNil))) :=
  PE.to (pe_listRg h.calm h1 h2 (prg_1 h3 h4 ha (star_cons _ he))) fun σ H Q ⟨n0, ι, M, σd, b, q⟩ => by
    unfold eApp lCons lNil at q
    rw [Res.bind_assoc] at q
    refine ⟨n0, ι, M, σd, b, (Wp.bind q).mono fun x ι1 M1 H1 p1 q1 v hv => ?_⟩
    change Wp O.K (EKof O.C E) n0 ι1 M1 H1 (lstRg m [x] M1) (fun d ι' M' H' => ∀ v, VR O.K ι' H' d v → Q v H') at q1
    unfold lstRg at q1
    split at q1
    · rename_i i e1
      cases e1
      split at q1
      · rename_i hr
        exact ⟨i, int_of hv, rgOk_of hr, fun l hl => (lst_made (b.at.to p1) (vrs_rg 0 i) q1).2 l hl⟩
      · exact q1.elim
    · rename_i e1; cases e1
    · exact q1.elim
theorem listRg2 {e e' : Expr} {p p' pos pos' : Pos} {fa fb : SemE} {m : Bool} (h : Good O k c E X) (h1 : Gl X "list") (h2 : X.mg "list" = none) (h3 : Gl X "range") (h4 : X.mg "range" = none) (he : plainE e = true) (he' : plainE e' = true) (ha : PE X e (TE' O E fa)) (hb : PE X e' (TE' O E fb)) :
    PE X (.Call (.Name "list" p) [.Call (.Name "range" p') [e, e'] [] pos] [] pos') (TE' O E (eApp (lstRg m) (lCons fa (lCons fb lNil)))) :=
  PE.to (pe_listRg h.calm h1 h2 (prg_2 h3 h4 ha hb (star_cons _ he) (star_cons _ he') (star_any (es := [e']) _ _ (by simp [plainEs, he'])))) fun σ H Q ⟨n0, ι, M, σd, b, q⟩ => by
    unfold eApp lCons lNil at q
    rw [Res.bind_assoc] at q
    refine ⟨n0, ι, M, σd, b, (Wp.bind q).mono fun x ι1 M1 H1 p1 q1 v hv => ?_⟩
    rw [Res.bind_assoc, Res.bind_assoc] at q1
    refine ⟨n0, ι1, M1, σd, b.to p1, (Wp.bind q1).mono fun y ι2 M2 H2 p2 q2 u hu => ?_⟩
    change Wp O.K (EKof O.C E) n0 ι2 M2 H2 (lstRg m [x, y] M2) (fun d ι' M' H' => ∀ v, VR O.K ι' H' d v → Q v H') at q2
    unfold lstRg at q2
    split at q2
    · rename_i e1; cases e1
    · rename_i i j e1
      cases e1
      split at q2
      · rename_i hr
        exact ⟨i, j, int_of hv, int_of hu, rgOk_of hr, fun l hl => (lst_made (b.at.to (p1.trans p2)) (vrs_rg i j) q2).2 l hl⟩
      · exact q2.elim
    · exact q2.elim
theorem tupRg1 {e : Expr} {p p' pos pos' : Pos} {fa : SemE} (h : Good O k c E X) (h1 : Gl X "tuple") (h2 : X.mg "tuple" = none) (h3 : Gl X "range") (h4 : X.mg "range" = none) (he : plainE e = true) (ha : PE X e (TE' O E fa)) :
    PE X (.Call (.Name "tuple" p) [.Call (.Name "range" p') [e] [] pos] [] pos') (TE' O E (eApp tupRg (lCons fa lNil))) :=
  PE.to (pe_tupRg h.calm h1 h2 (prg_1 h3 h4 ha (star_cons _ he))) fun σ H Q ⟨n0, ι, M, σd, b, q⟩ => by
    unfold eApp lCons lNil at q
    rw [Res.bind_assoc] at q
    refine ⟨n0, ι, M, σd, b, (Wp.bind q).mono fun x ι1 M1 H1 p1 q1 v hv => ?_⟩
    change Wp O.K (EKof O.C E) n0 ι1 M1 H1 (tupRg [x] M1) (fun d ι' M' H' => ∀ v, VR O.K ι' H' d v → Q v H') at q1
    unfold tupRg at q1
    split at q1
    · rename_i i e1
      cases e1
      split at q1
      · rename_i hr
        exact ⟨i, int_of hv, rgOk_of hr, fun l hl => q1 _ _ (post_new p1.sh hl) _ (vr_tup p1.sh hl (vrs_rg 0 i))⟩
      · exact q1.elim
    · exact q1.elim
theorem inRg_of {i : Int} (h : inRg i = true) : -(2 ^ 62) ≤ i ∧ i < 2 ^ 62 := by
  unfold inRg at h
  simpa only [Bool.and_eq_true, decide_eq_true_eq] using h
theorem I_rng1 {tg e : Expr} {p pos : Pos} {f : SemL} (h : Good O k c E X) (h3 : Gl X "range") (h4 : X.mg "range" = none) (he : plainE e = true) (ha : PA X [e] (Tl O.K (EKof O.C E) f)) (hf : ∀ n σ M ds M', f n σ M = .ok ds M' → ds.length = 1) :
    PI X tg (.Call (.Name "range" p) [e] [] pos) (Ti O.K (EKof O.C E) (iRng f)) :=
  PI.to (pi_range1 h3 h4 ha (star_cons _ he)) fun σ H R ⟨n0, ι, M, σd, b, q⟩ => by
    refine ⟨n0, ι, M, σd, b, ?_⟩
    have q := Wp.bind q
    cases hr : f n0 σd M with
    | stuck => rw [hr] at q; exact q.elim
    | err c M1 => rw [hr] at q; exact q
    | ok ds M1 =>
      rw [hr] at q
      intro ι' H' p1 vs hv
      have q1 := q ι' H' p1
      have hl := hf _ _ _ _ _ hr
      match ds, hl, q1, hv with
      | [d], _, q1, hv =>
        obtain ⟨v, rfl, h1⟩ := vrs1 (ds := []) hv
        cases d with
        | int j =>
          unfold rngOf at q1
          simp only at q1
          split at q1
          · rename_i hb
            obtain ⟨b1, b2⟩ := inRg_of hb
            exact ⟨j, by rw [int_of h1], b1, b2, q1 ι' H' (Post.refl p1.sh) _ walks_range⟩
          · exact q1.elim
        | _ => exact q1.elim
theorem I_rng2 {tg e e' : Expr} {p pos : Pos} {f : SemL} (h : Good O k c E X) (h3 : Gl X "range") (h4 : X.mg "range" = none) (he : plainE e = true) (he' : plainE e' = true) (ha : PA X [e, e'] (Tl O.K (EKof O.C E) f)) (hf : ∀ n σ M ds M', f n σ M = .ok ds M' → ds.length = 2) :
    PI X tg (.Call (.Name "range" p) [e, e'] [] pos) (Ti O.K (EKof O.C E) (iRng f)) := by
  have s : starEach [e, e'] X.env = [(false, eval e X.env), (false, eval e' X.env)] := by rw [star_cons _ he, star_cons _ he']; rfl
  have s' : starEach [e'] X.env = [(false, eval e' X.env)] := by rw [star_cons _ he']; rfl
  refine PI.to (pi_range2 h3 h4 ha s s') fun σ H R ⟨n0, ι, M, σd, b, q⟩ => ?_
  refine ⟨n0, ι, M, σd, b, ?_⟩
  have q := Wp.bind q
  cases hr : f n0 σd M with
  | stuck => rw [hr] at q; exact q.elim
  | err c M1 => rw [hr] at q; exact q
  | ok ds M1 =>
    rw [hr] at q
    intro ι' H' p1 vs hv
    have q1 := q ι' H' p1
    have hl := hf _ _ _ _ _ hr
    match ds, hl, q1, hv with
    | [d, d'], _, q1, hv =>
      obtain ⟨v, u, rfl, h1, h2⟩ := vrs2 (ds := []) hv
      unfold rngOf at q1
      cases d with
      | int i =>
        cases d' with
        | int j =>
          simp only at q1
          split at q1
          · rename_i hb
            simp only [Bool.and_eq_true] at hb
            obtain ⟨b1, b2⟩ := inRg_of hb.1
            obtain ⟨b3, b4⟩ := inRg_of hb.2
            exact ⟨i, j, by rw [int_of h1, int_of h2], ⟨b1, b2, b3, b4⟩, q1 ι' H' (Post.refl p1.sh) _ walks_range⟩
          · exact q1.elim
        | _ => exact q1.elim
      | _ => cases d' <;> exact q1.elim
end
end DL

namespace DL
open PySem PySem.Spec PyProof.Rows L2
section
variable {O : Wo} {k : Nat} {c : Ctx} {E : XK} {X : Cx}
/-- a block of a comprehension -/
theorem Good.inner (h : Good O k c E X) {scope : Scope} (hs : scope.kind = .function) (hu : ∀ y ∈ scope.names, scope.names.lookup y.1 = some y.2) (s : Shared) (H : Hp) (C : Addr) (cl : List (Str × Addr)) (fp : List Addr) : Good O k (c.inner scope) L2.E0 (X.blk s H scope (compEnvC scope cl C X.env) fp) where
  prog := h.prog
  w := h.w
  K := h.K
  mg := h.mg
  base := h.base
  N := h.N
  nd := h.nd
  kind := hs
  names := by
    show (scope.names.map fun (n, k) => if (k == NameKind.free && X.env.scope.kind == .function && X.env.kindOf n == some .cell) then (n, NameKind.cell) else (n, k)) = relNames scope c
    unfold relNames
    congr 1
    funext ⟨n, k⟩
    dsimp only
    rw [h.kindOf, h.kind]
    simp
  fn := fun e => by cases e
  calm := h.calm
  room := h.room
  own := PassesOwn.never
  pass := passL
  glob := h.glob
  takes := fun e => by cases e
  grd := h.grd
  cel := fun x hx => by
    show (scope.names.lookup x == some .cell) = true
    have hx : x ∈ scope.names.filterMap fun (n, k) => match k with | .cell => some n | _ => none := hx
    rw [List.mem_filterMap] at hx
    obtain ⟨⟨n, kk⟩, h1, h2⟩ := hx
    cases kk <;> simp only [Option.some.injEq, reduceCtorEq] at h2
    subst h2
    rw [hu _ h1]
    rfl
theorem Good.blkOk (h : Good O k c E X) {scope : Scope} (hb : blkC' c scope = true) : BlkOk X.N X.env.scope scope (ownOf c scope) := by
  have b := blkOk_by (N := c.N) (sc := { kind := .function, names := c.names, isGenerator := false, isCoroutine := false }) hb
  rw [h.N]
  exact ⟨b.kind, b.uniq, b.ix, by rw [h.names]; exact b.free, b.own⟩
def QE (O : Wo) (k n : Nat) : Prop := ∀ c md e f, cE n c md e = some f → ∀ E X, Good O k c E X → PE X e (TE' O E f)
def QL (O : Wo) (k n : Nat) : Prop := ∀ c md es f, cL n c md es = some f → ∀ E X, Good O k c E X → PA X es (Tl O.K (EKof O.C E) f)
def QO (O : Wo) (k n : Nat) : Prop := ∀ c o f, cO n c o = some f → ∀ E X, Good O k c E X → PO X o (To O.K (EKof O.C E) f)
def QB (O : Wo) (k n : Nat) : Prop := ∀ c op es f, cBool n c op es = some f → ∀ E X p, Good O k c E X → PE X (.BoolOp op es p) (TE' O E f)
def QT (O : Wo) (k n : Nat) : Prop := ∀ c e f, cT n c e = some f → ∀ E X, Good O k c E X → PT X e (Tt O.K (EKof O.C E) f)
def QTB (O : Wo) (k n : Nat) : Prop := ∀ c op es f, cTB n c op es = some f → ∀ E X p, Good O k c E X → PW X (.BoolOp op es p) (Tt O.K (EKof O.C E) f)
def QF (O : Wo) (k n : Nat) : Prop := ∀ c es f, cIfs n c es = some f → ∀ E X, Good O k c E X → PTs X es (Tt O.K (EKof O.C E) f)
def QI (O : Wo) (k n : Nat) : Prop := ∀ c tp e f, cI n c tp e = some f → ∀ E X tg, isTupE tg = tp → Good O k c E X → PI X tg e (Ti O.K (EKof O.C E) f)
def QG (n : Nat) : Prop := ∀ (O : Wo) k c e g, cG c n e = some g → ∀ E X, Good O k c E X → PG X e (Tgw O.K (EKof O.C E) c.vs g)
def QGs (n : Nat) : Prop := ∀ (O : Wo) k c es g, cGs c n es = some g → ∀ E X, Good O k c E X → PGs X es (Tgsw O.K (EKof O.C E) c.vs g) ∧ plainEs es = true
theorem cG_ok : ∀ n, QG n ∧ QGs n
  | 0 => ⟨fun O k c e g h => by simp [cG] at h, fun O k c es g h => by simp [cGs] at h⟩
  | n + 1 => by
    obtain ⟨i1, i2⟩ := cG_ok n
    refine ⟨fun O k c e g h E X hG => ?_, fun O k c es g h E X hG => ?_⟩
    · unfold cG at h
      split at h
      · split at h
        · split at h
          · rename_i i e1 hm
            cases h
            exact W_var (hG.put e1) (by simpa using hm)
          · cases h
        · cases h
      · split at h
        · rename_i hp
          simp only [Option.map_eq_some_iff] at h
          obtain ⟨g, e1, rfl⟩ := h
          obtain ⟨j1, _⟩ := i2 O k c _ g e1 E X hG
          obtain ⟨a1, a2⟩ := assign_len X.env hp
          exact W_tup hG.calm hG.K j1 a1 a2
        · cases h
      · cases h
    · unfold cGs at h
      split at h
      · cases h
        exact ⟨W_nil, rfl⟩
      · rename_i e es
        split at h
        · rename_i hp
          split at h
          · rename_i g r e1 e2
            cases h
            obtain ⟨j1, j2⟩ := i2 O k c _ r e2 E X hG
            exact ⟨W_cons (i1 O k c e g e1 E X hG) j1 (assign_cons X.env hp), by simp [plainEs, hp, j2]⟩
          · cases h
        · cases h
theorem cL_len : ∀ (n : Nat) (c : Ctx) (md : Nat) (es : List Expr) (f : SemL), cL n c md es = some f → ∀ n0 σ M ds M', f n0 σ M = .ok ds M' → ds.length = es.length
  | 0, c, md, es, f, h => by simp [cL] at h
  | n + 1, c, md, es, f, h => by
    unfold cL at h
    split at h
    · cases h
      intro n0 σ M ds M' e
      cases e; rfl
    · split at h
      · split at h
        · rename_i f1 r e1 e2
          cases h
          intro n0 σ M ds M' e
          unfold lCons at e
          cases h1 : f1 n0 σ M with
          | stuck => rw [h1] at e; cases e
          | err => rw [h1] at e; cases e
          | ok x M1 =>
            rw [h1] at e
            simp only [Res.bind_ok] at e
            cases h2 : r n0 σ M1 with
            | stuck => rw [h2] at e; cases e
            | err => rw [h2] at e; cases e
            | ok xs M2 =>
              rw [h2] at e
              cases e
              simp [cL_len n c md _ r e2 n0 σ M1 xs _ h2]
        · cases h
      · cases h
theorem cL_nil {n : Nat} {c : Ctx} {md : Nat} {f : SemL} (h : cL n c md [] = some f) : f = lNil := by
  cases n with
  | zero => simp [cL] at h
  | succ n => simp [cL] at h; exact h.symm
theorem cL_plain : ∀ (n : Nat) (c : Ctx) (md : Nat) (es : List Expr) (f : SemL), cL n c md es = some f → plainEs es = true
  | 0, c, md, es, f, h => by simp [cL] at h
  | n + 1, c, md, es, f, h => by
    unfold cL at h
    split at h
    · rfl
    · split at h
      · rename_i hp
        split at h
        · rename_i f1 r e1 e2
          simp [plainEs, hp, cL_plain n c md _ r e2]
        · cases h
      · cases h
theorem lc_to {X : Cx} {O : Wo} {E : XK} {t : TE} {e : Expr} {f : SemE} (h : PE X e t) (i : ∀ σ H Q, TE' O E f σ H Q → t σ H Q) : PE X e (TE' O E f) := PE.to h i
theorem tYes_ok {O : Wo} {E : XK} {X : Cx} : PTs X [] (Tt O.K (EKof O.C E) (fun _ _ M => .ok true M)) := ⟨fun pins s σ H Q I ⟨n0, ι, M, σd, b, q⟩ => pts_nil.run pins s σ H Q I (q ι H (Post.refl b.sh))⟩
theorem bin_read {K : PySem.W.Frag} {EE : EK} {r : R2} {o : Op2} {fa fb : SemE} (hs : Op2S K EE r o) {σ : L2.St} {H : Hp} {Q : VK} (h : T K EE (eBin o fa fb) σ H Q) : tOp r (T K EE fa) (T K EE fb) σ H Q := by
  obtain ⟨n0, ι, M, σd, b, q⟩ := h
  refine ⟨n0, ι, M, σd, b, (Wp.bind q).mono fun x ι1 M1 H1 p1 q1 v hv => ?_⟩
  refine ⟨n0, ι1, M1, σd, b.to p1, (Wp.bind q1).mono fun y ι2 M2 H2 p2 q2 u hu => ?_⟩
  exact hs n0 ι2 M2 H2 x y v u Q (b.at.to (p1.trans p2)) (hv.ext p2.ext) hu q2
theorem chain_read {K : PySem.W.Frag} {EE : EK} {r r' : R2} {o o' : Ord} {fa fb fc : SemE} (h2 : Op2S K EE r o.op) (h4 : Op2S K EE r' o'.op) {σ : L2.St} {H : Hp} {Q : VK} (h : T K EE (eChain o o' fa fb fc) σ H Q) : tChain r r' (T K EE fa) (T K EE fb) (T K EE fc) σ H Q := by
  obtain ⟨n0, ι, M, σd, b, q⟩ := h
  refine ⟨n0, ι, M, σd, b, (Wp.bind q).mono fun x ι1 M1 H1 p1 q1 v hv => ?_⟩
  refine ⟨n0, ι1, M1, σd, b.to p1, (Wp.bind q1).mono fun y ι2 M2 H2 p2 q2 u hu => ?_⟩
  refine h2 n0 ι2 M2 H2 x y v u _ (b.at.to (p1.trans p2)) (hv.ext p2.ext) hu ((Wp.bind q2).mono fun d ι3 M3 H3 p3 q3 z hz => ?_)
  cases d with
  | bl k =>
    refine ⟨k, bl_of hz, ?_⟩
    cases k with
    | false => exact iteF (q3 ι3 H3 (Post.refl p3.sh) _ vr_bl)
    | true =>
      refine iteT ⟨n0, ι3, M3, σd, b.to (p1.trans (p2.trans p3)), (Wp.bind q3).mono fun w' ι4 M4 H4 p4 q4 t ht => ?_⟩
      exact h4 n0 ι4 M4 H4 y w' u t Q (b.at.to (p1.trans (p2.trans (p3.trans p4)))) (hu.ext (p3.ext.trans p4.ext)) ht q4
  | _ => exact q3.elim
theorem isn_ok {K : PySem.W.Frag} {EE : EK} : Op2S K EE (fun x y H Q => y = .non ∧ Q (.bl (decide (x = .non))) H) opIsN := fun n0 ι M H x y v u Q a hx hy h => by
  cases y with
  | non =>
    refine ⟨by simpa only [VR] using hy, ?_⟩
    rw [non_iff hx]
    exact wp_ok a h _ vr_bl
  | _ => exact h.elim
theorem notn_ok {K : PySem.W.Frag} {EE : EK} : Op2S K EE (fun x y H Q => y = .non ∧ Q (.bl (!decide (x = .non))) H) opNotN := fun n0 ι M H x y v u Q a hx hy h => by
  cases y with
  | non =>
    refine ⟨by simpa only [VR] using hy, ?_⟩
    rw [non_iff hx]
    exact wp_ok a h _ vr_bl
  | _ => exact h.elim
theorem cmp_rule {op : CmpOp} {o : Op2} (h : Good O k c E X) (e : cmpOf op = some o) : ∃ r, OpR X (compareOp op) r ∧ Op2S O.K (EKof O.C E) r o := by
  have hK := h.K
  cases op <;> (first | (cases e; done) | skip)
  · cases e; exact ⟨_, opR_or op_eq (op_eqD h.room.units), by rw [hK]; exact eq_okA⟩
  · cases e; exact ⟨_, opR_or op_ne (op_neD h.room.units), by rw [hK]; exact ne_okA⟩
  · cases e; exact ⟨_, opR_or (opR_or op_lt op_lt_str) (op_ltT (by have := h.room.units; omega)), by rw [hK]; exact (((pI_ok fun _ _ _ _ => vr_bl).or pStr_ok).or pLtT_ok).op⟩
  · cases e; exact Ord.rule X O.K _ .le
  · cases e; exact Ord.rule X O.K _ .gt
  · cases e; exact Ord.rule X O.K _ .ge
  · cases e; exact isA_rule
  · cases e; exact notA_rule
  · cases e; exact in_rule hK h.room
  · cases e; exact notIn_rule hK h.room
theorem cmpT_ok {op : CmpOp} {o : Op2} {a b : Expr} {fa fb : SemE} {p : Pos} (h : Good O k c E X) (e : cmpOf op = some o) (hm : behindInMarks op b = false) (ha : PE X a (TE' O E fa)) (hb : PE X b (TE' O E fb)) : PT X (.Compare a [op] [b] p) (Tt O.K (EKof O.C E) (tOf (eBin o fa fb))) := by
  obtain ⟨r, h1, h2⟩ := cmp_rule h e
  exact Tt_val (PT.to (pt_cmpR h1 ha hb hm) fun σ H Q q => bin_read h2 q)
theorem chainT_ok {o o' : Ord} {a b b' : Expr} {fa fb fc : SemE} {p : Pos} (ha : PE X a (TE' O E fa)) (hb : PE X b (TE' O E fb)) (hc : PE X b' (TE' O E fc)) (hm : lastMarks [o.cmp, o'.cmp] [b, b'] = false) : PT X (.Compare a [o.cmp, o'.cmp] [b, b'] p) (Tt O.K (EKof O.C E) (tOf (eChain o o' fa fb fc))) := by
  obtain ⟨r, h1, h2⟩ := o.rule X O.K (EKof O.C E)
  obtain ⟨r', h3, h4⟩ := o'.rule X O.K (EKof O.C E)
  exact Tt_val (PT.to (pt_chain h1 h3 ha hb hc hm) fun σ H Q q => chain_read h2 h4 q)
theorem tru_ok {e : Expr} {f : SemE} (h : truE e = true) (he : PE X e (TE' O E f)) : PT X e (Tt O.K (EKof O.C E) (tOf f)) := by
  have := pt_val he (by
    intro whole
    unfold truE at h
    split at h <;> first | rfl | cases h)
  exact Tt_val this
theorem name_ok {x : Str} {p : Pos} {f : SemE} (hK : X.K = O.K) (he : PE X (.Name x p) (TE' O E f)) : PT X (.Name x p) (Tt O.K (EKof O.C E) (tTr f)) := by
  have h := pt_truth he (fun _ => rfl)
  rw [hK] at h
  refine PT.to h fun σ H Q ⟨n0, ι, M, σd, b, q⟩ => ?_
  refine ⟨n0, ι, M, σd, b, (Wp.bind q).mono fun x ι1 M1 H1 p1 q1 v hv => ?_⟩
  cases ht : truD x M1 with
  | none => rw [ht] at q1; exact q1.elim
  | some k => rw [ht] at q1; exact ⟨k, tru_of p1.sh ht hv, q1 ι1 H1 (Post.refl p1.sh)⟩
end
end DL

namespace DL
open PySem PySem.Spec PyProof.Rows L2
section
variable {O : Wo} {k : Nat}
def QP (O : Wo) (k n : Nat) : Prop := ∀ c ks vs fs, cP n c ks vs = some fs → ∀ E X p, Good O k c E X → PPs X p ks vs (fs.map fun f => (DL.T O.K (EKof O.C E) f.1, DL.T O.K (EKof O.C E) f.2)) ∧ fs.length = ks.length
structure All (O : Wo) (k n : Nat) : Prop where
  e : QE O k n
  l : QL O k n
  o : QO O k n
  b : QB O k n
  t : QT O k n
  tb : QTB O k n
  f : QF O k n
  i : QI O k n
  p : QP O k n
theorem call_ok {n : Nat} (A : All O k n) {c : Ctx} {md : Nat} {f : Str} {p pos : Pos} {args : List Expr} {r : SemE} (h : cE (n + 1) c md (.Call (.Name f p) args [] pos) = some r) (E : XK) (X : Cx) (g : Good O k c E X) : PE X (.Call (.Name f p) args [] pos) (TE' O E r) := by
  unfold cE at h
  simp only at h
  split at h
  · rename_i hp
    split at h
    · rename_i F np hg
      simp only [Option.map_eq_some_iff] at h
      obtain ⟨fl, e1, rfl⟩ := h
      exact fn_call g hg hp (A.l c 0 args fl e1 E X g) fun e => by subst e; exact cL_nil e1
    · rename_i hg
      split at h
      · rename_i rr pr as pp
        split at h
        · rename_i hn
          obtain ⟨h1, h2⟩ := hn
          subst h1 h2
          split at h
          · rename_i hg2
            split at h
            · rename_i hpa
              obtain ⟨b1, b2, _, _⟩ := g.blt hg
              obtain ⟨b3, b4, _, _⟩ := g.blt hg2
              split at h
              · rename_i a
                simp only [Option.map_eq_some_iff] at h
                obtain ⟨fa, e1, rfl⟩ := h
                have pa : plainE a = true := by simpa [plainEs] using hpa
                exact listRg1 g b1 b2 b3 b4 pa (A.e c 0 a fa e1 E X g)
              · rename_i a b
                have pa : plainE a = true ∧ plainE b = true := by simpa [plainEs] using hpa
                split at h
                · rename_i fa fb e1 e2
                  cases h
                  exact listRg2 g b1 b2 b3 b4 pa.1 pa.2 (A.e c 0 a fa e1 E X g) (A.e c 0 b fb e2 E X g)
                · cases h
              · cases h
            · cases h
          · cases h
        · split at h
          · rename_i hn
            obtain ⟨h1, h2⟩ := hn
            subst h1 h2
            split at h
            · rename_i hg2
              split at h
              · rename_i hpa
                obtain ⟨b1, b2, _, _⟩ := g.blt hg
                obtain ⟨b3, b4, _, _⟩ := g.blt hg2
                split at h
                · rename_i a
                  simp only [Option.map_eq_some_iff] at h
                  obtain ⟨fa, e1, rfl⟩ := h
                  have pa : plainE a = true := by simpa [plainEs] using hpa
                  exact tupRg1 g b1 b2 b3 b4 pa (A.e c 0 a fa e1 E X g)
                · cases h
              · cases h
            · cases h
          · split at h
            · rename_i o hb
              simp only [Option.map_eq_some_iff] at h
              obtain ⟨fl, e1, rfl⟩ := h
              exact blt_app g hg (bltOf_ok g.K g.calm g.grd g.room hb) hp (A.l c 0 _ fl e1 E X g)
            · cases h
      · split at h
        · rename_i o hb
          simp only [Option.map_eq_some_iff] at h
          obtain ⟨fl, e1, rfl⟩ := h
          exact blt_app g hg (bltOf_ok g.K g.calm g.grd g.room hb) hp (A.l c 0 _ fl e1 E X g)
        · cases h
      · cases h
    · cases h
  · cases h
theorem lcomp_ok {n : Nat} (A : All O k n) {c : Ctx} {md : Nat} {elt tg iter : Expr} {ifs : List Expr} {scope : Scope} {pos : Pos} {r : SemE} (h : cE (n + 1) c md (.ListComp elt [⟨tg, iter, ifs, 0⟩] scope pos) = some r) (E : XK) (X : Cx) (g : Good O k c E X) : PE X (.ListComp elt [⟨tg, iter, ifs, 0⟩] scope pos) (TE' O E r) := by
  simp only [cE] at h
  split at h
  · rename_i hc
    simp only [Bool.and_eq_true] at hc
    obtain ⟨c1, c2⟩ := hc
    have hs : scope.kind = .function := (g.blkOk c2).kind
    have hu := (g.blkOk c2).uniq
    split at h
    · rename_i fi gg tt te e1 e2 e3 e4
      cases h
      refine PE.to (pe_lc g.calm (by rw [g.N]; exact g.nd) (A.i c _ iter fi e1 E X tg rfl g) (g.blkOk c2)
        (fun s H C cl fp => (cG_ok n).1 O k (c.inner scope) tg gg e2 L2.E0 _ (g.inner hs hu s H C cl fp))
        (fun s H C cl fp => A.f (c.inner scope) ifs tt e3 L2.E0 _ (g.inner hs hu s H C cl fp))
        (fun s H C cl fp => A.e (c.inner scope) (md - 1) elt te e4 L2.E0 _ (g.inner hs hu s H C cl fp)) (folded_ok X.env c1)) fun σ H Q q => ?_
      exact lc_read (pm md) (decide (2 ≤ md)) q
    · cases h
  · cases h
theorem sub_ok {n : Nat} (A : All O k n) {c : Ctx} {md : Nat} {a b : Expr} {p : Pos} {r : SemE} (h : cE (n + 1) c md (.Subscript a b p) = some r) (E : XK) (X : Cx) (g : Good O k c E X) : PE X (.Subscript a b p) (TE' O E r) := by
  have plain : (ixE b = true) → (match cE n c 0 a, cE n c 0 b with | some fa, some fb => some (eBin opIx fa fb) | _, _ => none) = some r → PE X (.Subscript a b p) (TE' O E r) := by
    intro hb h
    split at h
    · rename_i fa fb e1 e2
      cases h
      exact b_ix g.K g.room (A.e c 0 a fa e1 E X g) (A.e c 0 b fb e2 E X g) (ix_ok hb)
    · cases h
  cases b with
  | Slice lo hi st q =>
    cases st with
    | none =>
      simp only [cE] at h
      split at h
      · rename_i fa fl fh e1 e2 e3
        cases h
        exact b_sl (pm md) g.K (A.e c 0 a fa e1 E X g) (A.o c lo fl e2 E X g) (A.o c hi fh e3 E X g)
      · cases h
    | some s =>
      simp only [cE] at h
      split at h
      · rename_i hr
        simp only [Option.map_eq_some_iff] at h
        obtain ⟨fa, e1, rfl⟩ := h
        obtain ⟨k', p1, p2, p3, e2⟩ := isRev_of hr
        rw [e2]
        exact b_rev (pm md) g.K (A.e c 0 a fa e1 E X g)
      · simp [ixE] at h
  | _ =>
    simp only [cE, ixE, isRev, Bool.false_eq_true, if_false, if_true] at h
    exact plain rfl h
theorem every_ok (O : Wo) (k : Nat) : ∀ n, All O k n
  | 0 => ⟨fun c md e f h => by simp [cE] at h, fun c md es f h => by simp [cL] at h, fun c o f h => by simp [cO] at h, fun c op es f h => by simp [cBool] at h, fun c e f h => by simp [cT] at h, fun c op es f h => by simp [cTB] at h,
      fun c es f h => by simp [cIfs] at h, fun c tp e f h => by simp [cI] at h, fun c ks vs fs h => by simp [cP] at h⟩
  | n + 1 => by
    have A := every_ok O k n
    refine ⟨fun c md e f h E X g => ?_, fun c md es f h E X g => ?_, fun c o f h E X g => ?_, fun c op es f h E X p g => ?_, fun c e f h E X g => ?_, fun c op es f h E X p g => ?_, fun c es f h E X g => ?_, fun c tp e f h E X tg htp g => ?_, fun c ks vs fs h E X p g => ?_⟩
    · -- expressions
      cases e with
      | Name x p =>
        unfold cE at h
        simp only at h
        split at h
        · rename_i i e1
          cases h
          exact T_var (g.slot e1)
        · split at h
          · rename_i d hg
            cases h
            obtain ⟨h1, h2, _, v, u, e1, e2, e3⟩ := g.gl hg
            exact T_C (pe_glob h1 (by rw [g.mg]; exact e1) e2 h2) e3
          · rename_i hg
            simp only [Option.map_eq_some_iff] at h
            obtain ⟨t, e1, rfl⟩ := h
            exact g.name hg e1
          · cases h
      | Constant co j p =>
        unfold cE at h
        simp only [Option.map_eq_some_iff] at h
        obtain ⟨d, e1, rfl⟩ := h
        exact const_ok e1
      | Tuple es j p =>
        unfold cE at h
        simp only [Option.map_eq_some_iff] at h
        obtain ⟨r, e1, rfl⟩ := h
        exact T_tup (A.l c (md - 1) es r e1 E X g)
      | List es p =>
        unfold cE at h
        simp only [Option.map_eq_some_iff] at h
        obtain ⟨r, e1, rfl⟩ := h
        exact T_lst (pm md) (A.l c (md - 1) es r e1 E X g)
      | BinOp a op b p =>
        unfold cE at h
        simp only at h
        split at h
        · rename_i o fa fb e1 e2 e3
          cases h
          exact bin_ok g e1 (A.e c 0 a fa e2 E X g) (A.e c 0 b fb e3 E X g)
        · cases h
      | UnaryOp op a p =>
        cases op with
        | Not =>
          unfold cE at h
          simp only [Option.map_eq_some_iff] at h
          obtain ⟨r, e1, rfl⟩ := h
          exact T_not (A.e c 0 a r e1 E X g)
        | USub =>
          unfold cE at h
          simp only [Option.map_eq_some_iff] at h
          obtain ⟨r, e1, rfl⟩ := h
          exact b_neg (A.e c 0 a r e1 E X g)
        | _ => unfold cE at h; cases h
      | BoolOp op es p =>
        unfold cE at h
        exact A.b c op es f h E X p g
      | Compare a ops bs p =>
        match ops, bs, h with
        | [op], [b], h =>
          simp only [cE] at h
          split at h
          · cases h
          · rename_i hm
            split at h
            · rename_i o fa fb e1 e2 e3
              cases h
              obtain ⟨r, h1, h2⟩ := cmp_rule g e1
              exact T_cmp h1 h2 (A.e c 0 a fa e2 E X g) (A.e c 0 b fb e3 E X g) (by simpa using hm)
            · cases h
        | [op, op'], [b, b'], h =>
          simp only [cE] at h
          split at h
          · cases h
          · rename_i hm
            split at h
            · rename_i o o' fa fb fc e1 e2 e3 e4 e5
              cases h
              have q1 := ord_cmp e1
              have q2 := ord_cmp e2
              subst q1 q2
              exact b_chain o o' (A.e c 0 a fa e3 E X g) (A.e c 0 b fb e4 E X g) (A.e c 0 b' fc e5 E X g) (by simpa using hm)
            · cases h
        | [op, op', op''], [b, b', b''], h =>
          simp only [cE] at h
          split at h
          · cases h
          · rename_i hm
            split at h
            · rename_i o o' o'' fa fb fc fd e1 e2 e3 e4 e5 e6 e7
              cases h
              have q1 := ord_cmp e1
              have q2 := ord_cmp e2
              have q3 := ord_cmp e3
              subst q1 q2 q3
              exact b_chain3 o o' o'' (A.e c 0 a fa e4 E X g) (A.e c 0 b fb e5 E X g) (A.e c 0 b' fc e6 E X g) (A.e c 0 b'' fd e7 E X g) (by simpa using hm)
            · cases h
        | [], _, h => simp [cE] at h
        | [_], [], h => simp [cE] at h
        | [_], _ :: _ :: _, h => simp [cE] at h
        | [_, _], [], h => simp [cE] at h
        | [_, _], [_], h => simp [cE] at h
        | [_, _], _ :: _ :: _ :: _, h => simp [cE] at h
        | [_, _, _], [], h => simp [cE] at h
        | [_, _, _], [_], h => simp [cE] at h
        | [_, _, _], [_, _], h => simp [cE] at h
        | [_, _, _], _ :: _ :: _ :: _ :: _, h => simp [cE] at h
        | _ :: _ :: _ :: _ :: _, _, h => simp [cE] at h
      | IfExp t a b p =>
        unfold cE at h
        simp only at h
        split at h
        · rename_i ft fa fb e1 e2 e3
          cases h
          exact T_ifExp (A.t c t ft e1 E X g) (A.e c md a fa e2 E X g) (A.e c md b fb e3 E X g)
        · cases h
      | Subscript a b p => exact sub_ok A h E X g
      | Call fn args kws p =>
        cases kws with
        | cons _ _ => simp [cE] at h
        | nil =>
          cases fn with
          | Name f q => exact call_ok A h E X g
          | Attribute o m q =>
            simp only [cE] at h
            split at h
            · rename_i hc
              simp only [Bool.and_eq_true, decide_eq_true_eq] at hc
              obtain ⟨⟨⟨c1, c2⟩, c3⟩, c4⟩ := hc
              split at h
              · rename_i ok op fo fr e1 e2 e3
                cases h
                exact mth_ok g e1 c1 c2 c3 c4 (A.e c 0 o fo e2 E X g) (A.l c 0 args fr e3 E X g) fun e => by subst e; exact cL_nil e3
              · cases h
            · cases h
          | _ => simp [cE] at h
      | ListComp elt gs scope p =>
        match gs, h with
        | [⟨tg, iter, ifs, a⟩], h =>
          by_cases ha : a = 0
          · subst ha; exact lcomp_ok A h E X g
          · simp [cE, ha] at h
        | [], h => simp [cE] at h
        | _ :: _ :: _, h => simp [cE] at h
      | Dict ks vs p =>
        unfold cE at h
        simp only at h
        split at h
        · rename_i hc
          simp only [Bool.and_eq_true, decide_eq_true_eq] at hc
          obtain ⟨⟨⟨c1, c2⟩, c3⟩, c4⟩ := hc
          simp only [Option.map_eq_some_iff] at h
          obtain ⟨fs, e1, rfl⟩ := h
          obtain ⟨j1, j2⟩ := A.p c ks vs fs e1 E X p g
          exact T_dct j1 c1 c2 c3 c4 (by omega)
        · split at h
          · rename_i hc
            simp only [Bool.and_eq_true, List.isEmpty_iff] at hc
            obtain ⟨c1, c2⟩ := hc
            subst c1 c2
            cases h
            exact T_dct0
          · cases h
      | _ => unfold cE at h; cases h
    · unfold cL at h
      split at h
      · cases h; exact T_nil
      · split at h
        · rename_i hp
          split at h
          · rename_i f1 r e1 e2
            cases h
            exact T_cons (A.e c md _ f1 e1 E X g) (A.l c md _ r e2 E X g) (star_cons _ hp)
          · cases h
        · cases h
    · unfold cO at h
      split at h
      · cases h; exact O_none
      · simp only [Option.map_eq_some_iff] at h
        obtain ⟨r, e1, rfl⟩ := h
        exact O_some (A.e c 0 _ r e1 E X g)
    · unfold cBool at h
      split at h
      · cases h
      · exact pe_one (A.e c 0 _ f h E X g)
      · split at h
        · rename_i f1 r e1 e2
          cases h
          exact T_and (A.e c 0 _ f1 e1 E X g) (A.b c _ _ r e2 E X p g)
        · rename_i f1 r e1 e2
          cases h
          exact T_or (A.e c 0 _ f1 e1 E X g) (A.b c _ _ r e2 E X p g)
        · cases h
    · cases e with
      | BoolOp op es p =>
        simp only [cT] at h
        exact PW.pt (A.tb c op es f h E X p g)
      | UnaryOp op a p =>
        cases op with
        | Not =>
          simp only [cT, Option.map_eq_some_iff] at h
          obtain ⟨r, e1, rfl⟩ := h
          exact Tt_not (A.t c a r e1 E X g)
        | _ => simp [cT, truE] at h
      | Compare a ops bs p =>
        match ops, bs, h with
        | [op], [b], h =>
          simp only [cT] at h
          split at h
          · cases h
          · rename_i hm
            split at h
            · rename_i o fa fb e1 e2 e3
              cases h
              exact cmpT_ok g e1 (by simpa using hm) (A.e c 0 a fa e2 E X g) (A.e c 0 b fb e3 E X g)
            · cases h
        | [op, op'], [b, b'], h =>
          simp only [cT] at h
          split at h
          · cases h
          · rename_i hm
            split at h
            · rename_i o o' fa fb fc e1 e2 e3 e4 e5
              cases h
              have q1 := ord_cmp e1
              have q2 := ord_cmp e2
              subst q1 q2
              exact chainT_ok (A.e c 0 a fa e3 E X g) (A.e c 0 b fb e4 E X g) (A.e c 0 b' fc e5 E X g) (by simpa using hm)
            · cases h
        | [], _, h => simp [cT, truE] at h
        | [_], [], h => simp [cT, truE] at h
        | [_], _ :: _ :: _, h => simp [cT, truE] at h
        | [_, _], [], h => simp [cT, truE] at h
        | [_, _], [_], h => simp [cT, truE] at h
        | [_, _], _ :: _ :: _ :: _, h => simp [cT, truE] at h
        | _ :: _ :: _ :: _, _, h => simp [cT, truE] at h
      | Name x p =>
        simp only [cT, Option.map_eq_some_iff] at h
        obtain ⟨r, e1, rfl⟩ := h
        exact name_ok g.K (A.e c 0 _ r e1 E X g)
      | Call a b d p =>
        simp only [cT, truE, if_true] at h
        simp only [Option.map_eq_some_iff] at h
        obtain ⟨r, e1, rfl⟩ := h
        exact tru_ok rfl (A.e c 0 _ r e1 E X g)
      | Subscript a b p =>
        simp only [cT, truE, if_true] at h
        simp only [Option.map_eq_some_iff] at h
        obtain ⟨r, e1, rfl⟩ := h
        exact tru_ok rfl (A.e c 0 _ r e1 E X g)
      | Attribute a b p =>
        simp only [cT, truE, if_true] at h
        simp only [Option.map_eq_some_iff] at h
        obtain ⟨r, e1, rfl⟩ := h
        exact tru_ok rfl (A.e c 0 _ r e1 E X g)
      | _ => simp [cT, truE] at h
    · unfold cTB at h
      split at h
      · cases h
      · cases op with
        | And => exact Tt_and1 (A.t c _ f h E X g)
        | Or => exact Tt_or1 (A.t c _ f h E X g)
      · split at h
        · rename_i f1 r e1 e2
          cases h
          exact Tt_and (A.t c _ f1 e1 E X g) (A.tb c _ _ r e2 E X p g)
        · rename_i f1 r e1 e2
          cases h
          exact Tt_or (A.t c _ f1 e1 E X g) (A.tb c _ _ r e2 E X p g)
        · cases h
    · unfold cIfs at h
      split at h
      · cases h; exact tYes_ok
      · exact pts_one (A.t c _ f h E X g)
      · cases h
    · have seq : ∀ f, (cE n c 0 e).map iSeq = some f → PI X tg e (Ti O.K (EKof O.C E) f) := fun f q => by
        simp only [Option.map_eq_some_iff] at q
        obtain ⟨r, e1, rfl⟩ := q
        exact I_seq g.K (A.e c 0 e r e1 E X g)
      unfold cI at h
      split at h
      · rename_i fn p args pos
        split at h
        · rename_i hf
          subst hf
          split at h
          · rename_i hg
            obtain ⟨b1, b2, _, _⟩ := g.blt hg
            split at h
            · rename_i hp
              simp only [Bool.and_eq_true] at hp
              obtain ⟨hp, hn⟩ := hp
              simp only [Option.map_eq_some_iff] at h
              obtain ⟨fl, e1, rfl⟩ := h
              have pa := A.l c 0 args fl e1 E X g
              have hl := cL_len n c 0 args fl e1
              match args, pa, hl, hp, hn with
              | [a], pa, hl, hp, _ => exact I_rng1 g b1 b2 (by simpa [plainEs] using hp) pa fun n σ M ds M' q => hl n σ M ds M' q
              | [a, b], pa, hl, hp, _ =>
                have pp : plainE a = true ∧ plainE b = true := by simpa [plainEs] using hp
                exact I_rng2 g b1 b2 pp.1 pp.2 pa fun n σ M ds M' q => hl n σ M ds M' q
              | [], pa, hl, hp, hn => simp at hn
              | _ :: _ :: _ :: _, pa, hl, hp, hn => simp at hn
            · cases h
          · cases h
        · split at h
          · rename_i hf
            subst hf
            split at h
            · rename_i hg
              obtain ⟨b1, b2, _, _⟩ := g.blt hg
              split at h
              · rename_i hp
                simp only [Bool.and_eq_true, beq_iff_eq] at hp
                obtain ⟨⟨hp0, hp⟩, hn⟩ := hp
                simp only [Option.map_eq_some_iff] at h
                obtain ⟨fl, e1, rfl⟩ := h
                have pa := A.l c 0 args fl e1 E X g
                obtain ⟨es, kk, tp', rfl⟩ := tupE_of (htp.trans hp0)
                match args, pa, hp, hn with
                | [a], pa, hp, _ => exact I_enu g.K b1 b2 (star_cons _ (by simpa [plainEs] using hp)) pa
                | [], _, _, hn => simp at hn
                | _ :: _ :: _, _, _, hn => simp at hn
              · cases h
            · cases h
          · split at h
            · rename_i hf
              subst hf
              split at h
              · rename_i hg
                obtain ⟨b1, b2, _, _⟩ := g.blt hg
                split at h
                · rename_i hp
                  simp only [Bool.and_eq_true, beq_iff_eq] at hp
                  obtain ⟨⟨hp0, hp⟩, hn⟩ := hp
                  simp only [Option.map_eq_some_iff] at h
                  obtain ⟨fl, e1, rfl⟩ := h
                  have pa := A.l c 0 args fl e1 E X g
                  obtain ⟨es, kk, tp', rfl⟩ := tupE_of (htp.trans hp0)
                  match args, pa, hp, hn with
                  | [a, b], pa, hp, _ =>
                    have pp : plainE a = true ∧ plainE b = true := by simpa [plainEs] using hp
                    exact I_zip g.K b1 b2 pa (star_cons _ pp.1) (star_any _ _ (by simp [plainEs, pp.2]))
                  | [], _, _, hn => simp at hn
                  | [_], _, _, hn => simp at hn
                  | _ :: _ :: _ :: _, _, _, hn => simp at hn
                · cases h
              · cases h
            · exact seq f h
      · exact seq f h
    · unfold cP at h
      split at h
      · cases h; exact ⟨pps_nil, rfl⟩
      · rename_i k1 ks1 v1 vs1
        split at h
        · rename_i a b r e1 e2 e3
          cases h
          obtain ⟨j1, j2⟩ := A.p c _ _ r e3 E X p g
          exact ⟨pps_cons (A.e c 0 _ a e1 E X g) (A.e c 0 _ b e2 E X g) j1, by simp [j2]⟩
        · cases h
      · cases h
end
end DL

namespace DL
open PySem PySem.Spec PyProof.Rows L2
section
variable {X : Cx} {C : Addr} {bmB : List Value} {B newId initId : String}
/-- X(), X an own error -/
theorem pmk0 {x : Str} {p pos : Pos} (F : ExcBaseFacts B newId initId bmB)
    (q : PySem.W.excIn X.K C bmB newId = true) (gC : X.mg x = some (.ref C))
    (kC : PySem.W.keepIn X.K (.ref C) = true) (r : Raises X (.ref C)) (hg : Gl X x)
    (hdb : (x == ("__debug__" : Str)) = false) :
    PMk X (.Call (.Name x p) [] [] pos) (fun _ H Q => Q (.ref C) none H) := by
  intro pins s σ H Q I h
  apply wpAny_Call_Name_kw
  refine ld_glob I hg gC ?_ hdb
  apply PySem.W.callWith_K0 I.kIn kC
  have w := exc_obj I.kIn q
  obtain ⟨bm, N, nm, qn, bs, hd, sn, sub, ab, col, dd, k0, k1, k2, k3, k5, mN, c1, c2, c3, c4⟩ := w
  refine wpAny_call_exc_subT F c4 c1 c2 c3 (fun h' e hm => ?_) (Nat.zero_le _)
  have gone := I.hok.gone hm.new
  exact mk_of I hm r h gone
end
/-! statements -/
def Ctx.md (c : Ctx) (x : Str) : Nat := (c.muts.lookup x).getD 0
/-- three names at once -/
def sPar3 (i j l : Nat) (r : SemL) : SemS := fun n σ M => (r n σ M).bind fun ds M1 => match ds with
  | [a, b, c] => if i < σ.length ∧ j < σ.length ∧ l < σ.length then .ok (.nx, ((σ.set i (some a)).set j (some b)).set l (some c)) M1 else .stuck
  | _ => .stuck
def sAug (i : Nat) (f : Int → Int → Int) (a : SemE) : SemS := fun n σ M => match σ[i]? with
  | some (some (.int x)) => (a n σ M).bind fun y M1 => match y with
    | .int z => .ok (.nx, σ.set i (some (.int (f x z)))) M1
    | _ => .stuck
  | _ => .stuck
/-- a comprehension given to a name that the machine keeps -/
def swapC (c : Ctx) (x : Str) (px : Pos) (scope : Scope) (pos : Pos) : Bool := (match c.kind x with | some .local => true | _ => false) && (px.line == pos.line) && !(scope.names.any fun (n, k) => n == x && (k == .local || k == .cell))
def localS (c : Ctx) (x : Str) : Bool := match c.kind x with
  | some .local => true
  | _ => false
mutual
/-- a target of a statement -/
def cTg (c : Ctx) : Nat → Expr → Option SemG
  | 0, _ => none
  | n + 1, e => match e with
    | .Name x _ => (c.put x).map gVar
    | .Tuple es _ _ => if plainEs es then (cTgs c n es).map fun g => gLen es.length g else none
    | .Subscript o (.Slice (some lo) none none _) _ => match cE n c 0 o, cE n c 0 lo with
      | some fo, some fl => some (gSlc fo fl)
      | _, _ => none
    | .Subscript o i _ => if ixE i then match cE n c 0 o, cE n c 0 i with
      | some fo, some fi => some (gSub fo fi)
      | _, _ => none else none
    | _ => none
def cTgs (c : Ctx) : Nat → List Expr → Option SemGs
  | 0, _ => none
  | n + 1, es => match es with
    | [] => some gNil
    | e :: es => if plainE e then match cTg c n e, cTgs c n es with
      | some g, some r => some (gCons g r)
      | _, _ => none else none
end
def allIn (c : Ctx) : Ctx := { c with vs := List.range c.N.length }
def tgMd (c : Ctx) : Expr → Nat
  | .Name x _ => c.md x
  | _ => 0
/-- the values of several targets, each as deep as its own name asks -/
def cLs (n : Nat) (c : Ctx) : List Expr → List Expr → Option SemL
  | [], [] => some lNil
  | t :: ts, e :: es => if plainE e then match cE n c (tgMd c t) e, cLs n c ts es with
    | some f, some r => some (lCons f r)
    | _, _ => none else none
  | _, _ => none
/-- a name that is the def's own alone -/
def locE (c : Ctx) : Expr → Bool
  | .Name x _ => localS c x
  | _ => false
/-- a statement that gives -/
def cAsg (n : Nat) (c : Ctx) (t e : Expr) : Option SemS := match t, e with
  | .Name x px, .ListComp elt gs scope pos => match c.put x, cE n c (c.md x) (.ListComp elt gs scope pos) with
    | some i, some f => some (sAsg f (gVar i))
    | _, _ => none
  | .Tuple ts _ _, .Tuple vs _ _ =>
    if !(ts.length == 2 || ts.length == 3) || vs.length != ts.length || ts.any (fun t => !locE c t) then
      (if plainEs ts then match cLs n c ts vs, cTgs c n ts with
        | some f, some g => some (sAsg (eApp mkTup f) (gLen ts.length g))
        | _, _ => none else none)
    else match ts, vs with
      | [.Name x px, .Name y py], [a, b] => if localS c x && localS c y && decide (py.line = px.line) && decide (x ≠ y) && plainE a && plainE b && !(foldedForSure 8 a && foldedForSure 8 b) && !(constantsAlone 8 a && constantsAlone 8 b) then
          match c.put x, c.put y, cLs n c ts vs with
          | some i, some j, some f => if i = j then none else some (sPar i j f)
          | _, _, _ => none else none
      | [.Name x px, .Name y py, .Name z pz], [a, b, d] => if localS c x && localS c y && localS c z && decide (py.line = px.line) && decide (pz.line = px.line) && decide (x ≠ y) && decide (x ≠ z) && decide (y ≠ z) && plainE a && plainE b && plainE d && !(foldedForSure 8 a && (foldedForSure 8 b && foldedForSure 8 d)) && !(constantsAlone 8 a && (constantsAlone 8 b && constantsAlone 8 d)) then
          match c.put x, c.put y, c.put z, cLs n c ts vs with
          | some i, some j, some l, some f => if i = j ∨ i = l ∨ j = l then none else some (sPar3 i j l f)
          | _, _, _, _ => none else none
      | _, _ => none
  | t, e => if calmE e && !isLstE t && !(isTupE t && isTupE e) && plainE t then match cE n c (tgMd c t) e, cTg c n t with
    | some f, some g => some (sAsg f g)
    | _, _ => none else none
def cRs (c : Ctx) (e cause : Option Expr) : Option SemS := match e, cause with
  | some (.Call (.Name x _) [] [] _), none => if c.blk then none else match c.g x with
      | some .exc => some (sRaise x)
      | _ => none
  | _, _ => none
mutual
def cS (c : Ctx) : Nat → Stmt → Option SemS
  | 0, _ => none
  | n + 1, s => match s with
    | .Expr e _ => if calmE e then (cE n c 0 e).map sDrop else none
    | .Return none _ => some sRetN
    | .Return (some e) _ => (cE n c c.ret e).map sRet
    | .Pass _ => some sPass
    | .Break _ => some sBreak
    | .Continue _ => some sCont
    | .If t a b _ => match cT n c t, cB c n a, cB c n b with
      | some f, some fa, some fb => some (sIf f fa fb)
      | _, _, _ => none
    | .For tg iter body [] _ => if noSet iter then match cI n c (isTupE tg) iter, cTg c n tg, cB c n body with
      | some fi, some g, some fb => some (sFor fi g fb)
      | _, _, _ => none else none
    | .While t body [] _ => match cT n c t, cB c n body with
      | some f, some fb => some (sWhile f fb)
      | _, _ => none
    | .Assign [t] e _ => cAsg n c t e
    | .AugAssign (.Name x _) op e _ => match c.put x, cE n c 0 e, op with
      | some i, some f, .Add => some (sAug i (fun a b => a + b) f)
      | some i, some f, .Sub => some (sAug i (fun a b => a - b) f)
      | _, _, _ => none
    | .Raise e cause _ => cRs c e cause
    | _ => none
def cB (c : Ctx) : Nat → List Stmt → Option SemS
  | 0, _ => none
  | n + 1, ss => match ss with
    | [] => some sNil
    | [s] => cS c n s
    | s :: s' :: ss => match cS c n s, cB c n (s' :: ss) with
      | some f, some r => some (sSeq f r)
      | _, _ => none
end
end DL

namespace DL
open PySem PySem.Spec PyProof.Rows L2
section
variable {O : Wo} {k : Nat} {c : Ctx} {E : XK} {X : Cx}
abbrev TS' (O : Wo) (E : XK) (f : SemS) : TS := Ts O.K (EKof O.C E) f
theorem S_par3 {st : Stmt} {i j l : Nat} {f : SemL} (h : PS X st (tPar3 i j l (Tl O.K (EKof O.C E) f))) : PS X st (TS' O E (sPar3 i j l f)) :=
  PS.to h fun Dn σ H ⟨n0, ι, M, σd, b, q⟩ => by
    refine ⟨n0, ι, M, σd, b, (Wp.bind q).mono fun ds ι1 M1 H1 p1 q1 vs hv => ?_⟩
    match ds, q1 with
    | [x, y, z], q1 =>
      simp only [VRs] at hv
      obtain ⟨v, r, rfl, h1, w, r2, rfl, h2, u, r3, rfl, h3, rfl⟩ := hv
      simp only at q1
      split at q1
      · exact ⟨v, w, u, rfl, q1 ι1 H1 (Post.refl p1.sh) _ ((((b.er.ext p1.ext).set h1 i).set h2 j).set h3 l)⟩
      · exact q1.elim
    | [], q1 => exact q1.elim
    | [_], q1 => exact q1.elim
    | [_, _], q1 => exact q1.elim
    | _ :: _ :: _ :: _ :: _, q1 => exact q1.elim
theorem S_aug {st : Stmt} {i : Nat} {f : SemE} {g : Int → Int → Int} (h : PS X st (tAug i (TE' O E f) (ipI g))) : PS X st (TS' O E (sAug i g f)) :=
  PS.to h fun Dn σ H ⟨n0, ι, M, σd, b, q⟩ => by
    unfold sAug at q
    split at q
    · rename_i x ex
      obtain ⟨v, e1, e2⟩ := b.er.2 i _ ex
      refine ⟨v, e1, n0, ι, M, σd, b, (Wp.bind q).mono fun y ι1 M1 H1 p1 q1 u hu => ?_⟩
      cases y with
      | int z => exact ⟨x, z, int_of e2, int_of hu, q1 ι1 H1 (Post.refl p1.sh) _ ((b.er.ext p1.ext).set vr_int i)⟩
      | _ => exact q1.elim
    · exact q.elim
theorem S_raise {x : Str} {p pos rpos : Pos} (g : Good O k c E X) (hb : c.blk = false) (hx : c.g x = some .exc) : PS X (.Raise (some (.Call (.Name x p) [] [] pos)) none rpos) (TS' O E (sRaise x)) := by
  obtain ⟨h1, h2, _, h3, h4, h5, h6, h7⟩ := g.gl hx
  refine PS.to (ps_raise g.calm (g.takes hb) (pmk0 PySem.F.excBase_ValueError (by rw [g.K]; exact h4) (by rw [g.mg]; exact h3) (by rw [g.K]; exact h5) (raises_own (by rw [g.K]; exact h6) (by rw [g.K]; exact h7)) h1 h2)) fun Dn σ H ⟨n0, ι, M, σd, b, q⟩ => ?_
  exact q ι H (Post.refl b.sh)
theorem assign_sub {o i : Expr} {p : Pos} (env : Env) (h : ixE i = true) (v : Value) : assign (.Subscript o i p) env v = (do
    let ov ← holding [v] (eval o env)
    let iv ← holding [v, ov] (eval i env)
    standAt p
    holding [v, ov, iv] (setItem ov iv v)
    release [v, ov, iv] []) := by
  cases i <;> first | rfl | cases h
theorem cTg_ok : ∀ n, (∀ (O : Wo) k c e g, cTg c n e = some g → ∀ E X, Good O k c E X → PG X e (Tg O.K (EKof O.C E) g)) ∧ (∀ (O : Wo) k c es g, cTgs c n es = some g → ∀ E X, Good O k c E X → PGs X es (Tgs O.K (EKof O.C E) g) ∧ plainEs es = true)
  | 0 => ⟨fun O k c e g h => by simp [cTg] at h, fun O k c es g h => by simp [cTgs] at h⟩
  | n + 1 => by
    obtain ⟨i1, i2⟩ := cTg_ok n
    refine ⟨fun O k c e g h E X hG => ?_, fun O k c es g h E X hG => ?_⟩
    · unfold cTg at h
      split at h
      · simp only [Option.map_eq_some_iff] at h
        obtain ⟨i, e1, rfl⟩ := h
        exact G_var (hG.put e1)
      · split at h
        · rename_i hp
          simp only [Option.map_eq_some_iff] at h
          obtain ⟨g, e1, rfl⟩ := h
          obtain ⟨j1, _⟩ := i2 O k c _ g e1 E X hG
          obtain ⟨a1, a2⟩ := assign_len X.env hp
          exact G_tup hG.calm hG.K j1 a1 a2
        · cases h
      · split at h
        · rename_i fo fl e1 e2
          cases h
          have A := every_ok O k n
          exact Tgw.weak (vs := []) (G_slc [] (A.e c 0 _ fo e1 E X hG) (A.e c 0 _ fl e2 E X hG))
        · cases h
      · split at h
        · rename_i hix
          split at h
          · rename_i fo fi e1 e2
            cases h
            have A := every_ok O k n
            have po := A.e c 0 _ fo e1 E X hG
            have pi := A.e c 0 _ fi e2 E X hG
            exact Tgw.weak (vs := []) (G_sub [] po pi (pg_sub po pi (pset_or set_list (set_dict (by have := hG.room.un; omega))) (assign_sub X.env hix)))
          · cases h
        · cases h
      · cases h
    · unfold cTgs at h
      split at h
      · cases h; exact ⟨G_nil, rfl⟩
      · split at h
        · rename_i hp
          split at h
          · rename_i g r e1 e2
            cases h
            obtain ⟨j1, j2⟩ := i2 O k c _ r e2 E X hG
            exact ⟨G_cons (i1 O k c _ g e1 E X hG) j1 (assign_cons X.env hp), by simp [plainEs, hp, j2]⟩
          · cases h
        · cases h
theorem cLs_ok {n : Nat} {c : Ctx} : ∀ {ts vs : List Expr} {f : SemL}, cLs n c ts vs = some f → ∀ (E : XK) (X : Cx), Good O k c E X → PA X vs (Tl O.K (EKof O.C E) f) ∧ plainEs vs = true
  | [], [], f, h, E, X, g => by unfold cLs at h; cases h; exact ⟨T_nil, rfl⟩
  | t :: ts, e :: es, f, h, E, X, g => by
    unfold cLs at h
    split at h
    · rename_i hp
      split at h
      · rename_i f1 r e1 e2
        cases h
        obtain ⟨j1, j2⟩ := cLs_ok e2 E X g
        exact ⟨T_cons ((every_ok O k n).e c _ e f1 e1 E X g) j1 (star_cons _ hp), by simp [plainEs, hp, j2]⟩
      · cases h
    · cases h
  | [], _ :: _, f, h, E, X, g => by unfold cLs at h; cases h
  | _ :: _, [], f, h, E, X, g => by unfold cLs at h; cases h
theorem Good.bk (g : Good O k c E X) : X.env.blockKind = .function := by
  unfold Env.blockKind
  rw [g.kind]
  rfl
theorem Good.loc (g : Good O k c E X) {x : Str} (h : localS c x = true) : X.env.kindOf x = some .local ∧ X.env.scope.names.lookup x = some .local := by
  have e : X.env.kindOf x = some .local := by
    rw [g.kindOf]
    unfold localS at h
    split at h
    · assumption
    · cases h
  exact ⟨e, e⟩
theorem asg_one {t e : Expr} {f : SemE} {gg : SemG} {p : Pos} (he : PE X e (TE' O E f)) (hg : PG X t (Tg O.K (EKof O.C E) gg)) (hs : swapsWithSole [t] e p.line X.env = pure false) (hw : swappedStores [t] e X.env = pure none) (ht : plainE t = true) : PS X (.Assign [t] e p) (TS' O E (sAsg f gg)) :=
  S_asg he hg hs hw (by rw [assign_cons X.env ht]; rfl)
theorem lc_asg {n : Nat} {x : Str} {px pos spos : Pos} {elt tg iter : Expr} {ifs : List Expr} {scope : Scope} {i : Nat} {f : SemE} {md : Nat} (g : Good O k c E X) (hi : c.put x = some i) (h : cE (n + 1) c md (.ListComp elt [⟨tg, iter, ifs, 0⟩] scope pos) = some f) :
    PS X (.Assign [.Name x px] (.ListComp elt [⟨tg, iter, ifs, 0⟩] scope pos) spos) (TS' O E (sAsg f (gVar i))) := by
  have A := every_ok O k n
  by_cases sw : swapC c x px scope pos = true
  · unfold swapC at sw
    simp only [Bool.and_eq_true, Bool.not_eq_true'] at sw
    obtain ⟨⟨s1, s2⟩, s3⟩ := sw
    obtain ⟨l1, l2⟩ := g.loc (x := x) (by unfold localS; exact s1)
    have hsw : swapsWith (.ListComp elt [⟨tg, iter, ifs, 0⟩] scope pos) (some (.Name x px)) spos.line X.env = pure true := sw_true g.kind l2 s2 s3
    simp only [cE] at h
    split at h
    · rename_i hc
      simp only [Bool.and_eq_true] at hc
      obtain ⟨c1, c2⟩ := hc
      have hs : scope.kind = .function := (g.blkOk c2).kind
      have hu := (g.blkOk c2).uniq
      split at h
      · rename_i fi gg tt te e1 e2 e3 e4
        cases h
        have hN : X.N[i]? = some x := by
          rw [g.N]
          unfold Ctx.put at hi
          split at hi
          · exact ixOf_get hi
          · split at hi
            · cases hi
            · exact ixOf_get hi
          · cases hi
        refine PS.to (ps_setLc g.calm (by rw [g.N]; exact g.nd) hN l2 hsw (A.i c _ iter fi e1 E X tg rfl g) (g.blkOk c2)
          (fun s H C cl fp => (cG_ok n).1 O k (c.inner scope) tg gg e2 L2.E0 _ (g.inner hs hu s H C cl fp))
          (fun s H C cl fp => A.f (c.inner scope) ifs tt e3 L2.E0 _ (g.inner hs hu s H C cl fp))
          (fun s H C cl fp => A.e (c.inner scope) (md - 1) elt te e4 L2.E0 _ (g.inner hs hu s H C cl fp)) (folded_ok X.env c1)) fun Dn σ H q => ?_
        have r : TE' O E (eLc (pm md) (decide (2 ≤ md)) (c.inner scope).vs fi gg tt te) σ H (fun v H1 => Dn.nx (σ.set i (some v)) H1) := by
          obtain ⟨n0, ι, M, σd, b, q⟩ := q
          refine ⟨n0, ι, M, σd, b, (Wp.bind q).mono fun d ι1 M1 H1 p1 q1 v hv => ?_⟩
          have q2 := Wp.bind q1
          unfold gVar at q2
          split at q2
          · exact (q2 ι1 H1 (Post.refl p1.sh)) ι1 H1 (Post.refl p1.sh) _ ((b.er.ext p1.ext).set hv i)
          · exact q2.elim
        exact lc_read (pm md) (decide (2 ≤ md)) r
      · cases h
    · cases h
  · have he := lcomp_ok A h E X g
    refine asg_one he (G_var (g.put hi)) ?_ rfl rfl
    show swapsWith (.ListComp elt [⟨tg, iter, ifs, 0⟩] scope pos) (some (.Name x px)) spos.line X.env = pure false
    have e : (X.env.blockKind == .function && X.env.kindOf x == some .local && px.line == pos.line && !(scope.names.any fun (n, k) => n == x && (k == .local || k == .cell))) = false := by
      rw [g.bk, g.kindOf]
      unfold swapC at sw
      cases hk : c.kind x with
      | none => rfl
      | some kk =>
        rw [hk] at sw
        generalize (scope.names.any fun (n, k) => n == x && (k == .local || k == .cell)) = B at sw ⊢
        generalize (px.line == pos.line) = L at sw ⊢
        revert sw
        cases kk <;> cases L <;> cases B <;> decide
    unfold swapsWith
    show (pure _ : Sem Bool) = pure false
    exact congrArg pure e
theorem par2 {x y : Str} {a b : Expr} {px py pt pt2 pos : Pos} {kt k2 : Nat} {i j : Nat} {f : SemL} (g : Good O k c E X) (hx : localS c x = true) (hy : localS c y = true) (hl : py.line = px.line) (hxy : x ≠ y) (ha : plainE a = true) (hb : plainE b = true)
    (hf : (foldedForSure 8 a && foldedForSure 8 b) = false) (hc : (constantsAlone 8 a && constantsAlone 8 b) = false) (hi : c.put x = some i) (hj : c.put y = some j) (hij : i ≠ j) (h : PA X [a, b] (Tl O.K (EKof O.C E) f)) :
    PS X (.Assign [.Tuple [.Name x px, .Name y py] kt pt] (.Tuple [a, b] k2 pt2) pos) (TS' O E (sPar i j f)) := by
  have gn : ∀ {z : Str} {n : Nat}, c.put z = some n → X.N[n]? = some z := fun {z n} q => by
    rw [g.N]
    unfold Ctx.put at q
    split at q
    · exact ixOf_get q
    · split at q
      · cases q
      · exact ixOf_get q
    · cases q
  obtain ⟨l1, l2⟩ := g.loc hx
  obtain ⟨l3, l4⟩ := g.loc hy
  exact S_par (ps_par g.calm (by rw [g.N]; exact g.nd) (gn hi) (gn hj) hij l2 l4 h (stores_some X.env g.bk l1 l3 hl hxy ha hb hf hc) rfl)
theorem par3 {x y z : Str} {a b d : Expr} {px py pz pt pt2 pos : Pos} {kt k2 : Nat} {i j l : Nat} {f : SemL} (g : Good O k c E X) (hx : localS c x = true) (hy : localS c y = true) (hz : localS c z = true) (hl : py.line = px.line) (hl2 : pz.line = px.line) (hxy : x ≠ y) (hxz : x ≠ z) (hyz : y ≠ z)
    (ha : plainE a = true) (hb : plainE b = true) (hd : plainE d = true) (hf : (foldedForSure 8 a && (foldedForSure 8 b && foldedForSure 8 d)) = false) (hc : (constantsAlone 8 a && (constantsAlone 8 b && constantsAlone 8 d)) = false)
    (hi : c.put x = some i) (hj : c.put y = some j) (hk : c.put z = some l) (hij : i ≠ j) (hil : i ≠ l) (hjl : j ≠ l) (h : PA X [a, b, d] (Tl O.K (EKof O.C E) f)) :
    PS X (.Assign [.Tuple [.Name x px, .Name y py, .Name z pz] kt pt] (.Tuple [a, b, d] k2 pt2) pos) (TS' O E (sPar3 i j l f)) := by
  have gn : ∀ {z : Str} {n : Nat}, c.put z = some n → X.N[n]? = some z := fun {z n} q => by
    rw [g.N]
    unfold Ctx.put at q
    split at q
    · exact ixOf_get q
    · split at q
      · cases q
      · exact ixOf_get q
    · cases q
  obtain ⟨l1, l2⟩ := g.loc hx
  obtain ⟨l3, l4⟩ := g.loc hy
  obtain ⟨l5, l6⟩ := g.loc hz
  exact S_par3 (ps_par3 g.calm (by rw [g.N]; exact g.nd) (gn hi) (gn hj) (gn hk) hij hil hjl l2 l4 l6 h (stores_some3 X.env g.bk l1 l3 l5 hl hl2 hxy hxz hyz ha hb hd hf hc) rfl)
theorem asg_any {n : Nat} {t e : Expr} {p : Pos} {r : SemS} (g : Good O k c E X) (h : (if calmE e && !isLstE t && !(isTupE t && isTupE e) && plainE t then match cE n c (tgMd c t) e, cTg c n t with
    | some f, some g => some (sAsg f g)
    | _, _ => none else none) = some r) : PS X (.Assign [t] e p) (TS' O E r) := by
  split at h
  · rename_i hc
    simp only [Bool.and_eq_true, Bool.not_eq_true', Bool.and_eq_false_iff] at hc
    obtain ⟨⟨⟨c1, c2⟩, c3⟩, c4⟩ := hc
    split at h
    · rename_i f gg e1 e2
      cases h
      refine asg_one ((every_ok O k n).e c _ e f e1 E X g) ((cTg_ok n).1 O k c t gg e2 E X g) (swaps_sole _ _ c1) (stores_none _ ?_) c4
      rcases c3 with c3 | c3
      · exact .inl (by rw [c3, c2]; rfl)
      · exact .inr c3
    · cases h
  · cases h
theorem cAsg_ok {n : Nat} {t e : Expr} {p : Pos} {r : SemS} (h : cAsg n c t e = some r) (g : Good O k c E X) : PS X (.Assign [t] e p) (TS' O E r) := by
  unfold cAsg at h
  split at h
  · rename_i x px elt gs scope pos
    split at h
    · rename_i i f e1 e2
      cases h
      cases n with
      | zero => simp [cE] at e2
      | succ n =>
        match gs, e2 with
        | [⟨tg, iter, ifs, a⟩], e2 =>
          by_cases ha : a = 0
          · subst ha; exact lc_asg g e1 e2
          · simp [cE, ha] at e2
        | [], e2 => simp [cE] at e2
        | _ :: _ :: _, e2 => simp [cE] at e2
    · cases h
  · rename_i ts k1 p1 vs k2 p2
    split at h
    · rename_i hc
      split at h
      · rename_i hp
        split at h
        · rename_i f gg e1 e2
          cases h
          obtain ⟨j1, j2⟩ := cLs_ok (k := k) e1 E X g
          obtain ⟨j3, _⟩ := (cTg_ok n).2 O k c ts gg e2 E X g
          obtain ⟨a1, a2⟩ := assign_len X.env hp
          exact asg_one (T_tup j1) (G_tup g.calm g.K j3 a1 a2) (swaps_sole _ _ rfl) (stores_none2 _ (locE c) (fun x p z => by rw [g.kindOf]; intro w; simp [locE, localS, w] at z) hc j2) rfl
        · cases h
      · cases h
    · split at h
      · rename_i x px y py a b hcc
        split at h
        · rename_i hc
          simp only [Bool.and_eq_true, Bool.not_eq_true', decide_eq_true_eq] at hc
          obtain ⟨⟨⟨⟨⟨⟨⟨c1, c2⟩, c3⟩, c4⟩, c5⟩, c6⟩, c7⟩, c8⟩ := hc
          split at h
          · rename_i i j f e1 e2 e3
            split at h
            · cases h
            · rename_i hij
              cases h
              exact par2 g c1 c2 c3 c4 c5 c6 c7 c8 e1 e2 hij (cLs_ok e3 E X g).1
          · cases h
        · cases h
      · rename_i x px y py z pz a b d hcc
        split at h
        · rename_i hc
          simp only [Bool.and_eq_true, Bool.not_eq_true', decide_eq_true_eq] at hc
          obtain ⟨⟨⟨⟨⟨⟨⟨⟨⟨⟨⟨⟨c1, c2⟩, c3⟩, c4⟩, c5⟩, c6⟩, c7⟩, c8⟩, c9⟩, c10⟩, c11⟩, c12⟩, c13⟩ := hc
          split at h
          · rename_i i j l f e1 e2 e3 e4
            split at h
            · cases h
            · rename_i hij
              simp only [not_or] at hij
              cases h
              exact par3 g c1 c2 c3 c4 c5 c6 c7 c8 c9 c10 c11 c12 c13 e1 e2 e3 hij.1 hij.2.1 hij.2.2 (cLs_ok e4 E X g).1
          · cases h
        · cases h
      · cases h
  · exact asg_any g h
theorem put_N (g : Good O k c E X) {z : Str} {n : Nat} (q : c.put z = some n) : X.N[n]? = some z ∧ Loc X.env.scope z ∧ (X.fn z = true ∨ X.env.scope.names.lookup z = some .local) := by
  have lk : X.env.scope.names.lookup z = c.kind z := by unfold Ctx.kind; rw [g.names]
  rw [g.N]
  unfold Ctx.put at q
  split at q
  · rename_i hk
    exact ⟨ixOf_get q, .inl (by rw [lk]; exact hk), .inr (by rw [lk]; exact hk)⟩
  · rename_i hk
    split at q
    · cases q
    · rename_i hb
      have hf : X.fn z = true := by
        by_cases r : c.blk = false
        · exact g.fn r z
        · refine g.cel z ?_
          simp only [Bool.and_eq_true, Bool.not_eq_true', not_and, Bool.not_eq_false] at hb
          have := hb (by simpa using r)
          simpa using this
      exact ⟨ixOf_get q, .inr (by rw [lk]; exact hk), .inl hf⟩
  · cases q
theorem cS_ok : ∀ n, (∀ (O : Wo) k c s f, cS c n s = some f → ∀ E X, Good O k c E X → PS X s (TS' O E f)) ∧ (∀ (O : Wo) k c ss f, cB c n ss = some f → ∀ E X, Good O k c E X → PSs X ss (TS' O E f))
  | 0 => ⟨fun O k c s f h => by simp [cS] at h, fun O k c ss f h => by simp [cB] at h⟩
  | n + 1 => by
    obtain ⟨i1, i2⟩ := cS_ok n
    refine ⟨fun O k c s f h E X g => ?_, fun O k c ss f h E X g => ?_⟩
    · have A := every_ok O k n
      cases s with
      | Expr e p =>
        simp only [cS] at h
        split at h
        · rename_i hc
          simp only [Option.map_eq_some_iff] at h
          obtain ⟨r, e1, rfl⟩ := h
          exact S_expr (A.e c 0 e r e1 E X g) (swaps_no _ _ _ hc)
        · cases h
      | Return e p =>
        cases e with
        | none => simp only [cS] at h; cases h; exact S_retN
        | some e =>
          simp only [cS, Option.map_eq_some_iff] at h
          obtain ⟨r, e1, rfl⟩ := h
          exact S_ret (A.e c _ e r e1 E X g)
      | Pass p => simp only [cS] at h; cases h; exact S_pass
      | Break p => simp only [cS] at h; cases h; exact S_break
      | Continue p => simp only [cS] at h; cases h; exact S_cont
      | If t a b p =>
        simp only [cS] at h
        split at h
        · rename_i f1 fa fb e1 e2 e3
          cases h
          exact S_if (A.t c t f1 e1 E X g) (i2 O k c a fa e2 E X g) (i2 O k c b fb e3 E X g)
        · cases h
      | For tg iter body els p =>
        cases els with
        | cons _ _ => simp [cS] at h
        | nil =>
          simp only [cS] at h
          split at h
          · rename_i hs
            split at h
            · rename_i fi gg fb e1 e2 e3
              cases h
              exact S_for g.own g.calm (A.i c _ iter fi e1 E X tg rfl g) ((cTg_ok n).1 O k c tg gg e2 E X g) (i2 O k c body fb e3 E X g) (folded_ok X.env hs)
            · cases h
          · cases h
      | While t body els p =>
        cases els with
        | cons _ _ => simp [cS] at h
        | nil =>
          simp only [cS] at h
          split at h
          · rename_i f1 fb e1 e2
            cases h
            exact S_while g.own (A.t c t f1 e1 E X g) (i2 O k c body fb e2 E X g)
          · cases h
      | Assign ts e p =>
        match ts, h with
        | [t], h => simp only [cS] at h; exact cAsg_ok h g
        | [], h => simp [cS] at h
        | _ :: _ :: _, h => simp [cS] at h
      | AugAssign t op e p =>
        cases t with
        | Name x px =>
          simp only [cS] at h
          split at h
          · rename_i i f1 e1 e2
            cases h
            obtain ⟨q1, q2, q3⟩ := put_N g e1
            exact S_aug (ps_aug (by rw [g.N]; exact g.nd) q1 q2 (A.e c 0 e f1 e2 E X g) ip_add q3)
          · rename_i i f1 e1 e2
            cases h
            obtain ⟨q1, q2, q3⟩ := put_N g e1
            exact S_aug (ps_aug (by rw [g.N]; exact g.nd) q1 q2 (A.e c 0 e f1 e2 E X g) ip_sub q3)
          · cases h
        | _ => simp [cS] at h
      | Raise e cause p =>
        simp only [cS] at h
        unfold cRs at h
        split at h
        · split at h
          · cases h
          · rename_i hb
            split at h
            · rename_i hx
              cases h
              exact S_raise g (by simpa using hb) hx
            · cases h
        · cases h
      | _ => simp [cS] at h
    · simp only [cB] at h
      split at h
      · cases h; exact S_nil
      · exact S_one (i1 O k c _ f h E X g)
      · split at h
        · rename_i f1 r e1 e2
          cases h
          exact S_cons (i1 O k c _ f1 e1 E X g) (i2 O k c _ r e2 E X g)
        · cases h
end
end DL

namespace DL
open PySem PySem.Spec PyProof.Rows L2
/-- how a def is read -/
def ctxOf (st : Stmt) (N : List Str) (glob : List (Str × G)) (muts : List (Str × Nat)) (ret : Nat) : Ctx := ⟨N, (defScope st).names, false, glob, muts, ret, [], []⟩
def Ready (O : Wo) (k : Nat) (glob : List (Str × G)) : Prop := ∀ x g, glob.lookup x = some g → GFact O k x g
theorem GFact.mono {O : Wo} {j k : Nat} {x : Str} {g : G} (h : GFact O j x g) (hk : j ≤ k) : GFact O k x g := by
  cases g with
  | fn F np =>
    obtain ⟨f, fd, ps, h1, h2, h3, h4, h5, h6⟩ := h
    exact ⟨f, fd, ps, h1, h2, h3, h4.mono hk, h5, h6⟩
  | _ => exact h
theorem Ready.mono {O : Wo} {j k : Nat} {glob : List (Str × G)} (h : Ready O j glob) (hk : j ≤ k) : Ready O k glob := fun x g e => (h x g e).mono hk
theorem Ready.cons {O : Wo} {k : Nat} {glob : List (Str × G)} {x : Str} {g : G} (h : GFact O k x g) (hr : Ready O k glob) : Ready O k ((x, g) :: glob) := fun y g' e => by
  rw [List.lookup_cons] at e
  split at e
  · rename_i q
    cases e
    rw [eq_of_beq q]; exact h
  · exact hr y g' e
theorem Ready.nil {O : Wo} {k : Nat} : Ready O k [] := fun _ _ e => by simp at e
/-- a def stands in the written part -/
def FnAt (K : PySem.W.Frag) (mg : Str → Option Value) (x : Str) (st : Stmt) (ps : List Str) : Prop := ∃ f fd, mg x = some (.ref f) ∧ Fun K x x st f fd ∧ ∀ us : List Value, us.length = ps.length → bindArgs fd ⟨us, []⟩ = pure (ps.zip us)
/-- the checks of a def that its text answers -/
def scopeB (N ps : List Str) (sc : Scope) : Bool := (match sc.kind with | .function => true | _ => false) && !sc.isCoroutine && !sc.isGenerator && decide (N.Nodup) && decide (N.take ps.length = ps) &&
  (ps.all fun x => decide (sc.names.lookup x = some .local) || decide (sc.names.lookup x = some .cell)) && (sc.names.all fun y => match y.2 with | .free => false | _ => true)
theorem scope_of {N ps : List Str} {sc : Scope} (h : scopeB N ps sc = true) : FnScope N ps sc := by
  unfold scopeB at h
  simp only [Bool.and_eq_true, Bool.not_eq_true', decide_eq_true_eq, List.all_eq_true, Bool.or_eq_true] at h
  obtain ⟨⟨⟨⟨⟨⟨h1, h2⟩, h3⟩, h4⟩, h5⟩, h6⟩, h7⟩ := h
  refine ⟨?_, h2, h3, h4, h5, h6, fun y hy e => ?_⟩
  · revert h1
    cases sc.kind <;> simp
  · have := h7 y hy
    rw [e] at this; cases this
theorem def_ok {O : Wo} {k n : Nat} {x : Str} {st : Stmt} {f : Addr} {fd : FuncData} {N ps : List Str} {glob : List (Str × G)} {muts : List (Str × Nat)} {ret : Nat} {gc : Bool} {fb : SemS} (Fn : Fun O.K x x st f fd) (hs : scopeB N ps (defScope st) = true)
    (hr : Ready O k glob) (hc : cB (ctxOf st N glob muts ret) n (defBody st) = some fb) : FnG O.P O.w O.K O.mg O.base (k + 1) f fd ps (spD O.K O.C ps.length (runF gc N.length ps.length fb)) := by
  have S := scope_of hs
  refine fn_ok Fn S fun cdv A outer s H E hg room => ?_
  refine (cS_ok n).2 O k (ctxOf st N glob muts ret) _ fb hc E _ ?_
  have tk : L2.Takes (cxOf (L2.CX O.P O.w) O.P O.w O.K O.mg O.base N x (defScope st) f cdv A outer s H E) (fun cls d _ H => E cls d H) := takes_of rfl rfl rfl rfl
  exact { prog := rfl, w := rfl, K := rfl, mg := rfl, base := rfl, N := rfl, nd := S.nd, kind := S.kind, names := rfl, fn := fun _ _ => rfl, calm := rfl, room := room, own := passes_of rfl, pass := passes_call tk fun _ _ _ _ h => h, glob := hr, takes := fun _ => tk, grd := hg, cel := fun x hx => by cases hx }
/-- one more def -/
theorem ready_fn {O : Wo} {k n : Nat} {x : Str} {st : Stmt} {N ps : List Str} {glob : List (Str × G)} {muts : List (Str × Nat)} {ret : Nat} {gc : Bool} {fb : SemS} {F : DFun} (A : FnAt O.K O.mg x st ps) (hs : scopeB N ps (defScope st) = true) (hr : Ready O k glob)
    (hc : cB (ctxOf st N glob muts ret) n (defBody st) = some fb) (hF : F = runF gc N.length ps.length fb) : Ready O (k + 1) ((x, .fn F ps.length) :: glob) := by
  obtain ⟨f, fd, h1, h2, h3⟩ := A
  subst hF
  exact Ready.cons ⟨f, fd, ps, h1, h2.kp, rfl, def_ok h2 hs hr hc, Binds.all h3, fun ds M h => runF_len ds M h⟩ (hr.mono (Nat.le_succ k))
theorem fnAt_mk {K : PySem.W.Frag} {mg : Str → Option Value} {h : Heap} {x : Str} {st : Stmt} {ps : List Str} {f : Addr} {oc : Value} {od an : Option Addr} {osl : Array (Option Value)} {kV doc pm cdv ct : Value} (X : K.In h) (G : h.Ns mainGlobals mg)
    (a : PySem.W.nsIn K mainGlobals x = some (some (.ref f))) (l : K.lookup f = some ⟨oc, od, .func (PySem.W.fnOf x x (defArgs st) (defBody st) (defScope st) .none kV doc pm an cdv ct), osl⟩) (c : PySem.W.codeIn K cdv x = true) (k : PySem.W.keepIn K (.ref f) = true)
    (hb : ∀ (kV doc pm : Value) (an : Option Addr) (cdv ct : Value) (us : List Value), us.length = ps.length → bindArgs (PySem.W.fnOf x x (defArgs st) (defBody st) (defScope st) .none kV doc pm an cdv ct) ⟨us, []⟩ = pure (ps.zip us)) : FnAt K mg x st ps :=
  ⟨f, _, PySem.W.mg_of X G a, fun_mk l c k, fun us hl => hb _ _ _ _ _ _ us hl⟩
end DL

namespace DL
open PySem PySem.Spec PyProof.Rows L2
theorem law_imp {O : Wo} {k : Nat} {f : Addr} {fd : FuncData} {ps : List Str} {F : DFun} (h : FnG O.P O.w O.K O.mg O.base k f fd ps (spD O.K O.C 1 F))
    (hl : ∀ ns : List Int, ns.length ≤ 63 → ∃ M, F [.ro (ns.map .int)] [] = .ok (.bl true) M) : FnG O.P O.w O.K O.mg O.base k f fd ps (spLaw O.K) :=
  h.imp fun vs H Q E ⟨a, ns, e, hs, hn, ho, q⟩ => by
    subst e
    obtain ⟨M, hM⟩ := hl ns hn
    refine ⟨rfl, [], [], [.ro (ns.map .int)], ⟨List.nodup_nil, rfl, fun n ob b e => by simp at e⟩, ?_, ?_⟩
    · simp only [VRs, VR]
      refine ⟨_, _, rfl, ⟨a, _, rfl, ?_, vrs_ints ns⟩, rfl⟩
      rcases hs with hs | hs
      · exact .inr ⟨hs, by simp⟩
      · exact .inl (.inr hs)
    · rw [hM]
      intro ι' H' p v hv
      rw [bl_of hv]
      exact q H'
/-- the law's own def, at the end of the chain -/
theorem law_end {P : Program} {w : World} {K : PySem.W.Frag} {mg : Str → Option Value} {C : Str → Addr} {k n : Nat} {st : Stmt} {N : List Str} {glob : List (Str × G)} {muts : List (Str × Nat)} {fb : SemS} {x y : Str} {fa : Addr}
    (hfa : mg y = some (.ref fa)) (A : FnAt K mg y st [x]) (hs : scopeB N [x] (defScope st) = true) (hr : ∀ base, Ready ⟨P, w, K, mg, base, C⟩ k glob)
    (hc : cB (ctxOf st N glob muts 0) n (defBody st) = some fb) (hl : ∀ ns : List Int, ns.length ≤ 63 → ∃ M, runF true N.length 1 fb [.ro (ns.map .int)] [] = .ok (.bl true) M) :
    ∃ fd : FuncData, (∀ (s : Shared) (u : Value), BindsTo s fd ⟨[u], []⟩ [(x, u)]) ∧ ∀ base : Heap, K.In base → base.Ns mainGlobals mg → FnG P w K mg base (k + 1) fa fd [x] (spLaw K) := by
  obtain ⟨f, fd, h1, h2, h3⟩ := A
  rw [hfa] at h1
  cases h1
  exact ⟨fd, fun s u => .of_eq (h3 [u] rfl), fun base _ _ => law_imp (O := ⟨P, w, K, mg, base, C⟩) (def_ok h2 hs (hr base) hc) hl⟩
theorem gf_blt {O : Wo} {k : Nat} {x : Str} {h : Heap} (X : O.K.In h) (G' : h.Ns mainGlobals O.mg) (z : PySem.W.nsIn O.K mainGlobals x = some none) : GFact O k x .blt := PySem.W.mg_none_of X G' z
theorem gf_int {O : Wo} {k : Nat} {x : Str} {h : Heap} {i : Int} {t : Tok} (X : O.K.In h) (G' : h.Ns mainGlobals O.mg) (z : PySem.W.nsIn O.K mainGlobals x = some (some (.int i t))) : GFact O k x (.cst (.int i)) :=
  ⟨.int i, .int i t, PySem.W.mg_of X G' z, ⟨t, rfl⟩, fun _ _ => vr_int⟩
theorem vr_ints {K : PySem.W.Frag} {ι : Io} {H : Hp} : ∀ ns : List Int, VRs K ι H (ns.map .int) (ns.map V.int)
  | [] => by simp only [List.map_nil, VRs]
  | n :: ns => by simp only [List.map_cons, VRs]; exact ⟨_, _, rfl, by simp only [VR], vr_ints ns⟩
theorem gf_tup {O : Wo} {k : Nat} {x : Str} {h : Heap} {a : Addr} {dd : Option Addr} {its : Array Value} {n : Nat} {sl : Array (Option Value)} (ns : List Int) (X : O.K.In h) (G' : h.Ns mainGlobals O.mg) (z : PySem.W.nsIn O.K mainGlobals x = some (some (.ref a)))
    (hl : O.K.lookup a = some { cls := .type "tuple", dict := dd, data := .seq its n, slots := sl }) (hz : its.size ≤ sizeLine) (hv : Vals (ns.map V.int) its.toList) : GFact O k x (.cst (.tup (ns.map .int))) :=
  ⟨.ref a, .ref a, PySem.W.mg_of X G' z, rfl, fun _ _ => by
    simp only [VR]
    exact ⟨a, ns.map V.int, rfl, .inl (.inr ⟨_, its, n, hl, rfl, rfl, hz, hv⟩), vr_ints ns⟩⟩
theorem gf_exc {O : Wo} {k : Nat} {x : Str} {h : Heap} {c : Addr} (X : O.K.In h) (G' : h.Ns mainGlobals O.mg) (e : O.C x = c) (z : PySem.W.nsIn O.K mainGlobals x = some (some (.ref c)))
    (h1 : PySem.W.excIn O.K c [.type "ValueError", .type "Exception", .type "BaseException", .type "object"] "ValueError.__new__" = true) (h2 : PySem.W.keepIn O.K (.ref c) = true) (h3 : PySem.W.subIn O.K (.ref c) (.type "BaseException") = some true) (h4 : PySem.W.typeIn O.K (.ref c) = some (.type "type")) : GFact O k x .exc := by
  subst e
  exact ⟨PySem.W.mg_of X G' z, h1, h2, h3, h4⟩
end DL

namespace DL
/-! ### what a run over data gives -/
inductive Ok {α : Type} (r : Res α) (P : α → Hep → Prop) : Prop where
  | mk (a : α) (M : Hep) (e : r = .ok a M) (p : P a M)
section
variable {α β : Type} {P Q : α → Hep → Prop} {M : Hep}
theorem Ok.here {a : α} (h : P a M) : Ok (.ok a M) P := ⟨a, M, rfl, h⟩
theorem Ok.there {a : α} (h : Ok (.ok a M) P) : P a M := by
  obtain ⟨_, _, e, p⟩ := h
  cases e; exact p
@[simp] theorem ok_ok {a : α} : Ok (.ok a M) P ↔ P a M := ⟨Ok.there, Ok.here⟩
@[simp] theorem ok_err {c : PySem.Str} : Ok (.err c M : Res α) P ↔ False := ⟨fun h => (by obtain ⟨_, _, e, _⟩ := h; cases e), False.elim⟩
@[simp] theorem ok_stuck : Ok (.stuck : Res α) P ↔ False := ⟨fun h => (by obtain ⟨_, _, e, _⟩ := h; cases e), False.elim⟩
@[simp] theorem ok_bind {r : Res β} {f : β → Hep → Res α} : Ok (r.bind f) P ↔ Ok r fun a M => Ok (f a M) P := by
  cases r with
  | ok a M => exact ⟨fun h => .here h, fun h => h.there⟩
  | err c M => exact ⟨fun h => (by obtain ⟨_, _, e, _⟩ := h; cases e), fun h => (by obtain ⟨_, _, e, _⟩ := h; cases e)⟩
  | stuck => exact ⟨fun h => (by obtain ⟨_, _, e, _⟩ := h; cases e), fun h => (by obtain ⟨_, _, e, _⟩ := h; cases e)⟩
theorem Ok.mono {r : Res α} (h : Ok r P) (hk : ∀ a M, P a M → Q a M) : Ok r Q := by
  obtain ⟨a, M, e, p⟩ := h
  exact ⟨a, M, e, hk a M p⟩
theorem ok_iff {r : Res α} : Ok r P ↔ ∃ a M, r = .ok a M ∧ P a M := ⟨fun ⟨a, M, e, p⟩ => ⟨a, M, e, p⟩, fun ⟨a, M, e, p⟩ => ⟨a, M, e, p⟩⟩
theorem Ok.eq {r : Res α} {a : α} (h : r = .ok a M) (p : P a M) : Ok r P := ⟨a, M, h, p⟩
@[simp] theorem ok_safe {r : Res α} : Ok r.safe P ↔ Ok r P := by cases r <;> simp [Res.safe]
@[simp] theorem bind_ok' {a : α} {f : α → Hep → Res β} : (Res.ok a M).bind f = f a M := rfl
@[simp] theorem bind_err' {c : PySem.Str} {f : α → Hep → Res β} : (Res.err c M : Res α).bind f = .err c M := rfl
@[simp] theorem bind_stuck' {f : α → Hep → Res β} : (Res.stuck : Res α).bind f = .stuck := rfl
end
/-- a loop over items -/
theorem ok_forL {g : SemG} {b : SemS} {it : Itm} {n1 n0 : Nat} {P : Fl × Sl → Hep → Prop} (Inv : Nat → Sl → Hep → Prop) :
    ∀ (ds : List D) (k : Nat) (σ : Sl) (M : Hep), Inv k σ M →
    (∀ i d σ M, ds[i]? = some d → Inv (k + i) σ M → it.chk M = true ∧ Ok (g n0 d σ M) fun σ1 M1 => Ok (b n0 σ1 M1) fun p M2 => (p.1 = .nx ∨ p.1 = .ct) ∧ ∃ σ3 M3, settle n0 n1 p.2 M2 = some (σ3, M3) ∧ Inv (k + i + 1) σ3 M3) →
    (∀ σ M, Inv (k + ds.length) σ M → it.chk M = true ∧ P (.nx, σ) M) → Ok (forL g b it n1 n0 ds σ M) P
  | [], k, σ, M, h0, hs, he => by
    obtain ⟨h1, h2⟩ := he σ M h0
    unfold forL
    rw [if_pos h1]
    exact .here h2
  | d :: ds, k, σ, M, h0, hs, he => by
    obtain ⟨h1, h2⟩ := hs 0 d σ M rfl h0
    unfold forL
    rw [if_pos h1, ok_bind]
    refine h2.mono fun σ1 M1 q => ?_
    rw [ok_bind]
    refine q.mono fun p M2 ⟨q1, σ3, M3, q2, q3⟩ => ?_
    have rest : Ok (forL g b it n1 n0 ds σ3 M3) P := ok_forL Inv ds (k + 1) σ3 M3 q3
      (fun i d σ M e iv => by
        have := hs (i + 1) d σ M (by simpa using e) (by rw [show k + (i + 1) = k + 1 + i by omega]; exact iv)
        rw [show k + (i + 1) = k + 1 + i by omega] at this
        exact this)
      (fun σ M iv => he σ M (by rw [List.length_cons, show k + (ds.length + 1) = k + 1 + ds.length by omega]; exact iv))
    rcases q1 with q1 | q1
    · rw [q1]; simp only [q2]; exact rest
    · rw [q1]; simp only [q2]; exact rest
/-! ### what holds no number of a list is as it is -/
mutual
theorem frzD_low {look : Nat → Option D} {n : Nat} (hl : ∀ m, m < n → look m = some (.ref m)) : ∀ d : D, d.low n = true → frzD look d = some d
  | .non, _ => by simp [frzD]
  | .bl _, _ => by simp [frzD]
  | .int _, _ => by simp [frzD]
  | .str _, _ => by simp [frzD]
  | .ty _, _ => by simp [frzD]
  | .ref m, h => by simp only [D.low, decide_eq_true_eq] at h; simp [frzD, hl m h]
  | .tup ds, h => by simp only [D.low] at h; simp [frzD, frzDs_low hl ds h]
  | .fz ds, h => by simp only [D.low] at h; simp [frzD, frzDs_low hl ds h]
  | .ro ds, h => by simp only [D.low] at h; simp [frzD, frzDs_low hl ds h]
theorem frzDs_low {look : Nat → Option D} {n : Nat} (hl : ∀ m, m < n → look m = some (.ref m)) : ∀ ds : List D, lows n ds = true → frzDs look ds = some ds
  | [], _ => by simp [frzDs]
  | d :: ds, h => by
    simp only [lows, Bool.and_eq_true] at h
    simp [frzDs, frzD_low hl d h.1, frzDs_low hl ds h.2]
end
theorem look_low {n : Nat} {M : Hep} {k : Nat} : ∀ m, m < n → look n M k m = some (.ref m) := fun m h => by
  cases k <;> simp [look, h]
theorem frz_low {n : Nat} {M : Hep} {d : D} (h : d.low n = true) : frz n M d = some d := frzD_low look_low d h
/-- each list holds no list that changes -/
def Flat (M : Hep) : Prop := ∀ ob ∈ M, ob.low 0 = true
theorem frzObs_flat {n : Nat} {M : Hep} : ∀ {os : List Ob}, (∀ ob ∈ os, ob.low 0 = true) → frzObs n M os = some os
  | [], _ => rfl
  | .lst ds :: os, h => by
    have h1 : frzDs (look n M 8) ds = some ds := frzDs_low look_low ds (lows_mono (Nat.zero_le n) ds (h (.lst ds) List.mem_cons_self))
    simp [frzObs, frzOb, h1, frzObs_flat fun ob hb => h ob (List.mem_cons_of_mem _ hb)]
  | .dct ks vs :: os, h => by
    have h0 : (lows 0 ks && lows 0 vs) = true := h (.dct ks vs) List.mem_cons_self
    simp only [Bool.and_eq_true] at h0
    have h1 : frzDs (look n M 8) ks = some ks := frzDs_low look_low ks (lows_mono (Nat.zero_le n) ks h0.1)
    have h2 : frzDs (look n M 8) vs = some vs := frzDs_low look_low vs (lows_mono (Nat.zero_le n) vs h0.2)
    simp [frzObs, frzOb, h1, h2, frzObs_flat fun ob hb => h ob (List.mem_cons_of_mem _ hb)]
/-- nothing beyond n1 -/
theorem settle_le {n0 n1 : Nat} {σ : Sl} {M : Hep} (h : M.length ≤ n1) : settle n0 n1 σ M = some (σ, M) := by
  unfold settle; rw [if_pos h]
theorem settle_flat {n0 n1 : Nat} {σ : Sl} {M : Hep} (h : n0 ≤ n1) (hf : Flat (M.take n1)) (hl : ¬ M.length ≤ n1) : settle n0 n1 σ M = some (σ.map fun o => o.bind (frz n1 M), M.take n1) := by
  unfold settle
  rw [if_neg hl]
  have : frzObs n1 M ((M.take n1).drop n0) = some ((M.take n1).drop n0) := frzObs_flat fun ob hb => hf ob (List.mem_of_mem_drop hb)
  rw [this]
  simp only [Option.map_some, Option.some.injEq, Prod.mk.injEq, true_and]
  rw [show M.take n0 = (M.take n1).take n0 by rw [List.take_take, Nat.min_eq_left h], List.take_append_drop]
/-- a comprehension whose items hold no list that changes -/
theorem ok_comp {g : SemG} {tt : SemT} {te : SemE} {it : Itm} {n1 n0 : Nat} {σw : Sl} (Inv : Nat → List D → Hep → Prop) (hn : n0 ≤ n1) {P : Unit → Hep → Prop} :
    ∀ (ds : List D) (k : Nat) (acc : List D) (M : Hep), Inv k acc M → M.length = n1 → lows 0 acc = true → Flat M → acc.length + ds.length ≤ PySem.sizeLine →
    (∀ i d acc M, ds[i]? = some d → Inv (k + i) acc M → M.length = n1 → Flat M → it.chk (M ++ [.lst acc]) = true ∧ Ok (g n0 d σw (M ++ [.lst acc])) fun σ1 M1 => Ok (tt n0 σ1 M1) fun b M2 => b = true ∧ Ok (te n0 σ1 M2) fun y M3 => ∃ M4, M3 = M4 ++ [.lst acc] ∧ M4.length = n1 ∧ Flat M4 ∧ y.low 0 = true ∧ Inv (k + i + 1) (acc ++ [y]) M4) →
    (∀ acc M, Inv (k + ds.length) acc M → M.length = n1 → Flat M → lows 0 acc = true → it.chk (M ++ [.lst acc]) = true ∧ P () (M ++ [.lst acc])) →
    Ok (compL g tt te it false n1 n0 σw ds (M ++ [.lst acc])) P
  | [], k, acc, M, h0, hl, hla, hf, hz, hs, he => by
    obtain ⟨h1, h2⟩ := he acc M h0 hl hf hla
    unfold compL
    rw [if_pos h1]
    exact .here h2
  | d :: ds, k, acc, M, h0, hl, hla, hf, hz, hs, he => by
    obtain ⟨h1, h2⟩ := hs 0 d acc M rfl h0 hl hf
    unfold compL
    rw [if_pos h1, ok_bind, ok_safe]
    refine h2.mono fun σ1 M1 q => ?_
    rw [ok_bind, ok_safe]
    refine q.mono fun b M2 ⟨qb, q⟩ => ?_
    subst qb
    rw [if_pos rfl, ok_bind, ok_bind, ok_safe]
    refine q.mono fun y M3 ⟨M4, e3, l4, f4, ly, iv⟩ => ?_
    subst e3
    have at1 : (M4 ++ [Ob.lst acc])[n1]? = some (.lst acc) := by rw [← l4]; simp
    have push : pushAt n1 y (M4 ++ [.lst acc]) = .ok () (M4 ++ [.lst (acc ++ [y])]) := by
      unfold pushAt
      rw [at1]
      simp only
      rw [if_pos (by rw [List.length_cons] at hz; omega)]
      congr 1
      rw [← l4]; simp
    have sl : (M4 ++ [Ob.lst (acc ++ [y])]).length ≤ n1 + 1 := by simp [l4]
    rw [push]
    simp only [ok_ok, Bool.false_eq_true, if_false, settle_le sl]
    have la : lows 0 (acc ++ [y]) = true := by
      have : ∀ as : List D, lows 0 as = true → lows 0 (as ++ [y]) = true := fun as => by
        induction as with
        | nil => intro _; simp [lows, ly]
        | cons a as ih => intro h; simp only [lows, Bool.and_eq_true, List.cons_append] at h ⊢; exact ⟨h.1, ih h.2⟩
      exact this acc hla
    exact ok_comp Inv hn ds (k + 1) (acc ++ [y]) M4 iv l4 la f4 (by simp only [List.length_append, List.length_cons, List.length_nil] at hz ⊢; omega)
      (fun i d acc M e iv => by
        have := hs (i + 1) d acc M (by simpa using e) (by rw [show k + (i + 1) = k + 1 + i by omega]; exact iv)
        rw [show k + (i + 1) = k + 1 + i by omega] at this
        exact this)
      (fun acc M iv => he acc M (by rw [List.length_cons, show k + (ds.length + 1) = k + 1 + ds.length by omega]; exact iv))
/-- [te for g in fi] that does not change -/
theorem ok_lc {vs : List Nat} {fi : SemI} {g : SemG} {tt : SemT} {te : SemE} {n0 : Nat} {σ : Sl} {M M1 : Hep} {it : Itm} {P : D → Hep → Prop} (Inv : Nat → List D → Hep → Prop) (hi : fi n0 σ M = .ok it M1) (hn : n0 ≤ M1.length) (h0 : Inv 0 [] M1) (hf : Flat M1) (hz : it.ds.length ≤ PySem.sizeLine)
    (hs : ∀ i d acc M, it.ds[i]? = some d → Inv i acc M → M.length = M1.length → Flat M → it.chk (M ++ [.lst acc]) = true ∧ Ok (g n0 d (wipeD σ vs) (M ++ [.lst acc])) fun σ1 M2 => Ok (tt n0 σ1 M2) fun b M3 => b = true ∧ Ok (te n0 σ1 M3) fun y M4 => ∃ M5, M4 = M5 ++ [.lst acc] ∧ M5.length = M1.length ∧ Flat M5 ∧ y.low 0 = true ∧ Inv (i + 1) (acc ++ [y]) M5)
    (he : ∀ acc M, Inv it.ds.length acc M → M.length = M1.length → Flat M → lows 0 acc = true → it.chk (M ++ [.lst acc]) = true ∧ P (.fz acc) M) : Ok (eLc false false vs fi g tt te n0 σ M) P := by
  unfold eLc
  rw [hi, bind_ok', ok_bind]
  refine ok_comp (P := fun _ M2 => Ok (if (false : Bool) then Res.ok (.ref M1.length) M2 else match frz M1.length M2 (.ref M1.length), settle n0 M1.length [] M2 with | some d, some (_, M3) => .ok d M3 | _, _ => .stuck) P) Inv hn it.ds 0 [] M1 h0 rfl rfl hf (by simpa using hz)
    (fun i d acc M e iv l f => by
      have := hs i d acc M e (by simpa using iv) l f
      simpa using this) fun acc M iv l f la => ?_
  obtain ⟨c1, c2⟩ := he acc M (by simpa using iv) l f la
  refine ⟨c1, ?_⟩
  have fr : frz M1.length (M ++ [.lst acc]) (.ref M1.length) = some (.fz acc) := by
    have : look M1.length (M ++ [.lst acc]) 8 M1.length = some (.fz acc) := by
      show (if M1.length < M1.length then some (D.ref M1.length) else match (M ++ [Ob.lst acc])[M1.length]? with | some (Ob.lst ds) => (frzDs (look M1.length (M ++ [Ob.lst acc]) 7) ds).map D.fz | _ => none) = some (D.fz acc)
      rw [if_neg (Nat.lt_irrefl _), ← l, List.getElem?_append_right (Nat.le_refl _), Nat.sub_self]
      simp [frzDs_low (look_low (n := M.length)) acc (lows_mono (Nat.zero_le _) acc la)]
    unfold frz
    simp only [frzD, this]
  have st : settle n0 M1.length [] (M ++ [.lst acc]) = some ([], M) := by
    have tk : (M ++ [Ob.lst acc]).take M1.length = M := by rw [← l]; simp
    rw [settle_flat hn (by rw [tk]; exact f) (by simp [l]), tk]
    rfl
  simp only [Bool.false_eq_true, if_false, fr, st]
  exact .here c2
end DL

namespace DL
open PySem L2
/-! ### the operations at data of known kinds -/
section
variable {M : Hep}
@[simp] theorem isi_int (i : Int) : pIsi.op [.int i, .ty "int"] M = .ok (.bl true) M := by simp [PL.op, pIsi, tyName, isiB]
@[simp] theorem isi_intb (i : Int) : pIsi.op [.int i, .ty "bool"] M = .ok (.bl false) M := by simp [PL.op, pIsi, tyName, isiB]
@[simp] theorem isi_tup (ds : List D) : pIsi.op [.tup ds, .ty "tuple"] M = .ok (.bl true) M := by simp [PL.op, pIsi, tyName, isiB]
@[simp] theorem isi_str (ds : List Nat) : pIsi.op [.str ds, .ty "str"] M = .ok (.bl true) M := by simp [PL.op, pIsi, tyName, isiB]
@[simp] theorem len_tup (ds : List D) : pLen.op [.tup ds] M = .ok (.int ds.length) M := rfl
@[simp] theorem len_fz (ds : List D) : pLen.op [.fz ds] M = .ok (.int ds.length) M := rfl
@[simp] theorem len_ro (ds : List D) : pLen.op [.ro ds] M = .ok (.int ds.length) M := rfl
theorem len_str {cs : List Nat} (h : cs.length ≤ sizeLine) : pLen.op [.str cs] M = .ok (.int cs.length) M := by simp [PL.op, pLen, strFits, h]
theorem len_ref {m : Nat} {ds : List D} (h : M[m]? = some (.lst ds)) : pLen.op [.ref m] M = .ok (.int ds.length) M := by simp [PL.op, pLen, lst?, h]
theorem at_nat {α : Type} {xs : List α} {k : Nat} {x : α} (h : xs[k]? = some x) : atD xs (k : Int) = some x := by
  have hk : k < xs.length := (List.getElem?_eq_some_iff.mp h).1
  unfold atD
  have : ixN xs.length (k : Int) = some k := by
    unfold ixN
    first
      | (simp; omega)
      | (split <;> simp_all <;> omega)
  rw [this]
  exact h
theorem ix_tup {ds : List D} {k : Nat} {d : D} (h : ds[k]? = some d) : opIx (.tup ds) (.int k) M = .ok d M := by
  simp [opIx, P2.op, P2.or, pIxL, lst?, pIxT, at_nat h]
theorem ix_fz {ds : List D} {k : Nat} {d : D} (h : ds[k]? = some d) : opIx (.fz ds) (.int k) M = .ok d M := by
  simp [opIx, P2.op, P2.or, pIxL, lst?, at_nat h]
theorem ix_ro {ds : List D} {k : Nat} {d : D} (h : ds[k]? = some d) : opIx (.ro ds) (.int k) M = .ok d M := by
  simp [opIx, P2.op, P2.or, pIxL, lst?, at_nat h]
theorem ix_ref {m : Nat} {ds : List D} {k : Nat} {d : D} (hm : M[m]? = some (.lst ds)) (h : ds[k]? = some d) : opIx (.ref m) (.int k) M = .ok d M := by
  simp [opIx, P2.op, P2.or, pIxL, lst?, hm, at_nat h]
theorem ix_str {cs : List Nat} {k : Nat} {c : Nat} (hz : cs.length ≤ sizeLine) (h : cs[k]? = some c) : opIx (.str cs) (.int k) M = .ok (.str [c]) M := by
  simp [opIx, P2.op, P2.or, pIxL, lst?, pIxT, pIxS, strFits, hz, at_nat h]
@[simp] theorem lt_int (i j : Int) : opLt (.int i) (.int j) M = .ok (.bl (decide (i < j))) M := rfl
@[simp] theorem lt_intI (i j : Int) : opLtI (.int i) (.int j) M = .ok (.bl (decide (i < j))) M := rfl
@[simp] theorem le_int (i j : Int) : opLe (.int i) (.int j) M = .ok (.bl (decide (i ≤ j))) M := rfl
@[simp] theorem gt_int (i j : Int) : opGt (.int i) (.int j) M = .ok (.bl (decide (i > j))) M := rfl
@[simp] theorem ge_int (i j : Int) : opGe (.int i) (.int j) M = .ok (.bl (decide (i ≥ j))) M := rfl
@[simp] theorem le_str (i j : List Nat) : opLe (.str i) (.str j) M = .ok (.bl (!ltL j i)) M := rfl
@[simp] theorem lt_str (i j : List Nat) : opLt (.str i) (.str j) M = .ok (.bl (ltL i j)) M := rfl
@[simp] theorem add_int (m : Bool) (i j : Int) : opAdd m (.int i) (.int j) M = .ok (.int (i + j)) M := rfl
@[simp] theorem sub_int (i j : Int) : opSub (.int i) (.int j) M = .ok (.int (i - j)) M := rfl
theorem add_str (m : Bool) {a b : List Nat} (h : a.length + b.length ≤ sizeLine) : opAdd m (.str a) (.str b) M = .ok (.str (a ++ b)) M := by
  simp [opAdd, P2.op, P2.or, pI, pAddS, strFits, h]
theorem add_fz {a b : List D} (h : a.length + b.length ≤ sizeLine) : opAdd false (.fz a) (.fz b) M = .ok (.fz (a ++ b)) M := by
  simp [opAdd, P2.op, P2.or, pI, pAddS, pAddT, pAddL, lstM?, mkLst, h]
theorem mul_int (m : Bool) {i j : Int} (h : mulFits i j = true) : opMul m (.int i) (.int j) M = .ok (.int (i * j)) M := by
  simp [opMul, P2.op, P2.or, pIc, h]
theorem mod_int {i j : Int} (h : j ≠ 0) : opMod (.int i) (.int j) M = .ok (.int (i.fmod j)) M := by simp [opMod, P2.op, pIc, h]
theorem div_int {i j : Int} (h : j ≠ 0) (h2 : j.natAbs < 1073741824) : opFdiv (.int i) (.int j) M = .ok (.int (i.fdiv j)) M := by simp [opFdiv, P2.op, pIc, h, h2]
@[simp] theorem max_int (i j : Int) : pMax.op [.int i, .int j] M = .ok (.int (if j > i then j else i)) M := rfl
@[simp] theorem min_int (i j : Int) : pMin.op [.int i, .int j] M = .ok (.int (if j < i then j else i)) M := rfl
@[simp] theorem int_int (i : Int) : pInt.op [.int i] M = .ok (.int i) M := rfl
@[simp] theorem int_bl (b : Bool) : pInt.op [.bl b] M = .ok (.int (if b then 1 else 0)) M := rfl
@[simp] theorem tuple_tup (ds : List D) : pTuple.op [.tup ds] M = .ok (.tup ds) M := rfl
@[simp] theorem tuple_fz (ds : List D) : pTuple.op [.fz ds] M = .ok (.tup ds) M := rfl
@[simp] theorem tuple_ro (ds : List D) : pTuple.op [.ro ds] M = .ok (.tup ds) M := rfl
theorem tuple_ref {m : Nat} {ds : List D} (h : M[m]? = some (.lst ds)) : pTuple.op [.ref m] M = .ok (.tup ds) M := by simp [PL.op, pTuple, lst?, h]
theorem bools_map {α : Type} (f : α → Bool) : ∀ xs : List α, boolsOf (xs.map fun x => .bl (f x)) = some (xs.map f)
  | [] => rfl
  | x :: xs => by simp [boolsOf, bools_map f xs]
theorem ints_map {α : Type} (f : α → Int) : ∀ xs : List α, intsOf (xs.map fun x => .int (f x)) = some (xs.map f)
  | [] => rfl
  | x :: xs => by simp [intsOf, ints_map f xs]
theorem strs_map {α : Type} (f : α → List Nat) : ∀ xs : List α, strsOf (xs.map fun x => .str (f x)) = some (xs.map f)
  | [] => rfl
  | x :: xs => by simp [strsOf, strs_map f xs]
theorem all_fz {α : Type} {f : α → Bool} {xs : List α} : pAll.op [.fz (xs.map fun x => .bl (f x))] M = .ok (.bl (xs.all f)) M := by
  simp [PL.op, pAll, lst?, bools_map]
theorem join_nil : ∀ ys : List (List Nat), joinC [] ys = ys.flatten
  | [] => rfl
  | [x] => by simp [joinC]
  | x :: y :: r => by simp [joinC, join_nil (y :: r)]
theorem join_fz {n : Nat} {α : Type} {f : α → List Nat} {xs : List α} (h : ((xs.map f).map (·.length)).sum ≤ 16777216) : mJoin n (.str []) [.fz (xs.map fun x => .str (f x))] M = .ok (.str (xs.map f).flatten) M := by
  simp [mJoin, seq?, lst?, strs_map, join_nil]
  simpa using h
/-- equal to itself -/
theorem eq_py {x y : D} {p q : PyData} (hx : pyOf M x = some p) (hy : pyOf M y = some q) (h1 : SeqAt.shaped p = true) (h2 : SeqAt.shaped q = true) (hn : pEqS id x y M = none := by rfl) : opEq x y M = .ok (.bl (PyData.eqv p q)) M := by
  simp [opEq, P2.op, P2.or, hn, pEqD, hx, hy, h1, h2]
theorem ne_py {x y : D} {p q : PyData} (hx : pyOf M x = some p) (hy : pyOf M y = some q) (h1 : SeqAt.shaped p = true) (h2 : SeqAt.shaped q = true) (hn : pEqS not x y M = none := by rfl) : opNe x y M = .ok (.bl (!PyData.eqv p q)) M := by
  simp [opNe, P2.op, P2.or, hn, pEqD, hx, hy, h1, h2]
theorem py_low {d : D} (h : d.low 0 = true) : pyOf M d = d.py := by unfold pyOf; rw [frz_low h]; rfl
theorem eqv_int (i j : Int) : PyData.eqv (.int i) (.int j) = decide (i = j) := by
  unfold PyData.eqv
  first | rfl | simp [BEq.beq]
theorem eqv_str (i j : Str) : PyData.eqv (.str i) (.str j) = (i == j) := by
  unfold PyData.eqv
  first | rfl | simp [BEq.beq]
@[simp] theorem eq_int (i j : Int) : opEq (.int i) (.int j) M = .ok (.bl (decide (i = j))) M := by
  rw [eq_py (p := .int i) (q := .int j) (py_low rfl) (py_low rfl) (by rfl) (by rfl), eqv_int]
@[simp] theorem ne_int (i j : Int) : opNe (.int i) (.int j) M = .ok (.bl (!decide (i = j))) M := by
  rw [ne_py (p := .int i) (q := .int j) (py_low rfl) (py_low rfl) (by rfl) (by rfl), eqv_int]
theorem str_eq (a b : List Nat) : ((⟨a.toArray⟩ : Str) == ⟨b.toArray⟩) = decide (a = b) := by
  rw [Bool.eq_iff_iff, beq_iff_eq, decide_eq_true_eq]
  constructor
  · intro h
    injection h with h
    simpa using h
  · intro h; rw [h]
theorem shaped_str {i : List Nat} (h : PyData.strOk ⟨i.toArray⟩ = true) : SeqAt.shaped (.str ⟨i.toArray⟩) = true := by
  unfold SeqAt.shaped
  simp [PyData.canLay0, PyData.depth, h]
@[simp] theorem eq_str (i j : List Nat) : opEq (.str i) (.str j) M = .ok (.bl (decide (i = j))) M := rfl
@[simp] theorem ne_str (i j : List Nat) : opNe (.str i) (.str j) M = .ok (.bl (!decide (i = j))) M := rfl
theorem pop_at {n m k : Nat} {es : List D} {d : D} (hm : M[m]? = some (.lst es)) (hk : es[k]? = some d) (hz : es.length < 2 ^ 63) (hc : n ≤ m ∨ lows 0 (es.eraseIdx k) = true) : mPopAt n (.ref m) [.int k] M = .ok d (M.set m (.lst (es.eraseIdx k))) := by
  have hl : k < es.length := (List.getElem?_eq_some_iff.mp hk).1
  have h1 : seqIndex? (k : Int) es.length = some k := by
    unfold seqIndex?
    first
      | (simp; omega)
      | (split <;> simp_all <;> omega)
  have h2 : (decide (-(2 ^ 63) ≤ (k : Int)) && decide ((k : Int) < 2 ^ 63)) = true := by
    simp only [Bool.and_eq_true, decide_eq_true_eq]; omega
  have h3 : (decide (n ≤ m) || lows 0 (es.eraseIdx k)) = true := by simpa using hc
  unfold mPopAt
  simp only [hm, h2, if_true, h1, hk, setOb, h3]
theorem app_at {n m : Nat} {es : List D} {d : D} (hm : M[m]? = some (.lst es)) (hz : es.length < sizeLine) (hc : n ≤ m ∨ lows 0 (es ++ [d]) = true) : mApp n (.ref m) [d] M = .ok .non (M.set m (.lst (es ++ [d]))) := by
  have h3 : (decide (n ≤ m) || lows 0 (es ++ [d])) = true := by simpa using hc
  unfold mApp
  simp only [hm, hz, if_true, setOb, h3]
theorem ext_at {n m : Nat} {es fs : List D} (hm : M[m]? = some (.lst es)) (hz : es.length + fs.length ≤ sizeLine) (hc : n ≤ m ∨ lows 0 (es ++ fs) = true) : mExt n (.ref m) [.fz fs] M = .ok .non (M.set m (.lst (es ++ fs))) := by
  have h3 : (decide (n ≤ m) || lows 0 (es ++ fs)) = true := by simpa using hc
  unfold mExt
  simp only [hm, lstM?, strFits, decide_eq_true_eq, hz, if_true, setOb, h3]
end
end DL

namespace DL
open PySem
/-! ### steps, each by what its parts give -/
section
variable {n : Nat} {σ σ1 σ2 : Sl} {M M1 M2 M3 M4 : Hep} {P : Fl × Sl → Hep → Prop} {d x y z : D}
theorem ev_var {i : Nat} (h : σ[i]? = some (some d)) : eVar i n σ M = .ok d M := by unfold eVar; rw [h]
theorem ev_c : eC d n σ M = .ok d M := rfl
theorem ev_bin {op : Op2} {a b : SemE} (ha : a n σ M = .ok x M1) (hb : b n σ M1 = .ok y M2) {r : Res D} (h : op x y M2 = r) : eBin op a b n σ M = r := by
  unfold eBin; rw [ha, bind_ok', hb, bind_ok']; exact h
theorem ev_un {op : Op1} {a : SemE} (ha : a n σ M = .ok x M1) {r : Res D} (h : op x M1 = r) : eUn op a n σ M = r := by
  unfold eUn; rw [ha, bind_ok']; exact h
theorem ls_nil : lNil n σ M = .ok [] M := rfl
theorem ls_cons {a : SemE} {r : SemL} {xs : List D} (ha : a n σ M = .ok x M1) (hr : r n σ M1 = .ok xs M2) : lCons a r n σ M = .ok (x :: xs) M2 := by
  unfold lCons; rw [ha, bind_ok', hr, bind_ok']
theorem ev_app {op : OpL} {l : SemL} {xs : List D} (hl : l n σ M = .ok xs M1) {r : Res D} (h : op xs M1 = r) : eApp op l n σ M = r := by
  unfold eApp; rw [hl, bind_ok']; exact h
theorem ev_app1 {op : OpL} {a : SemE} (ha : a n σ M = .ok x M1) {r : Res D} (h : op [x] M1 = r) : eApp op (lCons a lNil) n σ M = r := ev_app (ls_cons ha ls_nil) h
theorem ev_app2 {op : OpL} {a b : SemE} (ha : a n σ M = .ok x M1) (hb : b n σ M1 = .ok y M2) {r : Res D} (h : op [x, y] M2 = r) : eApp op (lCons a (lCons b lNil)) n σ M = r := ev_app (ls_cons ha (ls_cons hb ls_nil)) h
theorem ev_app3 {op : OpL} {a b c : SemE} (ha : a n σ M = .ok x M1) (hb : b n σ M1 = .ok y M2) (hc : c n σ M2 = .ok z M3) {r : Res D} (h : op [x, y, z] M3 = r) : eApp op (lCons a (lCons b (lCons c lNil))) n σ M = r := ev_app (ls_cons ha (ls_cons hb (ls_cons hc ls_nil))) h
theorem ev_sl {op : OpS} {a : SemE} {l h : SemO} {lo hi : Option Int} (ha : a n σ M = .ok x M1) (hl : l n σ M1 = .ok lo M2) (hh : h n σ M2 = .ok hi M3) {r : Res D} (e : op x lo hi M3 = r) : eSl op a l h n σ M = r := by
  unfold eSl; rw [ha, bind_ok', hl, bind_ok', hh, bind_ok']; exact e
theorem o_none : oNone n σ M = .ok none M := rfl
theorem o_some {a : SemE} {i : Int} (ha : a n σ M = .ok (.int i) M1) : oSome a n σ M = .ok (some i) M1 := by unfold oSome; rw [ha, bind_ok']
theorem ev_mt {ok : D → Hep → Bool} {op : OpM} {o : SemE} {l : SemL} {xs : List D} (ho : o n σ M = .ok x M1) (hk : ok x M1 = true) (hl : l n σ M1 = .ok xs M2) {r : Res D} (h : op n x xs M2 = r) : eMt ok op o l n σ M = r := by
  unfold eMt; rw [ho, bind_ok', if_pos hk, hl, bind_ok']; exact h
theorem ev_chain {o o' : Ord} {a b c : SemE} {k : Bool} (ha : a n σ M = .ok x M1) (hb : b n σ M1 = .ok y M2) (h1 : o.op x y M2 = .ok (.bl true) M2) (hc : c n σ M2 = .ok z M3) (h2 : o'.op y z M3 = .ok (.bl k) M4) : eChain o o' a b c n σ M = .ok (.bl k) M4 := by
  unfold eChain; rw [ha, bind_ok', hb, bind_ok', h1, bind_ok']
  simp only [hc, bind_ok', h2]
theorem ev_and {a b : SemE} {r : Res D} (ha : a n σ M = .ok (.bl true) M1) (hb : b n σ M1 = r) : eAnd a b n σ M = r := by
  unfold eAnd; rw [ha, bind_ok']; exact hb
theorem ev_not {a : SemE} {k : Bool} (ha : a n σ M = .ok (.bl k) M1) : eNot a n σ M = .ok (.bl (!k)) M1 := by
  unfold eNot; rw [ha, bind_ok']
theorem t_of {a : SemE} {k : Bool} (ha : a n σ M = .ok (.bl k) M1) : tOf a n σ M = .ok k M1 := by
  unfold tOf; rw [ha, bind_ok']
theorem t_not {a : SemT} {k : Bool} (ha : a n σ M = .ok k M1) : tNot a n σ M = .ok (!k) M1 := by
  unfold tNot; rw [ha, bind_ok']
theorem t_or {a b : SemT} {k : Bool} (ha : a n σ M = .ok false M1) (hb : b n σ M1 = .ok k M2) : tOr a b n σ M = .ok k M2 := by
  unfold tOr; rw [ha, bind_ok']; simpa using hb
/-! statements -/
theorem st_asg {a : SemE} {g : SemG} {b : SemS} (ha : a n σ M = .ok d M1) (hg : g n d σ M1 = .ok σ1 M2) (k : Ok (b n σ1 M2) P) : Ok (sSeq (sAsg a g) b n σ M) P := by
  unfold sSeq sAsg; rw [ha, bind_ok', hg, bind_ok', bind_ok']; exact k
theorem g_var {i : Nat} (h : i < σ.length) : gVar i n d σ M = .ok (σ.set i (some d)) M := by unfold gVar; rw [if_pos h]
theorem st_asgV {i : Nat} {a : SemE} {b : SemS} (ha : a n σ M = .ok d M1) (h : i < σ.length) (k : Ok (b n (σ.set i (some d)) M1) P) : Ok (sSeq (sAsg a (gVar i)) b n σ M) P := st_asg ha (g_var h) k
theorem sq {a b : SemS} (h : a n σ M = .ok (.nx, σ1) M1) (k : Ok (b n σ1 M1) P) : Ok (sSeq a b n σ M) P := by
  unfold sSeq; rw [h, bind_ok']; exact k
theorem aV {i : Nat} {a : SemE} (ha : a n σ M = .ok d M1) (h : i < σ.length) (e : σ.set i (some d) = σ1) : sAsg a (gVar i) n σ M = .ok (.nx, σ1) M1 := by
  unfold sAsg gVar; rw [ha, bind_ok', if_pos h, bind_ok', e]
theorem g_len {k : Nat} {g : SemGs} {ds : List D} {r : Res Sl} (h : ds.length = k) (hg : g n ds σ M = r) : gLen k g n (.tup ds) σ M = r := by
  unfold gLen; simp only [h, if_true]; exact hg
theorem g_cons {g : SemG} {r : SemGs} {ds : List D} {q : Res Sl} (hg : g n d σ M = .ok σ1 M1) (hr : r n ds σ1 M1 = q) : gCons g r n (d :: ds) σ M = q := by
  unfold gCons; simp only [hg, bind_ok']; exact hr
theorem g_nil : gNil n [] σ M = .ok σ M := rfl
theorem st_drop {a : SemE} {b : SemS} (ha : a n σ M = .ok d M1) (k : Ok (b n σ M1) P) : Ok (sSeq (sDrop a) b n σ M) P := by
  unfold sSeq sDrop; rw [ha, bind_ok', bind_ok']; exact k
theorem st_skip {c : SemT} {a b : SemS} (hc : c n σ M = .ok false M1) (k : Ok (b n σ M1) P) : Ok (sSeq (sIf c a sNil) b n σ M) P := by
  unfold sSeq sIf sNil; rw [hc, bind_ok']; exact k
theorem st_for {fi : SemI} {g : SemG} {bd b : SemS} {it : Itm} (hi : fi n σ M = .ok it M1) (h : Ok (forL g bd it M1.length n it.ds σ M1) fun q M2 => q.1 = .nx ∧ Ok (b n q.2 M2) P) : Ok (sSeq (sFor fi g bd) b n σ M) P := by
  unfold sSeq sFor; rw [ok_bind, hi, bind_ok']
  refine h.mono fun q M2 ⟨h1, h2⟩ => ?_
  rw [h1]; exact h2
theorem st_ret {a : SemE} (ha : a n σ M = .ok d M1) (h : P (.rt d, σ) M1) : Ok (sRet a n σ M) P := by
  unfold sRet; rw [ha, bind_ok']; exact .here h
theorem st_last {a : SemE} {g : SemG} (ha : a n σ M = .ok d M1) (hg : g n d σ M1 = .ok σ1 M2) (h : P (.nx, σ1) M2) : Ok (sAsg a g n σ M) P := by
  unfold sAsg; rw [ha, bind_ok', hg, bind_ok']; exact .here h
theorem st_lastD {a : SemE} (ha : a n σ M = .ok d M1) (h : P (.nx, σ) M1) : Ok (sDrop a n σ M) P := by
  unfold sDrop; rw [ha, bind_ok']; exact .here h
/-- .. where a part gives what is known only by P -/
theorem st_lastD' {a : SemE} (ha : Ok (a n σ M) fun _ M1 => P (.nx, σ) M1) : Ok (sDrop a n σ M) P := by
  unfold sDrop; rw [ok_bind]; exact ha.mono fun _ _ h => .here h
theorem st_asg' {a : SemE} {g : SemG} {b : SemS} (ha : Ok (a n σ M) fun d M1 => ∃ σ1 M2, g n d σ M1 = .ok σ1 M2 ∧ Ok (b n σ1 M2) P) : Ok (sSeq (sAsg a g) b n σ M) P := by
  obtain ⟨d, M1, e, σ1, M2, h1, h2⟩ := ok_iff.mp ha
  exact st_asg e h1 h2
theorem ok_app {op : OpL} {l : SemL} {Q : D → Hep → Prop} (h : Ok (l n σ M) fun xs M1 => Ok (op xs M1) Q) : Ok (eApp op l n σ M) Q := by unfold eApp; rw [ok_bind]; exact h
theorem ok_cons {a : SemE} {r : SemL} {Q : List D → Hep → Prop} (h : Ok (a n σ M) fun x M1 => Ok (r n σ M1) fun xs M2 => Q (x :: xs) M2) : Ok (lCons a r n σ M) Q := by
  unfold lCons; rw [ok_bind]; refine h.mono fun x M1 q => ?_; rw [ok_bind]; exact q.mono fun _ _ h => .here h
theorem ok_mt {ok : D → Hep → Bool} {op : OpM} {o : SemE} {l : SemL} {Q : D → Hep → Prop} (ho : o n σ M = .ok x M1) (hk : ok x M1 = true) (h : Ok (l n σ M1) fun xs M2 => Ok (op n x xs M2) Q) : Ok (eMt ok op o l n σ M) Q := by
  unfold eMt; rw [ho, bind_ok', if_pos hk, ok_bind]; exact h
end
end DL

namespace LW
open PySem L2 DL
def B__law_cell_at : SemS := (sSeq (sIf (tOf (eBin opLt (eVar 1) (eApp pLen.op (lCons (eVar 0) lNil)))) (sRet (eBin opIx (eVar 0) (eVar 1))) sNil) (sRet (eC (.int 0))))
def F__law_cell_at : DFun := runF true 2 2 B__law_cell_at
def B__law_pen : SemS := (sRet (eApp (mkLst true) (lCons (eApp pMax.op (lCons (eC (.int 0)) (lCons (eBin opSub (eVar 0) (eBin opPow (eC (.int 10)) (eC (.int 18)))) lNil))) (lCons (eBin (opAdd false) (eBin opMod (eVar 0) (eC (.int 2147483629))) (eC (.int 1))) (lCons (eC (.int 0)) lNil)))))
def F__law_pen : DFun := runF false 1 1 B__law_pen
def B__law_draw : SemS := (sSeq (sIf (tOf (eBin opGt (eBin opIx (eVar 0) (eC (.int 0))) (eC (.int 0)))) (sSeq (sAsg (eBin opMod (eBin opIx (eVar 0) (eC (.int 0))) (eVar 1)) (gVar 2)) (sSeq (sAsg (eBin opFdiv (eBin opIx (eVar 0) (eC (.int 0))) (eVar 1)) (gSub (eVar 0) (eC (.int 0)))) (sRet (eVar 2)))) sNil) (sSeq (sAsg (eBin (opAdd false) (eBin opIx (eVar 0) (eC (.int 2))) (eC (.int 1))) (gSub (eVar 0) (eC (.int 2)))) (sSeq (sAsg (eBin opMod (eBin (opAdd false) (eBin (opAdd false) (eBin (opMul false) (eBin opIx (eVar 0) (eC (.int 1))) (eC (.int 48271))) (eBin (opMul false) (eC (.int 1013)) (eBin opIx (eVar 0) (eC (.int 2))))) (eC (.int 11))) (eC (.int 2147483647))) (gSub (eVar 0) (eC (.int 1)))) (sSeq (sAsg (eBin opMod (eBin (opAdd false) (eBin (opAdd false) (eBin (opMul false) (eBin opIx (eVar 0) (eC (.int 1))) (eBin opIx (eVar 0) (eC (.int 1)))) (eBin (opMul false) (eC (.int 40692)) (eBin opIx (eVar 0) (eC (.int 1))))) (eC (.int 7))) (eC (.int 2147483629))) (gVar 3)) (sRet (eBin opMod (eBin opFdiv (eBin opMod (eBin (opMul false) (eVar 3) (eC (.int 69621))) (eC (.int 2147483647))) (eC (.int 16))) (eVar 1)))))))
def F__law_draw : DFun := runF true 4 2 B__law_draw
def B__law_pick : SemS := (sRet (eBin opIx (eVar 1) (eApp LW.F__law_draw (lCons (eVar 0) (lCons (eApp pLen.op (lCons (eVar 1) lNil)) lNil)))))
def F__law_pick : DFun := runF true 2 2 B__law_pick
def B__law_mixed : SemS := (sSeq (sPar 2 3 (lCons (eApp (lstRg true) (lCons (eVar 1) lNil)) (lCons (eApp (mkLst true) lNil) lNil))) (sSeq (sFor (iRng (lCons (eVar 1) lNil)) (gVar 4) (sDrop (eMt isLst mApp (eVar 3) (lCons (eMt isLst mPopAt (eVar 2) (lCons (eApp LW.F__law_draw (lCons (eVar 0) (lCons (eApp pLen.op (lCons (eVar 2) lNil)) lNil))) lNil)) lNil)))) (sRet (eVar 3))))
def F__law_mixed : DFun := runF true 5 2 B__law_mixed
def B__law_frame : SemS := (sRet (eApp mkTup (lCons (eBin (opAdd false) (eC (.int 1)) (eApp LW.F__law_draw (lCons (eVar 0) (lCons (eVar 1) lNil)))) (lCons (eBin (opAdd false) (eC (.int 1)) (eApp LW.F__law_draw (lCons (eVar 0) (lCons (eVar 2) lNil)))) lNil))))
def F__law_frame : DFun := runF true 3 3 B__law_frame
def B__law_board : SemS := (sSeq (sAsg (eSl (opSl false) (eC (.str [97, 98, 99, 100, 101, 102, 103, 104, 105, 106, 107, 108, 109, 110, 111, 112, 113, 114, 115, 116, 117, 118, 119, 120, 121, 122])) oNone (oSome (eBin opIx (eApp (mkLst false) (lCons (eC (.int 1)) (lCons (eC (.int 2)) (lCons (eC (.int 3)) (lCons (eC (.int 26)) lNil))))) (eApp LW.F__law_draw (lCons (eVar 0) (lCons (eC (.int 4)) lNil)))))) (gVar 2)) (sSeq (sAsg (eApp (mkLst true) lNil) (gVar 3)) (sSeq (sFor (iRng (lCons (eBin opIx (eVar 1) (eC (.int 0))) lNil)) (gVar 4) (sDrop (eMt isLst mApp (eVar 3) (lCons (eMt isStr mJoin (eC (.str [])) (lCons (eLc false false [5] (iRng (lCons (eBin opIx (eVar 1) (eC (.int 1))) lNil)) (gVar 5) (fun _ _ M => .ok true M) (eApp LW.F__law_pick (lCons (eVar 0) (lCons (eVar 2) lNil)))) lNil)) lNil)))) (sRet (eApp pTuple.op (lCons (eVar 3) lNil))))))
def F__law_board : DFun := runF true 6 2 B__law_board
def B__law_cuts : SemS := (sSeq (sAsg (eApp (mkLst true) lNil) (gVar 1)) (sSeq (sFor (iRng (lCons (eBin opIx (eVar 0) (eC (.int 1))) lNil)) (gVar 2) (sFor (iRng (lCons (eBin opIx (eVar 0) (eC (.int 0))) lNil)) (gVar 3) (sDrop (eMt isLst mExt (eVar 1) (lCons (eLc false false [4] (iRng (lCons (eBin (opAdd false) (eVar 3) (eC (.int 1))) (lCons (eBin opIx (eVar 0) (eC (.int 0))) lNil))) (gVar 4) (fun _ _ M => .ok true M) (eApp mkTup (lCons (eVar 2) (lCons (eVar 3) (lCons (eVar 4) lNil))))) lNil))))) (sRet (eVar 1))))
def F__law_cuts : DFun := runF true 5 1 B__law_cuts
def B__law_row : SemS := (sSeq (sAsg (eApp LW.F__law_cuts (lCons (eVar 1) lNil)) (gVar 3)) (sRet (eApp pTuple.op (lCons (eLc false false [4] (iRng (lCons (eBin (opMul false) (eApp LW.F__law_draw (lCons (eVar 0) (lCons (eBin (opAdd false) (eVar 2) (eC (.int 1))) lNil))) (eApp pInt.op (lCons (eBin opNe (eVar 3) (eApp (mkLst false) lNil)) lNil))) lNil)) (gVar 4) (fun _ _ M => .ok true M) (eApp LW.F__law_pick (lCons (eVar 0) (lCons (eVar 3) lNil)))) lNil))))
def F__law_row : DFun := runF true 5 3 B__law_row
def B__law_effect : SemS := (sRet (eApp pTuple.op (lCons (eLc false false [2] (iRng (lCons (eBin opIx (eVar 1) (eC (.int 1))) lNil)) (gVar 2) (fun _ _ M => .ok true M) (eApp pTuple.op (lCons (eApp LW.F__law_mixed (lCons (eVar 0) (lCons (eBin opIx (eVar 1) (eC (.int 0))) lNil))) lNil))) lNil)))
def F__law_effect : DFun := runF true 3 2 B__law_effect
def B__law_done : SemS := (sSeq (sAsg (eVar 1) (gLen 3 (gCons (gVar 2) (gCons (gVar 3) (gCons (gVar 4) gNil))))) (sSeq (sAsg (eLc true true [6] (iSeq (eVar 0)) (gVar 6) (fun _ _ M => .ok true M) (eApp (pListA true).op (lCons (eVar 6) lNil))) (gVar 5)) (sSeq (sAsg (eSl (opSl false) (eBin opIx (eVar 0) (eVar 4)) (oSome (eVar 2)) oNone) (gSlc (eBin opIx (eVar 5) (eVar 3)) (eVar 2))) (sSeq (sAsg (eSl (opSl false) (eBin opIx (eVar 0) (eVar 3)) (oSome (eVar 2)) oNone) (gSlc (eBin opIx (eVar 5) (eVar 4)) (eVar 2))) (sRet (eVar 5))))))
def F__law_done : DFun := runF true 7 2 B__law_done
def B__law_begun : SemS := (sRet (eLc false false [1] (iRng (lCons (eBin opIx (eVar 0) (eC (.int 0))) lNil)) (gVar 1) (fun _ _ M => .ok true M) (eBin (opMul false) (eApp (mkLst false) (lCons (eVar 1) lNil)) (eBin opIx (eVar 0) (eC (.int 1))))))
def F__law_begun : DFun := runF true 2 1 B__law_begun
def B__law_does : SemS := (sSeq (sAsg (eApp LW.F__law_begun (lCons (eVar 0) lNil)) (gVar 2)) (sSeq (sFor (iSeq (eVar 1)) (gVar 3) (sAsg (eApp LW.F__law_done (lCons (eVar 2) (lCons (eVar 3) lNil))) (gVar 2))) (sRet (eApp pTuple.op (lCons (eLc false false [4] (iRng (lCons (eBin opIx (eVar 0) (eC (.int 1))) lNil)) (gVar 4) (fun _ _ M => .ok true M) (eApp pTuple.op (lCons (eLc false false [5] (iRng (lCons (eBin opIx (eVar 0) (eC (.int 0))) lNil)) (gVar 5) (fun _ _ M => .ok true M) (eBin opIx (eBin opIx (eVar 2) (eVar 5)) (eVar 4))) lNil))) lNil)))))
def F__law_does : DFun := runF true 6 2 B__law_does
def B__law_behind : SemS := (sSeq (sAsg (eLc false false [4] (iSeq (eVar 0)) (gVar 4) (fun _ _ M => .ok true M) (eApp (pListA false).op (lCons (eVar 4) lNil))) (gVar 2)) (sSeq (sFor (iSeq (eVar 1)) (gVar 3) (sAsg (eApp LW.F__law_done (lCons (eVar 2) (lCons (eVar 3) lNil))) (gVar 2))) (sRet (eApp pTuple.op (lCons (eLc false false [5] (iSeq (eVar 2)) (gVar 5) (fun _ _ M => .ok true M) (eMt isStr mJoin (eC (.str [])) (lCons (eVar 5) lNil))) lNil)))))
def F__law_behind : DFun := runF true 6 2 B__law_behind
def B__law_led : SemS := (sSeq (sAsg (eApp (mkLst true) lNil) (gVar 2)) (sSeq (sFor (iRng (lCons (eApp pLen.op (lCons (eVar 0) lNil)) lNil)) (gVar 3) (sDrop (eMt isLst mApp (eVar 2) (lCons (eMt isStr mJoin (eC (.str [])) (lCons (eLc false false [4, 5] (iEnu (lCons (eVar 1) lNil)) (gLen 2 (gCons (gVar 4) (gCons (gVar 5) gNil))) (fun _ _ M => .ok true M) (eBin opIx (eBin opIx (eVar 0) (eBin opIx (eVar 5) (eVar 3))) (eVar 4))) lNil)) lNil)))) (sRet (eApp pTuple.op (lCons (eVar 2) lNil)))))
def F__law_led : DFun := runF true 6 2 B__law_led
end LW

namespace PR
open PySem L2 DL
def B_is_whole : SemS := (sRet (eAnd (eApp pIsi.op (lCons (eVar 0) (lCons (eC (.ty "int")) lNil))) (eNot (eApp pIsi.op (lCons (eVar 0) (lCons (eC (.ty "bool")) lNil))))))
def F_is_whole : DFun := runF true 1 1 B_is_whole
def B_is_whole_from : SemS := (sRet (eAnd (eApp PR.F_is_whole (lCons (eVar 0) lNil)) (eChain .le .le (eVar 1) (eVar 0) (eVar 2))))
def F_is_whole_from : DFun := runF true 3 3 B_is_whole_from
def B_is_frame : SemS := (sSeq (sIf (tOr (tNot (tOf (eApp pIsi.op (lCons (eVar 0) (lCons (eC (.ty "tuple")) lNil))))) (tOf (eBin opNe (eApp pLen.op (lCons (eVar 0) lNil)) (eC (.int 2))))) (sRet (eC (.bl false))) sNil) (sSeq (sAsg (eVar 0) (gLen 2 (gCons (gVar 1) (gCons (gVar 2) gNil)))) (sRet (eAnd (eApp PR.F_is_whole_from (lCons (eVar 1) (lCons (eC (.int 1)) (lCons (eC (.int 5)) lNil)))) (eApp PR.F_is_whole_from (lCons (eVar 2) (lCons (eC (.int 1)) (lCons (eC (.int 12)) lNil))))))))
def F_is_frame : DFun := runF true 3 1 B_is_frame
def B_need_frame : SemS := (sIf (tNot (tOf (eApp PR.F_is_frame (lCons (eVar 0) lNil)))) (sRaise "NoFrame") sNil)
def F_need_frame : DFun := runF true 1 1 B_need_frame
def B_is_ribbon_text : SemS := (sSeq (sIf (tOr (tNot (tOf (eApp pIsi.op (lCons (eVar 0) (lCons (eC (.ty "str")) lNil))))) (tNot (tOf (eChain .le .le (eC (.int 1)) (eApp pLen.op (lCons (eVar 0) lNil)) (eC (.int 12)))))) (sRet (eC (.bl false))) sNil) (sRet (eApp pAll.op (lCons (eLc false false [1] (iSeq (eVar 0)) (gVar 1) (fun _ _ M => .ok true M) (eChain .le .le (eC (.str [97])) (eVar 1) (eC (.str [122])))) lNil))))
def F_is_ribbon_text : DFun := runF true 2 1 B_is_ribbon_text
def B_is_board : SemS := (sSeq (sIf (tOr (tNot (tOf (eApp pIsi.op (lCons (eVar 0) (lCons (eC (.ty "tuple")) lNil))))) (tNot (tOf (eChain .le .le (eC (.int 1)) (eApp pLen.op (lCons (eVar 0) lNil)) (eC (.int 5)))))) (sRet (eC (.bl false))) sNil) (sSeq (sIf (tNot (tOf (eApp pAll.op (lCons (eLc false false [1] (iSeq (eVar 0)) (gVar 1) (fun _ _ M => .ok true M) (eApp PR.F_is_ribbon_text (lCons (eVar 1) lNil))) lNil)))) (sRet (eC (.bl false))) sNil) (sRet (eApp pAll.op (lCons (eLc false false [1] (iSeq (eVar 0)) (gVar 1) (fun _ _ M => .ok true M) (eBin opEq (eApp pLen.op (lCons (eVar 1) lNil)) (eApp pLen.op (lCons (eBin opIx (eVar 0) (eC (.int 0))) lNil)))) lNil)))))
def F_is_board : DFun := runF true 2 1 B_is_board
def B_need_board : SemS := (sIf (tNot (tOf (eApp PR.F_is_board (lCons (eVar 0) lNil)))) (sRaise "NoBoard") sNil)
def F_need_board : DFun := runF true 1 1 B_need_board
def B_frame_of : SemS := (sSeq (sDrop (eApp PR.F_need_board (lCons (eVar 0) lNil))) (sRet (eApp mkTup (lCons (eApp pLen.op (lCons (eVar 0) lNil)) (lCons (eApp pLen.op (lCons (eBin opIx (eVar 0) (eC (.int 0))) lNil)) lNil)))))
def F_frame_of : DFun := runF true 1 1 B_frame_of
def B_is_line : SemS := (sSeq (sIf (tOr (tNot (tOf (eApp pIsi.op (lCons (eVar 1) (lCons (eC (.ty "tuple")) lNil))))) (tNot (tOf (eApp pAll.op (lCons (eLc false false [2] (iSeq (eVar 1)) (gVar 2) (fun _ _ M => .ok true M) (eApp PR.F_is_whole (lCons (eVar 2) lNil))) lNil))))) (sRet (eC (.bl false))) sNil) (sRet (eBin opEq (eApp (pSortedA false).op (lCons (eVar 1) lNil)) (eApp (lstRg false) (lCons (eVar 0) lNil)))))
def F_is_line : DFun := runF true 3 2 B_is_line
def B_is_effect : SemS := (sSeq (sDrop (eApp PR.F_need_frame (lCons (eVar 0) lNil))) (sSeq (sAsg (eVar 0) (gLen 2 (gCons (gVar 2) (gCons (gVar 3) gNil)))) (sSeq (sIf (tOr (tNot (tOf (eApp pIsi.op (lCons (eVar 1) (lCons (eC (.ty "tuple")) lNil))))) (tOf (eBin opNe (eApp pLen.op (lCons (eVar 1) lNil)) (eVar 3)))) (sRet (eC (.bl false))) sNil) (sRet (eApp pAll.op (lCons (eLc false false [4] (iSeq (eVar 1)) (gVar 4) (fun _ _ M => .ok true M) (eApp PR.F_is_line (lCons (eVar 2) (lCons (eVar 4) lNil)))) lNil))))))
def F_is_effect : DFun := runF true 5 2 B_is_effect
def B_is_cut : SemS := (sSeq (sIf (tOr (tNot (tOf (eApp pIsi.op (lCons (eVar 1) (lCons (eC (.ty "tuple")) lNil))))) (tOf (eBin opNe (eApp pLen.op (lCons (eVar 1) lNil)) (eC (.int 3))))) (sRet (eC (.bl false))) sNil) (sSeq (sIf (tNot (tOf (eApp pAll.op (lCons (eLc false false [7] (iSeq (eVar 1)) (gVar 7) (fun _ _ M => .ok true M) (eApp PR.F_is_whole (lCons (eVar 7) lNil))) lNil)))) (sRet (eC (.bl false))) sNil) (sSeq (sAsg (eVar 0) (gLen 2 (gCons (gVar 2) (gCons (gVar 3) gNil)))) (sSeq (sAsg (eVar 1) (gLen 3 (gCons (gVar 4) (gCons (gVar 5) (gCons (gVar 6) gNil))))) (sRet (eAnd (eChain .le .lt (eC (.int 0)) (eVar 4) (eVar 3)) (eChain3 .le .lt .lt (eC (.int 0)) (eVar 5) (eVar 6) (eVar 2))))))))
def F_is_cut : DFun := runF true 8 2 B_is_cut
def B_is_row : SemS := (sRet (eAnd (eApp pIsi.op (lCons (eVar 1) (lCons (eC (.ty "tuple")) lNil))) (eApp pAll.op (lCons (eLc false false [2] (iSeq (eVar 1)) (gVar 2) (fun _ _ M => .ok true M) (eApp PR.F_is_cut (lCons (eVar 0) (lCons (eVar 2) lNil)))) lNil))))
def F_is_row : DFun := runF true 3 2 B_is_row
def B_need_row : SemS := (sIf (tNot (tOf (eApp PR.F_is_row (lCons (eVar 0) (lCons (eVar 1) lNil))))) (sRaise "NoRow") sNil)
def F_need_row : DFun := runF true 2 2 B_need_row
def B_behind : SemS := (sSeq (sDrop (eApp PR.F_need_row (lCons (eApp PR.F_frame_of (lCons (eVar 0) lNil)) (lCons (eVar 1) lNil)))) (sSeq (sAsg (eApp (pListA true).op (lCons (eVar 0) lNil)) (gVar 2)) (sSeq (sFor (iSeq (eVar 1)) (gLen 3 (gCons (gVar 3) (gCons (gVar 4) (gCons (gVar 5) gNil)))) (sSeq (sAsg (eBin opIx (eVar 2) (eVar 4)) (gVar 6)) (sSeq (sAsg (eBin opIx (eVar 2) (eVar 5)) (gVar 7)) (sSeq (sAsg (eBin (opAdd false) (eSl (opSl false) (eVar 6) oNone (oSome (eVar 3))) (eSl (opSl false) (eVar 7) (oSome (eVar 3)) oNone)) (gSub (eVar 2) (eVar 4))) (sAsg (eBin (opAdd false) (eSl (opSl false) (eVar 7) oNone (oSome (eVar 3))) (eSl (opSl false) (eVar 6) (oSome (eVar 3)) oNone)) (gSub (eVar 2) (eVar 5))))))) (sRet (eApp pTuple.op (lCons (eVar 2) lNil))))))
def F_behind : DFun := runF true 8 2 B_behind
def B__line_behind : SemS := (sSeq (sAsg (eApp (lstRg true) (lCons (eVar 0) lNil)) (gVar 3)) (sSeq (sFor (iSeq (eVar 1)) (gLen 3 (gCons (gVar 4) (gCons (gVar 5) (gCons (gVar 6) gNil)))) (sIf (tOf (eBin opLe (eVar 4) (eVar 2))) (sAsg (eApp mkTup (lCons (eBin opIx (eVar 3) (eVar 6)) (lCons (eBin opIx (eVar 3) (eVar 5)) lNil))) (gLen 2 (gCons (gSub (eVar 3) (eVar 5)) (gCons (gSub (eVar 3) (eVar 6)) gNil)))) sNil)) (sRet (eApp pTuple.op (lCons (eVar 3) lNil)))))
def F__line_behind : DFun := runF true 7 3 B__line_behind
def B_does : SemS := (sSeq (sDrop (eApp PR.F_need_frame (lCons (eVar 0) lNil))) (sSeq (sDrop (eApp PR.F_need_row (lCons (eVar 0) (lCons (eVar 1) lNil)))) (sSeq (sAsg (eVar 0) (gLen 2 (gCons (gVar 2) (gCons (gVar 3) gNil)))) (sRet (eApp pTuple.op (lCons (eLc false false [4] (iRng (lCons (eVar 3) lNil)) (gVar 4) (fun _ _ M => .ok true M) (eApp PR.F__line_behind (lCons (eVar 2) (lCons (eVar 1) (lCons (eVar 4) lNil))))) lNil))))))
def F_does : DFun := runF true 5 2 B_does
def B_need_effect : SemS := (sIf (tNot (tOf (eApp PR.F_is_effect (lCons (eVar 0) (lCons (eVar 1) lNil))))) (sRaise "NoEffect") sNil)
def F_need_effect : DFun := runF true 2 2 B_need_effect
def B_led : SemS := (sSeq (sAsg (eApp PR.F_frame_of (lCons (eVar 0) lNil)) (gVar 2)) (sSeq (sDrop (eApp PR.F_need_effect (lCons (eVar 2) (lCons (eVar 1) lNil)))) (sSeq (sAsg (eVar 2) (gLen 2 (gCons (gVar 3) (gCons (gVar 4) gNil)))) (sSeq (sAsg (eApp (mkLst true) lNil) (gVar 5)) (sSeq (sFor (iRng (lCons (eVar 3) lNil)) (gVar 6) (sSeq (sAsg (eLc false false [8] (iRng (lCons (eVar 4) lNil)) (gVar 8) (fun _ _ M => .ok true M) (eBin opIx (eBin opIx (eVar 0) (eBin opIx (eBin opIx (eVar 1) (eVar 8)) (eVar 6))) (eVar 8))) (gVar 7)) (sDrop (eMt isLst mApp (eVar 5) (lCons (eMt isStr mJoin (eC (.str [])) (lCons (eVar 7) lNil)) lNil))))) (sRet (eApp pTuple.op (lCons (eVar 5) lNil))))))))
def F_led : DFun := runF true 9 2 B_led
def B_undoing : SemS := (sSeq (sDrop (eApp PR.F_need_frame (lCons (eVar 0) lNil))) (sSeq (sDrop (eApp PR.F_need_row (lCons (eVar 0) (lCons (eVar 1) lNil)))) (sRet (eUn (opRev false) (eVar 1)))))
def F_undoing : DFun := runF true 2 2 B_undoing
def B__joint : SemS := (sSeq (sAsg (eApp (pListA true).op (lCons (eVar 1) lNil)) (gVar 2)) (sSeq (sFor (iZp (lCons (eVar 0) (lCons (eVar 1) lNil))) (gLen 2 (gCons (gVar 3) (gCons (gVar 4) gNil))) (sAsg (eVar 4) (gSub (eVar 2) (eVar 3)))) (sRet (eApp pTuple.op (lCons (eVar 2) lNil)))))
def F__joint : DFun := runF true 5 2 B__joint
def B_joints : SemS := (sSeq (sDrop (eApp PR.F_need_effect (lCons (eVar 0) (lCons (eVar 1) lNil)))) (sSeq (sAsg (eApp tupRg (lCons (eBin opIx (eVar 0) (eC (.int 0))) lNil)) (gVar 2)) (sSeq (sAsg (eApp (mkLst true) lNil) (gVar 3)) (sSeq (sFor (iSeq (eVar 1)) (gVar 4) (sSeq (sDrop (eMt isLst mApp (eVar 3) (lCons (eApp PR.F__joint (lCons (eVar 2) (lCons (eVar 4) lNil))) lNil))) (sAsg (eVar 4) (gVar 2)))) (sRet (eApp pTuple.op (lCons (eVar 3) lNil)))))))
def F_joints : DFun := runF true 5 2 B_joints
def B_with_joints : SemS := (sSeq (sIf (tNot (tOf (eApp PR.F_is_effect (lCons (eVar 0) (lCons (eVar 1) lNil))))) (sRaise "NoJoints") sNil) (sSeq (sAsg (eApp tupRg (lCons (eBin opIx (eVar 0) (eC (.int 0))) lNil)) (gVar 2)) (sSeq (sAsg (eApp (mkLst true) lNil) (gVar 3)) (sSeq (sFor (iSeq (eVar 1)) (gVar 4) (sSeq (sAsg (eApp pTuple.op (lCons (eLc false false [5] (iSeq (eVar 2)) (gVar 5) (fun _ _ M => .ok true M) (eBin opIx (eVar 4) (eVar 5))) lNil)) (gVar 2)) (sDrop (eMt isLst mApp (eVar 3) (lCons (eVar 2) lNil))))) (sRet (eApp pTuple.op (lCons (eVar 3) lNil)))))))
def F_with_joints : DFun := runF true 6 2 B_with_joints
def B__times_home : SemS := (sSeq (sAsg (eC (.int 1)) (gVar 2)) (sSeq (sAsg (eBin opIx (eVar 0) (eVar 1)) (gVar 3)) (sSeq (sWhile (tOf (eBin opNe (eVar 3) (eVar 1))) (sSeq (sAsg (eBin opIx (eVar 0) (eVar 3)) (gVar 3)) (sAug 2 (fun a b => a + b) (eC (.int 1))))) (sRet (eVar 2)))))
def F__times_home : DFun := runF true 4 2 B__times_home
def B_round_from : SemS := (sSeq (sAsg (eApp PR.F_does (lCons (eApp PR.F_frame_of (lCons (eVar 0) lNil)) (lCons (eVar 1) lNil))) (gVar 2)) (sSeq (sAsg (eC (.int 1)) (gVar 3)) (sSeq (sAsg (eApp PR.F_led (lCons (eVar 0) (lCons (eVar 2) lNil))) (gVar 4)) (sSeq (sWhile (tOf (eBin opNe (eVar 4) (eVar 0))) (sSeq (sAsg (eApp PR.F_led (lCons (eVar 4) (lCons (eVar 2) lNil))) (gVar 4)) (sAug 3 (fun a b => a + b) (eC (.int 1))))) (sRet (eVar 3))))))
def F_round_from : DFun := runF true 5 2 B_round_from
def B_round_with : SemS := (sSeq (sAsg (eApp (mkLst true) (lCons (eVar 1) lNil)) (gVar 2)) (sSeq (sWhile (tOf (eBin opNe (eBin opIx (eVar 0) (eBin opIx (eVar 2) (eUn opNeg (eC (.int 1))))) (eVar 1))) (sDrop (eMt isLst mApp (eVar 2) (lCons (eBin opIx (eVar 0) (eBin opIx (eVar 2) (eUn opNeg (eC (.int 1))))) lNil)))) (sRet (eVar 2))))
def F_round_with : DFun := runF true 3 2 B_round_with
def B_rounds_of : SemS := (sSeq (sAsg (eLc false false [2] (iRng (lCons (eApp pLen.op (lCons (eVar 0) lNil)) lNil)) (gVar 2) (fun _ _ M => .ok true M) (eApp PR.F_round_with (lCons (eVar 0) (lCons (eVar 2) lNil)))) (gVar 1)) (sRet (eLc false false [3] (iSeq (eVar 1)) (gVar 3) (tOf (eBin opEq (eBin opIx (eVar 3) (eC (.int 0))) (eApp pMinA.op (lCons (eVar 3) lNil)))) (eVar 3))))
def F_rounds_of : DFun := runF true 4 1 B_rounds_of
def B_exchanges_in : SemS := (sRet (eBin opSub (eApp pLen.op (lCons (eVar 0) lNil)) (eApp pLen.op (lCons (eApp PR.F_rounds_of (lCons (eVar 0) lNil)) lNil))))
def F_exchanges_in : DFun := runF true 1 1 B_exchanges_in
def B_fewest : SemS := (sRet (eApp pSum.op (lCons (eLc false false [2] (iSeq (eApp PR.F_joints (lCons (eVar 0) (lCons (eVar 1) lNil)))) (gVar 2) (fun _ _ M => .ok true M) (eApp PR.F_exchanges_in (lCons (eVar 2) lNil))) lNil)))
def F_fewest : DFun := runF true 3 2 B_fewest
def B_still_to_turn : SemS := (sRet (eApp pTuple.op (lCons (eLc false false [2] (iSeq (eVar 1)) (gVar 2) (fun _ _ M => .ok true M) (eMt isLst mIxL (eVar 0) (lCons (eVar 2) lNil))) lNil)))
def F_still_to_turn : DFun := runF true 3 2 B_still_to_turn
def B__least_cuts : SemS := (sSeq (sAsg (eApp (pListA true).op (lCons (eVar 1) lNil)) (gVar 3)) (sSeq (sAsg (eApp (mkLst true) lNil) (gVar 4)) (sSeq (sWhile (tOf (eBin opNe (eApp pTuple.op (lCons (eVar 3) lNil)) (eVar 2))) (sSeq (sAsg (eLc false false [8] (iSeq (eApp PR.F_rounds_of (lCons (eApp PR.F_still_to_turn (lCons (eVar 3) (lCons (eVar 2) lNil))) lNil))) (gVar 8) (tOf (eBin opGt (eApp pLen.op (lCons (eVar 8) lNil)) (eC (.int 1)))) (eApp (pSortedA false).op (lCons (eVar 8) lNil))) (gVar 5)) (sSeq (sAsg (eSl (opSl false) (eBin opIx (eVar 5) (eC (.int 0))) oNone (oSome (eC (.int 2)))) (gLen 2 (gCons (gVar 6) (gCons (gVar 7) gNil)))) (sSeq (sAsg (eApp mkTup (lCons (eBin opIx (eVar 3) (eVar 7)) (lCons (eBin opIx (eVar 3) (eVar 6)) lNil))) (gLen 2 (gCons (gSub (eVar 3) (eVar 6)) (gCons (gSub (eVar 3) (eVar 7)) gNil)))) (sDrop (eMt isLst mApp (eVar 4) (lCons (eApp mkTup (lCons (eVar 0) (lCons (eVar 6) (lCons (eVar 7) lNil)))) lNil))))))) (sRet (eVar 4)))))
def F__least_cuts : DFun := runF true 9 3 B__least_cuts
def B_shortest : SemS := (sSeq (sDrop (eApp PR.F_need_effect (lCons (eVar 0) (lCons (eVar 1) lNil)))) (sSeq (sAsg (eApp tupRg (lCons (eBin opIx (eVar 0) (eC (.int 0))) lNil)) (gVar 2)) (sSeq (sAsg (eApp (mkLst true) lNil) (gVar 3)) (sSeq (sFor (iEnu (lCons (eVar 1) lNil)) (gLen 2 (gCons (gVar 4) (gCons (gVar 5) gNil))) (sSeq (sDrop (eMt isLst mExt (eVar 3) (lCons (eApp PR.F__least_cuts (lCons (eVar 4) (lCons (eVar 2) (lCons (eVar 5) lNil)))) lNil))) (sAsg (eVar 5) (gVar 2)))) (sRet (eApp pTuple.op (lCons (eVar 3) lNil)))))))
def F_shortest : DFun := runF true 6 2 B_shortest
def B_is_short : SemS := (sSeq (sAsg (eApp PR.F_fewest (lCons (eVar 0) (lCons (eApp PR.F_does (lCons (eVar 0) (lCons (eVar 1) lNil))) lNil))) (gVar 2)) (sRet (eBin opEq (eApp pLen.op (lCons (eVar 1) lNil)) (eVar 2))))
def F_is_short : DFun := runF true 3 2 B_is_short
def B__need_cuts : SemS := (sIf (tNot (tOf (eApp PR.F_is_whole_from (lCons (eVar 0) (lCons (eC (.int 0)) (lCons (eC (.int 48)) lNil)))))) (sRaise "NoCuts") sNil)
def F__need_cuts : DFun := runF true 1 1 B__need_cuts
def B__kind_of : SemS := (sRet (eApp pTuple.op (lCons (eApp (pSortedA false).op (lCons (eLc false false [1] (iSeq (eApp PR.F_rounds_of (lCons (eVar 0) lNil))) (gVar 1) (fun _ _ M => .ok true M) (eApp pLen.op (lCons (eVar 1) lNil))) lNil)) lNil)))
def F__kind_of : DFun := runF true 2 1 B__kind_of
def B__called : SemS := (sSeq (sAsg (eVar 0) (gLen 3 (gCons (gVar 2) (gCons (gVar 3) (gCons (gVar 4) gNil))))) (sSeq (sAsg (eApp (pSortedA false).op (lCons (eApp (mkLst false) (lCons (eBin opIx (eVar 1) (eVar 3)) (lCons (eBin opIx (eVar 1) (eVar 4)) lNil))) lNil)) (gVar 5)) (sRet (eApp mkTup (lCons (eVar 2) (lCons (eBin opIx (eVar 5) (eC (.int 0))) (lCons (eBin opIx (eVar 5) (eC (.int 1))) lNil)))))))
def F__called : DFun := runF true 6 2 B__called
def B__names_by : SemS := (sSeq (sAsg (eApp (lstRg true) (lCons (eVar 0) lNil)) (gVar 2)) (sSeq (sAsg (eVar 1) (gLen 3 (gCons (gVar 3) (gCons (gVar 4) (gCons (gVar 5) gNil))))) (sSeq (sAsg (eApp mkTup (lCons (eVar 5) (lCons (eVar 4) lNil))) (gLen 2 (gCons (gSub (eVar 2) (eVar 4)) (gCons (gSub (eVar 2) (eVar 5)) gNil)))) (sRet (eVar 2)))))
def F__names_by : DFun := runF true 6 2 B__names_by
def B__two_exchanged : SemS := (sSeq (sIf (tOf (eBin opLt (eBin opIx (eVar 1) (eC (.int 0))) (eBin opIx (eVar 2) (eC (.int 0))))) (sRet (eApp mkTup (lCons (eApp PR.F__called (lCons (eVar 2) (lCons (eApp PR.F__names_by (lCons (eVar 0) (lCons (eVar 1) lNil))) lNil))) (lCons (eVar 1) lNil)))) sNil) (sRet (eApp mkTup (lCons (eVar 2) (lCons (eApp PR.F__called (lCons (eVar 1) (lCons (eApp PR.F__names_by (lCons (eVar 0) (lCons (eVar 2) lNil))) lNil))) lNil)))))
def F__two_exchanged : DFun := runF true 3 3 B__two_exchanged
def B_exchanged : SemS := (sSeq (sDrop (eApp PR.F_need_frame (lCons (eVar 0) lNil))) (sSeq (sDrop (eApp PR.F_need_row (lCons (eVar 0) (lCons (eVar 1) lNil)))) (sSeq (sIf (tNot (tOf (eApp PR.F_is_whole_from (lCons (eVar 2) (lCons (eC (.int 0)) (lCons (eBin opSub (eApp pLen.op (lCons (eVar 1) lNil)) (eC (.int 2))) lNil)))))) (sRaise "NoAt") sNil) (sRet (eBin (opAdd false) (eBin (opAdd false) (eSl (opSl false) (eVar 1) oNone (oSome (eVar 2))) (eApp PR.F__two_exchanged (lCons (eBin opIx (eVar 0) (eC (.int 0))) (lCons (eBin opIx (eVar 1) (eVar 2)) (lCons (eBin opIx (eVar 1) (eBin (opAdd false) (eVar 2) (eC (.int 1)))) lNil))))) (eSl (opSl false) (eVar 1) (oSome (eBin (opAdd false) (eVar 2) (eC (.int 2)))) oNone))))))
def F_exchanged : DFun := runF true 3 3 B_exchanged
def B__with_two_exchanged : SemS := (sSeq (sAsg (eApp (pListA true).op (lCons (eVar 0) lNil)) (gVar 3)) (sSeq (sAsg (eApp mkTup (lCons (eBin opIx (eVar 0) (eVar 2)) (lCons (eBin opIx (eVar 0) (eVar 1)) lNil))) (gLen 2 (gCons (gSub (eVar 3) (eVar 1)) (gCons (gSub (eVar 3) (eVar 2)) gNil)))) (sRet (eApp pTuple.op (lCons (eVar 3) lNil)))))
def F__with_two_exchanged : DFun := runF true 4 3 B__with_two_exchanged
def B_parts : SemS := (sSeq (sAsg (eApp PR.F_does (lCons (eVar 0) (lCons (eVar 1) lNil))) (gVar 3)) (sSeq (sAsg (eApp PR.F_does (lCons (eVar 0) (lCons (eVar 2) lNil))) (gVar 4)) (sSeq (sAsg (eVar 0) (gLen 2 (gCons (gVar 5) (gCons (gVar 6) gNil)))) (sSeq (sFor (iRng (lCons (eVar 6) lNil)) (gVar 7) (sFor (iRng (lCons (eVar 5) lNil)) (gVar 8) (sIf (tOf (eBin opNe (eBin opIx (eBin opIx (eVar 3) (eVar 7)) (eVar 8)) (eBin opIx (eBin opIx (eVar 4) (eVar 7)) (eVar 8)))) (sRet (eApp mkTup (lCons (eVar 7) (lCons (eVar 8) lNil)))) sNil))) (sRet (eC .non))))))
def F_parts : DFun := runF true 9 3 B_parts
def B_how_many_take : SemS := (sSeq (sDrop (eApp PR.F_need_frame (lCons (eVar 0) lNil))) (sSeq (sDrop (eApp PR.F__need_cuts (lCons (eVar 1) lNil))) (sSeq (sAsg (eVar 0) (gLen 2 (gCons (gVar 2) (gCons (gVar 3) gNil)))) (sSeq (sAsg (eBin (opAdd false) (eApp (mkLst false) (lCons (eC (.int 1)) lNil)) (eBin (opMul false) (eApp (mkLst false) (lCons (eC (.int 0)) lNil)) (eVar 1))) (gVar 4)) (sSeq (sFor (iRng (lCons (eVar 3) lNil)) (gVar 5) (sFor (iRng (lCons (eC (.int 1)) (lCons (eVar 2) lNil))) (gVar 6) (sAsg (eLc false false [7, 8] (iZp (lCons (eVar 4) (lCons (eBin (opAdd false) (eApp (mkLst false) (lCons (eC (.int 0)) lNil)) (eVar 4)) lNil))) (gLen 2 (gCons (gVar 7) (gCons (gVar 8) gNil))) (fun _ _ M => .ok true M) (eBin (opAdd false) (eVar 7) (eBin (opMul false) (eVar 6) (eVar 8)))) (gVar 4)))) (sRet (eBin opIx (eVar 4) (eVar 1))))))))
def F_how_many_take : DFun := runF true 9 2 B_how_many_take
def B__is_joint_between : SemS := (sRet (eBin opEq (eBin (opAdd false) (eApp PR.F_exchanges_in (lCons (eVar 0) lNil)) (eApp PR.F_exchanges_in (lCons (eApp PR.F_still_to_turn (lCons (eVar 0) (lCons (eVar 1) lNil))) lNil))) (eApp PR.F_exchanges_in (lCons (eVar 1) lNil))))
def F__is_joint_between : DFun := runF true 2 2 B__is_joint_between
def B_is_between : SemS := (sSeq (sAsg (eApp PR.F_joints (lCons (eVar 0) (lCons (eVar 1) lNil))) (gVar 3)) (sSeq (sAsg (eApp PR.F_joints (lCons (eVar 0) (lCons (eVar 2) lNil))) (gVar 4)) (sRet (eApp pAll.op (lCons (eLc false false [5, 6] (iZp (lCons (eVar 3) (lCons (eVar 4) lNil))) (gLen 2 (gCons (gVar 5) (gCons (gVar 6) gNil))) (fun _ _ M => .ok true M) (eApp PR.F__is_joint_between (lCons (eVar 5) (lCons (eVar 6) lNil)))) lNil)))))
def F_is_between : DFun := runF true 7 3 B_is_between
def B_need_place : SemS := (sIf (tNot (tOf (eApp PR.F_is_whole_from (lCons (eVar 1) (lCons (eC (.int 0)) (lCons (eBin opSub (eBin opIx (eVar 0) (eC (.int 1))) (eC (.int 1))) lNil)))))) (sRaise "NoPlace") sNil)
def F_need_place : DFun := runF true 2 2 B_need_place
def B_need_ribbon : SemS := (sIf (tNot (tOf (eApp PR.F_is_whole_from (lCons (eVar 1) (lCons (eC (.int 0)) (lCons (eBin opSub (eBin opIx (eVar 0) (eC (.int 0))) (eC (.int 1))) lNil)))))) (sRaise "NoRibbon") sNil)
def F_need_ribbon : DFun := runF true 2 2 B_need_ribbon
def B__wall : SemS := (sWhile (tOf (eC (.bl true))) sPass)
def F__wall : DFun := runF true 1 1 B__wall
def B__behind_those_at : SemS := (sSeq (sAsg (eApp (lstRg true) (lCons (eVar 0) lNil)) (gVar 3)) (sSeq (sAsg (eApp (mkLst true) lNil) (gVar 4)) (sSeq (sFor (iSeq (eUn (opRev false) (eVar 1))) (gVar 5) (sSeq (sAsg (eVar 5) (gLen 3 (gCons (gVar 6) (gCons (gVar 7) (gCons (gVar 8) gNil))))) (sIf (tOf (eBin opEq (eVar 6) (eVar 2))) (sAsg (eApp mkTup (lCons (eBin opIx (eVar 3) (eVar 8)) (lCons (eBin opIx (eVar 3) (eVar 7)) lNil))) (gLen 2 (gCons (gSub (eVar 3) (eVar 7)) (gCons (gSub (eVar 3) (eVar 8)) gNil)))) (sDrop (eMt isLst mApp (eVar 4) (lCons (eApp PR.F__called (lCons (eVar 5) (lCons (eVar 3) lNil))) lNil)))))) (sRet (eUn (opRev false) (eVar 4))))))
def F__behind_those_at : DFun := runF true 9 3 B__behind_those_at
def B_rising : SemS := (sSeq (sDrop (eApp PR.F_need_frame (lCons (eVar 0) lNil))) (sSeq (sDrop (eApp PR.F_need_row (lCons (eVar 0) (lCons (eVar 1) lNil)))) (sSeq (sAsg (eVar 0) (gLen 2 (gCons (gVar 2) (gCons (gVar 3) gNil)))) (sSeq (sAsg (eApp (pListA false).op (lCons (eVar 1) lNil)) (gVar 4)) (sSeq (sAsg (eApp (mkLst true) lNil) (gVar 5)) (sSeq (sFor (iRng (lCons (eVar 3) lNil)) (gVar 6) (sSeq (sDrop (eMt isLst mExt (eVar 5) (lCons (eLc false false [7] (iSeq (eVar 4)) (gVar 7) (tOf (eBin opEq (eBin opIx (eVar 7) (eC (.int 0))) (eVar 6))) (eVar 7)) lNil))) (sAsg (eApp PR.F__behind_those_at (lCons (eVar 2) (lCons (eVar 4) (lCons (eVar 6) lNil)))) (gVar 4)))) (sRet (eApp pTuple.op (lCons (eVar 5) lNil)))))))))
def F_rising : DFun := runF true 8 2 B_rising
end PR

namespace PS
open PySem L2 DL
def B_exchanged_at : SemS := (sRet (eBin (opAdd false) (eBin (opAdd false) (eSl (opSl false) (eVar 1) oNone (oSome (eVar 2))) (eApp PR.F__two_exchanged (lCons (eVar 0) (lCons (eBin opIx (eVar 1) (eVar 2)) (lCons (eBin opIx (eVar 1) (eBin (opAdd false) (eVar 2) (eC (.int 1)))) lNil))))) (eSl (opSl false) (eVar 1) (oSome (eBin (opAdd false) (eVar 2) (eC (.int 2)))) oNone)))
def F_exchanged_at : DFun := runF true 3 3 B_exchanged_at
def B_exchanged : SemS := (sSeq (sDrop (eApp PR.F_need_frame (lCons (eVar 0) lNil))) (sSeq (sDrop (eApp PR.F_need_row (lCons (eVar 0) (lCons (eVar 1) lNil)))) (sSeq (sIf (tNot (tOf (eApp PR.F_is_whole_from (lCons (eVar 2) (lCons (eC (.int 0)) (lCons (eBin opSub (eApp pLen.op (lCons (eVar 1) lNil)) (eC (.int 2))) lNil)))))) (sRaise "NoAt") sNil) (sRet (eApp PS.F_exchanged_at (lCons (eBin opIx (eVar 0) (eC (.int 0))) (lCons (eVar 1) (lCons (eVar 2) lNil))))))))
def F_exchanged : DFun := runF true 3 3 B_exchanged
def B_fits : SemS := (sRet (eApp pAll.op (lCons (eLc false false [4, 5] (iZp (lCons (eVar 1) (lCons (eVar 3) lNil))) (gLen 2 (gCons (gVar 4) (gCons (gVar 5) gNil))) (fun _ _ M => .ok true M) (eOr (eBin opIsA (eVar 4) (eC .non)) (eBin opEq (eBin opIx (eVar 4) (eVar 2)) (eBin opIx (eBin opIx (eVar 0) (eVar 5)) (eVar 2))))) lNil)))
def F_fits : DFun := runF true 6 4 B_fits
def B__lacks_at : SemS := (sSeq (sAsg (eLc false false [5] (iSeq (eVar 0)) (gVar 5) (fun _ _ M => .ok true M) (eBin opIx (eVar 5) (eVar 2))) (gVar 3)) (sSeq (sAsg (eLc false false [5] (iSeq (eVar 1)) (gVar 5) (tOf (eBin opNotA (eVar 5) (eC .non))) (eBin opIx (eVar 5) (eVar 2))) (gVar 4)) (sRet (eApp pAny.op (lCons (eLc false false [6] (iSeq (eVar 4)) (gVar 6) (fun _ _ M => .ok true M) (eBin opGt (eMt isLst mCnt (eVar 4) (lCons (eVar 6) lNil)) (eMt isLst mCnt (eVar 3) (lCons (eVar 6) lNil)))) lNil)))))
def F__lacks_at : DFun := runF true 7 3 B__lacks_at
def B_need_goal : SemS := (sSeq (sAsg (eApp PR.F_frame_of (lCons (eVar 0) lNil)) (gVar 2)) (sIf (tOr (tNot (tOf (eApp PR.F_is_board (lCons (eVar 1) lNil)))) (tOf (eBin opNe (eApp PR.F_frame_of (lCons (eVar 1) lNil)) (eVar 2)))) (sRaise "NoGoal") sNil))
def F_need_goal : DFun := runF true 3 2 B_need_goal
def B__need_prices : SemS := (sSeq (sAsg (eApp PR.F_frame_of (lCons (eVar 0) lNil)) (gLen 2 (gCons (gVar 2) (gCons (gVar 3) gNil)))) (sSeq (sIf (tOr (tNot (tOf (eApp pIsi.op (lCons (eVar 1) (lCons (eC (.ty "tuple")) lNil))))) (tOf (eBin opNe (eApp pLen.op (lCons (eVar 1) lNil)) (eVar 3)))) (sRaise "NoPrices") sNil) (sIf (tNot (tOf (eApp pAll.op (lCons (eLc false false [4] (iSeq (eVar 1)) (gVar 4) (fun _ _ M => .ok true M) (eOr (eBin opIsA (eVar 4) (eC .non)) (eApp PR.F_is_whole_from (lCons (eVar 4) (lCons (eC (.int 1)) (lCons (eC (.int 9)) lNil)))))) lNil)))) (sRaise "NoPrices") sNil)))
def F__need_prices : DFun := runF true 5 2 B__need_prices
def B__texts_within : SemS := (sSeq (sAsg (eVar 1) (gLen 2 (gCons (gVar 2) (gCons (gVar 3) gNil)))) (sRet (eLc false false [4] (iSeq (eVar 0)) (gVar 4) (fun _ _ M => .ok true M) (eSl (opSl false) (eVar 4) (oSome (eVar 2)) (oSome (eBin (opAdd false) (eVar 3) (eC (.int 1))))))))
def F__texts_within : DFun := runF true 5 2 B__texts_within
def B__is_there : SemS := (sSeq (sAsg (eApp PS.F__texts_within (lCons (eVar 0) (lCons (eVar 3) lNil))) (gVar 4)) (sSeq (sAsg (eApp PS.F__texts_within (lCons (eVar 1) (lCons (eVar 3) lNil))) (gVar 5)) (sSeq (sIf (tOf (eBin opIsA (eBin opIx (eVar 2) (eBin opIx (eVar 3) (eC (.int 0)))) (eC .non))) (sRet (eBin opEq (eVar 4) (eVar 5))) sNil) (sRet (eBin opEq (eApp (pSortedA false).op (lCons (eVar 4) lNil)) (eApp (pSortedA false).op (lCons (eVar 5) lNil)))))))
def F__is_there : DFun := runF true 6 4 B__is_there
def B__need_short_rows : SemS := (sSeq (sDrop (eApp PR.F_need_frame (lCons (eVar 0) lNil))) (sSeq (sDrop (eApp PR.F_need_row (lCons (eVar 0) (lCons (eVar 1) lNil)))) (sSeq (sDrop (eApp PR.F_need_row (lCons (eVar 0) (lCons (eVar 2) lNil)))) (sIf (tOr (tNot (tOf (eApp PR.F_is_short (lCons (eVar 0) (lCons (eVar 1) lNil))))) (tNot (tOf (eApp PR.F_is_short (lCons (eVar 0) (lCons (eVar 2) lNil)))))) (sRaise "NotShort") sNil))))
def F__need_short_rows : DFun := runF true 3 3 B__need_short_rows
def B__numbers_to_rise : SemS := (sSeq (sAsg (eLc true false [5] (iSeq (eVar 0)) (gVar 5) (fun _ _ M => .ok true M) (eBin opIx (eVar 5) (eC (.int 0)))) (gVar 1)) (sSeq (sAsg (eApp (mkLst true) lNil) (gVar 2)) (sSeq (sFor (iRng (lCons (eC (.int 1)) (lCons (eApp pLen.op (lCons (eVar 1) lNil)) lNil))) (gVar 3) (sSeq (sAsg (eVar 3) (gVar 4)) (sWhile (tAnd (tOf (eBin opGt (eVar 4) (eC (.int 0)))) (tOf (eBin opGt (eBin opIx (eVar 1) (eBin opSub (eVar 4) (eC (.int 1)))) (eBin opIx (eVar 1) (eVar 4))))) (sSeq (sAsg (eApp mkTup (lCons (eBin opIx (eVar 1) (eVar 4)) (lCons (eBin opIx (eVar 1) (eBin opSub (eVar 4) (eC (.int 1)))) lNil))) (gLen 2 (gCons (gSub (eVar 1) (eBin opSub (eVar 4) (eC (.int 1)))) (gCons (gSub (eVar 1) (eVar 4)) gNil)))) (sSeq (sAug 4 (fun a b => a - b) (eC (.int 1))) (sDrop (eMt isLst mApp (eVar 2) (lCons (eVar 4) lNil)))))))) (sRet (eVar 2)))))
def F__numbers_to_rise : DFun := runF true 6 1 B__numbers_to_rise
def B__exchanged_by : SemS := (sSeq (sFor (iSeq (eVar 2)) (gVar 3) (sAsg (eApp PS.F_exchanged_at (lCons (eVar 0) (lCons (eVar 1) (lCons (eVar 3) lNil)))) (gVar 1))) (sRet (eVar 1)))
def F__exchanged_by : DFun := runF true 4 3 B__exchanged_by
def B__numbers_at_one_place : SemS := (sSeq (sAsg (eDct (semP [((eVar 1), (eApp mkTup lNil))])) (gVar 3)) (sSeq (sAsg (eApp (mkLst false) (lCons (eVar 1) lNil)) (gVar 4)) (sSeq (sWhile (tOf (eBin opNotIn (eVar 2) (eVar 3))) (sSeq (sAsg (eApp (mkLst true) lNil) (gVar 5)) (sSeq (sFor (iSeq (eVar 4)) (gVar 6) (sFor (iRng (lCons (eBin opSub (eApp pLen.op (lCons (eVar 6) lNil)) (eC (.int 1))) lNil)) (gVar 7) (sSeq (sAsg (eApp PS.F_exchanged_at (lCons (eVar 0) (lCons (eVar 6) (lCons (eVar 7) lNil)))) (gVar 8)) (sIf (tOf (eBin opNotIn (eVar 8) (eVar 3))) (sSeq (sAsg (eBin (opAdd false) (eBin opIx (eVar 3) (eVar 6)) (eApp mkTup (lCons (eVar 7) lNil))) (gSub (eVar 3) (eVar 8))) (sDrop (eMt isLst mApp (eVar 5) (lCons (eVar 8) lNil)))) sNil)))) (sAsg (eVar 5) (gVar 4))))) (sRet (eBin opIx (eVar 3) (eVar 2))))))
def F__numbers_at_one_place : DFun := runF true 9 3 B__numbers_at_one_place
def B__numbers_place_by_place : SemS := (sSeq (sAsg (eVar 0) (gLen 2 (gCons (gVar 3) (gCons (gVar 4) gNil)))) (sSeq (sAsg (eApp (mkLst true) lNil) (gVar 5)) (sSeq (sFor (iRng (lCons (eVar 4) lNil)) (gVar 6) (sSeq (sAsg (eApp pTuple.op (lCons (eLc false false [10] (iSeq (eVar 1)) (gVar 10) (tOf (eBin opEq (eBin opIx (eVar 10) (eC (.int 0))) (eVar 6))) (eVar 10)) lNil)) (gVar 7)) (sSeq (sAsg (eApp pTuple.op (lCons (eLc false false [10] (iSeq (eVar 2)) (gVar 10) (tOf (eBin opEq (eBin opIx (eVar 10) (eC (.int 0))) (eVar 6))) (eVar 10)) lNil)) (gVar 8)) (sSeq (sAsg (eApp pLen.op (lCons (eLc false false [10] (iSeq (eVar 1)) (gVar 10) (tOf (eBin opLt (eBin opIx (eVar 10) (eC (.int 0))) (eVar 6))) (eVar 10)) lNil)) (gVar 9)) (sDrop (eMt isLst mExt (eVar 5) (lCons (eLc false false [11] (iSeq (eApp PS.F__numbers_at_one_place (lCons (eVar 3) (lCons (eVar 7) (lCons (eVar 8) lNil))))) (gVar 11) (fun _ _ M => .ok true M) (eBin (opAdd false) (eVar 9) (eVar 11))) lNil))))))) (sRet (eVar 5)))))
def F__numbers_place_by_place : DFun := runF true 12 3 B__numbers_place_by_place
def B__numbers_from_to : SemS := (sSeq (sIf (tOf (eBin opEq (eVar 1) (eVar 2))) (sRet (eApp mkTup lNil)) sNil) (sSeq (sAsg (eApp PS.F__numbers_to_rise (lCons (eVar 1) lNil)) (gVar 3)) (sSeq (sAsg (eApp PS.F__numbers_to_rise (lCons (eVar 2) lNil)) (gVar 4)) (sSeq (sAsg (eApp PS.F__exchanged_by (lCons (eBin opIx (eVar 0) (eC (.int 0))) (lCons (eVar 1) (lCons (eVar 3) lNil)))) (gVar 5)) (sSeq (sAsg (eApp PS.F__exchanged_by (lCons (eBin opIx (eVar 0) (eC (.int 0))) (lCons (eVar 2) (lCons (eVar 4) lNil)))) (gVar 6)) (sRet (eApp pTuple.op (lCons (eBin (opAdd false) (eBin (opAdd false) (eVar 3) (eApp PS.F__numbers_place_by_place (lCons (eVar 0) (lCons (eVar 5) (lCons (eVar 6) lNil))))) (eUn (opRev false) (eVar 4))) lNil))))))))
def F__numbers_from_to : DFun := runF true 7 3 B__numbers_from_to
def B_leading : SemS := (sSeq (sDrop (eApp PS.F__need_short_rows (lCons (eVar 0) (lCons (eVar 1) (lCons (eVar 2) lNil))))) (sSeq (sAsg (eApp PR.F_parts (lCons (eVar 0) (lCons (eVar 1) (lCons (eVar 2) lNil)))) (gVar 3)) (sSeq (sIf (tOf (eBin opIsA (eVar 3) (eC .non))) (sRet (eApp mkTup (lCons (eC (.str [110, 117, 109, 98, 101, 114, 115])) (lCons (eApp PS.F__numbers_from_to (lCons (eVar 0) (lCons (eVar 1) (lCons (eVar 2) lNil)))) lNil)))) sNil) (sRet (eApp mkTup (lCons (eC (.str [112, 97, 114, 116, 115])) (lCons (eBin opIx (eVar 3) (eC (.int 0))) (lCons (eBin opIx (eVar 3) (eC (.int 1))) lNil))))))))
def F_leading : DFun := runF true 4 3 B_leading
def B_is_told : SemS := (sRet (eAnd (eApp pIsi.op (lCons (eVar 0) (lCons (eC (.ty "tuple")) lNil))) (eAnd (eBin opEq (eApp pLen.op (lCons (eVar 0) lNil)) (eVar 2)) (eBin opEq (eBin opIx (eVar 0) (eC (.int 0))) (eVar 1)))))
def F_is_told : DFun := runF true 3 3 B_is_told
def B__do_lead : SemS := (sSeq (sIf (tNot (tOf (eApp pIsi.op (lCons (eVar 3) (lCons (eC (.ty "tuple")) lNil))))) (sRet (eC (.bl false))) sNil) (sSeq (sIf (tNot (tOf (eApp pAll.op (lCons (eLc false false [4] (iSeq (eVar 3)) (gVar 4) (fun _ _ M => .ok true M) (eApp PR.F_is_whole_from (lCons (eVar 4) (lCons (eC (.int 0)) (lCons (eBin opSub (eApp pLen.op (lCons (eVar 1) lNil)) (eC (.int 2))) lNil))))) lNil)))) (sRet (eC (.bl false))) sNil) (sRet (eBin opEq (eApp PS.F__exchanged_by (lCons (eVar 0) (lCons (eVar 1) (lCons (eVar 3) lNil)))) (eVar 2)))))
def F__do_lead : DFun := runF true 5 4 B__do_lead
def B__are_unlike_at : SemS := (sSeq (sAsg (eVar 0) (gLen 2 (gCons (gVar 5) (gCons (gVar 6) gNil)))) (sSeq (sIf (tOr (tNot (tOf (eApp PR.F_is_whole_from (lCons (eVar 3) (lCons (eC (.int 0)) (lCons (eBin opSub (eVar 6) (eC (.int 1))) lNil)))))) (tNot (tOf (eApp PR.F_is_whole_from (lCons (eVar 4) (lCons (eC (.int 0)) (lCons (eBin opSub (eVar 5) (eC (.int 1))) lNil))))))) (sRet (eC (.bl false))) sNil) (sRet (eBin opNe (eBin opIx (eBin opIx (eApp PR.F_does (lCons (eVar 0) (lCons (eVar 1) lNil))) (eVar 3)) (eVar 4)) (eBin opIx (eBin opIx (eApp PR.F_does (lCons (eVar 0) (lCons (eVar 2) lNil))) (eVar 3)) (eVar 4))))))
def F__are_unlike_at : DFun := runF true 7 5 B__are_unlike_at
def B_shows_leading : SemS := (sSeq (sDrop (eApp PS.F__need_short_rows (lCons (eVar 0) (lCons (eVar 1) (lCons (eVar 2) lNil))))) (sSeq (sIf (tOf (eApp PS.F_is_told (lCons (eVar 3) (lCons (eC (.str [110, 117, 109, 98, 101, 114, 115])) (lCons (eC (.int 2)) lNil))))) (sRet (eApp PS.F__do_lead (lCons (eBin opIx (eVar 0) (eC (.int 0))) (lCons (eVar 1) (lCons (eVar 2) (lCons (eBin opIx (eVar 3) (eC (.int 1))) lNil)))))) sNil) (sSeq (sIf (tOf (eApp PS.F_is_told (lCons (eVar 3) (lCons (eC (.str [112, 97, 114, 116, 115])) (lCons (eC (.int 3)) lNil))))) (sRet (eApp PS.F__are_unlike_at (lCons (eVar 0) (lCons (eVar 1) (lCons (eVar 2) (lCons (eBin opIx (eVar 3) (eC (.int 1))) (lCons (eBin opIx (eVar 3) (eC (.int 2))) lNil))))))) sNil) (sRet (eC (.bl false))))))
def F_shows_leading : DFun := runF true 4 4 B_shows_leading
def B__need_wishes : SemS := (sSeq (sAsg (eApp PR.F_frame_of (lCons (eVar 0) lNil)) (gLen 2 (gCons (gVar 2) (gCons (gVar 3) gNil)))) (sSeq (sIf (tOr (tNot (tOf (eApp pIsi.op (lCons (eVar 1) (lCons (eC (.ty "tuple")) lNil))))) (tOf (eBin opNe (eApp pLen.op (lCons (eVar 1) lNil)) (eVar 2)))) (sRaise "NoWishes") sNil) (sSeq (sAsg (eLc false false [5] (iSeq (eVar 1)) (gVar 5) (tOf (eBin opNotA (eVar 5) (eC .non))) (eVar 5)) (gVar 4)) (sIf (tNot (tOf (eApp pAll.op (lCons (eLc false false [5] (iSeq (eVar 4)) (gVar 5) (fun _ _ M => .ok true M) (eAnd (eApp PR.F_is_ribbon_text (lCons (eVar 5) lNil)) (eBin opEq (eApp pLen.op (lCons (eVar 5) lNil)) (eVar 3)))) lNil)))) (sRaise "NoWishes") sNil))))
def F__need_wishes : DFun := runF true 6 2 B__need_wishes
def B_pieces : SemS := (sSeq (sDrop (eApp PR.F_need_effect (lCons (eVar 0) (lCons (eVar 1) lNil)))) (sSeq (sDrop (eApp PR.F_need_ribbon (lCons (eVar 0) (lCons (eVar 2) lNil)))) (sSeq (sAsg (eApp (mkLst true) lNil) (gVar 3)) (sSeq (sFor (iEnu (lCons (eVar 1) lNil)) (gLen 2 (gCons (gVar 4) (gCons (gVar 5) gNil))) (sSeq (sAsg (eVar 4) (gVar 6)) (sSeq (sIf (tAnd (tTr (eVar 3)) (tOf (eBin opEq (eBin opIx (eBin opIx (eVar 3) (eUn opNeg (eC (.int 1)))) (eC (.int 0))) (eBin opIx (eVar 5) (eVar 2))))) (sAsg (eBin opIx (eMt isLst mPop (eVar 3) lNil) (eC (.int 1))) (gVar 6)) sNil) (sDrop (eMt isLst mApp (eVar 3) (lCons (eApp mkTup (lCons (eBin opIx (eVar 5) (eVar 2)) (lCons (eVar 6) (lCons (eVar 4) lNil)))) lNil)))))) (sRet (eApp pTuple.op (lCons (eVar 3) lNil)))))))
def F_pieces : DFun := runF true 7 3 B_pieces
def B_how_many_pieces : SemS := (sSeq (sDrop (eApp PR.F_need_effect (lCons (eVar 0) (lCons (eVar 1) lNil)))) (sRet (eApp pSum.op (lCons (eLc false false [2] (iRng (lCons (eBin opIx (eVar 0) (eC (.int 0))) lNil)) (gVar 2) (fun _ _ M => .ok true M) (eApp pLen.op (lCons (eApp PS.F_pieces (lCons (eVar 0) (lCons (eVar 1) (lCons (eVar 2) lNil)))) lNil))) lNil))))
def F_how_many_pieces : DFun := runF true 3 2 B_how_many_pieces
def B_board_text : SemS := (sSeq (sDrop (eApp PR.F_need_board (lCons (eVar 0) lNil))) (sRet (eMt isStr mJoin (eC (.str [])) (lCons (eLc false false [1] (iSeq (eVar 0)) (gVar 1) (fun _ _ M => .ok true M) (eBin (opAdd false) (eVar 1) (eC (.str [10])))) lNil))))
def F_board_text : DFun := runF true 2 1 B_board_text
def B__number_written : SemS := (sSeq (sIf (tNot (tOf (eChain .le .le (eC (.int 1)) (eApp pLen.op (lCons (eVar 0) lNil)) (eC (.int 12))))) (sRet (eC .non)) sNil) (sSeq (sIf (tNot (tOf (eApp pAll.op (lCons (eLc false false [1] (iSeq (eVar 0)) (gVar 1) (fun _ _ M => .ok true M) (eChain .le .le (eC (.str [48])) (eVar 1) (eC (.str [57])))) lNil)))) (sRet (eC .non)) sNil) (sSeq (sIf (tAnd (tOf (eBin opEq (eBin opIx (eVar 0) (eC (.int 0))) (eC (.str [48])))) (tOf (eBin opNe (eVar 0) (eC (.str [48]))))) (sRet (eC .non)) sNil) (sRet (eApp pInt.op (lCons (eVar 0) lNil))))))
def F__number_written : DFun := runF true 2 1 B__number_written
end PS

namespace LX
open PySem L2 DL
def B__law_pen : SemS := (sRet (eApp (mkLst true) (lCons (eApp pMax.op (lCons (eC (.int 0)) (lCons (eBin opSub (eVar 0) (eBin opPow (eC (.int 10)) (eC (.int 18)))) lNil))) (lCons (eBin opMod (eVar 0) (eC (.int 1000000007))) (lCons (eC (.int 0)) lNil)))))
def F__law_pen : DFun := runF false 1 1 B__law_pen
def B__law_draw : SemS := (sSeq (sIf (tOf (eBin opGt (eBin opIx (eVar 0) (eC (.int 0))) (eC (.int 0)))) (sSeq (sAsg (eBin opMod (eBin opIx (eVar 0) (eC (.int 0))) (eVar 1)) (gVar 2)) (sSeq (sAsg (eBin opFdiv (eBin opIx (eVar 0) (eC (.int 0))) (eVar 1)) (gSub (eVar 0) (eC (.int 0)))) (sRet (eVar 2)))) sNil) (sSeq (sAsg (eBin (opAdd false) (eBin opIx (eVar 0) (eC (.int 2))) (eC (.int 1))) (gSub (eVar 0) (eC (.int 2)))) (sSeq (sAsg (eBin opMod (eBin (opMul false) (eBin (opAdd false) (eBin opIx (eVar 0) (eC (.int 1))) (eBin (opMul false) (eC (.int 17)) (eBin opIx (eVar 0) (eC (.int 2))))) (eBin (opAdd false) (eC (.int 69621)) (eBin (opMul false) (eC (.int 2)) (eBin opIx (eVar 0) (eC (.int 2)))))) (eC (.int 2147483647))) (gVar 3)) (sSeq (sAsg (eBin opMod (eBin (opAdd false) (eBin (opAdd false) (eBin (opMul false) (eVar 3) (eVar 3)) (eBin (opMul false) (eC (.int 40503)) (eBin opIx (eVar 0) (eC (.int 2))))) (eC (.int 5))) (eC (.int 2147483629))) (gVar 3)) (sRet (eBin opMod (eBin opFdiv (eBin opMod (eBin (opMul false) (eVar 3) (eC (.int 48271))) (eC (.int 2147483647))) (eC (.int 32))) (eVar 1)))))))
def F__law_draw : DFun := runF true 4 2 B__law_draw
def B__law_pick : SemS := (sRet (eBin opIx (eVar 1) (eApp LX.F__law_draw (lCons (eVar 0) (lCons (eApp pLen.op (lCons (eVar 1) lNil)) lNil)))))
def F__law_pick : DFun := runF true 2 2 B__law_pick
def B__law_frame : SemS := (sRet (eApp mkTup (lCons (eBin (opAdd false) (eC (.int 1)) (eApp LX.F__law_draw (lCons (eVar 0) (lCons (eVar 1) lNil)))) (lCons (eBin (opAdd false) (eC (.int 1)) (eApp LX.F__law_draw (lCons (eVar 0) (lCons (eVar 2) lNil)))) lNil))))
def F__law_frame : DFun := runF true 3 3 B__law_frame
def B__law_row : SemS := (sSeq (sPar 3 4 (lCons (eApp mkTup lNil) (lCons (eApp (mkLst false) (lCons (eC (.int 0)) (lCons (eBin opSub (eBin opIx (eVar 1) (eC (.int 1))) (eC (.int 1))) (lCons (eApp LX.F__law_draw (lCons (eVar 0) (lCons (eBin opIx (eVar 1) (eC (.int 1))) lNil))) lNil)))) lNil))) (sSeq (sFor (iRng (lCons (eBin (opMul false) (eApp LX.F__law_draw (lCons (eVar 0) (lCons (eBin (opAdd false) (eVar 2) (eC (.int 1))) lNil))) (eApp pInt.op (lCons (eBin opGt (eBin opIx (eVar 1) (eC (.int 0))) (eC (.int 1))) lNil))) lNil)) (gVar 5) (sSeq (sAsg (eApp LX.F__law_draw (lCons (eVar 0) (lCons (eBin opSub (eBin opIx (eVar 1) (eC (.int 0))) (eC (.int 1))) lNil))) (gVar 6)) (sSeq (sAsg (eBin (opAdd false) (eBin (opAdd false) (eVar 6) (eC (.int 1))) (eApp LX.F__law_draw (lCons (eVar 0) (lCons (eBin opSub (eBin opSub (eBin opIx (eVar 1) (eC (.int 0))) (eC (.int 1))) (eVar 6)) lNil)))) (gVar 7)) (sSeq (sAsg (eBin opIx (eApp (mkLst false) (lCons (eApp LX.F__law_pick (lCons (eVar 0) (lCons (eVar 4) lNil))) (lCons (eApp LX.F__law_draw (lCons (eVar 0) (lCons (eBin opIx (eVar 1) (eC (.int 1))) lNil))) lNil))) (eApp LX.F__law_draw (lCons (eVar 0) (lCons (eC (.int 2)) lNil)))) (gVar 8)) (sAsg (eBin (opAdd false) (eVar 3) (eApp mkTup (lCons (eApp mkTup (lCons (eVar 8) (lCons (eVar 6) (lCons (eVar 7) lNil)))) lNil))) (gVar 3)))))) (sRet (eVar 3))))
def F__law_row : DFun := runF true 9 3 B__law_row
def B__law_called : SemS := (sSeq (sAsg (eApp (mkLst true) lNil) (gVar 2)) (sSeq (sFor (iSeq (eVar 0)) (gVar 3) (sDrop (eMt isLst mApp (eVar 2) (lCons (eIf (tOf (eBin opEq (eVar 3) (eBin opIx (eVar 1) (eC (.int 1))))) (eBin opIx (eVar 1) (eC (.int 2))) (eIf (tOf (eBin opEq (eVar 3) (eBin opIx (eVar 1) (eC (.int 2))))) (eBin opIx (eVar 1) (eC (.int 1))) (eVar 3))) lNil)))) (sRet (eApp pTuple.op (lCons (eApp (pSortedA false).op (lCons (eVar 2) lNil)) lNil)))))
def F__law_called : DFun := runF true 4 2 B__law_called
def B__law_exchanged : SemS := (sSeq (sPar 2 3 (lCons (eBin opIx (eVar 0) (eVar 1)) (lCons (eBin opIx (eVar 0) (eBin (opAdd false) (eVar 1) (eC (.int 1)))) lNil))) (sSeq (sIf (tOf (eBin opLt (eBin opIx (eVar 2) (eC (.int 0))) (eBin opIx (eVar 3) (eC (.int 0))))) (sAsg (eApp mkTup (lCons (eBin (opAdd false) (eApp mkTup (lCons (eBin opIx (eVar 3) (eC (.int 0))) lNil)) (eApp LX.F__law_called (lCons (eSl (opSl false) (eVar 3) (oSome (eC (.int 1))) oNone) (lCons (eVar 2) lNil)))) (lCons (eVar 2) lNil))) (gVar 4)) (sAsg (eApp mkTup (lCons (eVar 3) (lCons (eBin (opAdd false) (eApp mkTup (lCons (eBin opIx (eVar 2) (eC (.int 0))) lNil)) (eApp LX.F__law_called (lCons (eSl (opSl false) (eVar 2) (oSome (eC (.int 1))) oNone) (lCons (eVar 3) lNil)))) lNil))) (gVar 4))) (sRet (eBin (opAdd false) (eBin (opAdd false) (eSl (opSl false) (eVar 0) oNone (oSome (eVar 1))) (eVar 4)) (eSl (opSl false) (eVar 0) (oSome (eBin (opAdd false) (eVar 1) (eC (.int 2)))) oNone)))))
def F__law_exchanged : DFun := runF true 5 2 B__law_exchanged
end LX

namespace LW
open L2 (ixN)
open DL
/-! ### pens -/
def PenOb (ob : Ob) : Prop := ∃ a b c : Int, ob = .lst [.int a, .int b, .int c] ∧ 0 ≤ b ∧ b < 2147483648
def PenAt (p : Nat) (M : Hep) : Prop := ∃ ob, M[p]? = some ob ∧ PenOb ob
def Drew (p : Nat) (M M' : Hep) : Prop := ∃ ob, PenOb ob ∧ M' = M.set p ob
section
variable {p : Nat} {M M' M'' : Hep}
theorem PenAt.lt (h : PenAt p M) : p < M.length := by
  obtain ⟨ob, e, _⟩ := h
  exact (List.getElem?_eq_some_iff.mp e).1
theorem PenAt.refl (h : PenAt p M) : Drew p M M := by
  obtain ⟨ob, e, q⟩ := h
  refine ⟨ob, q, ?_⟩
  obtain ⟨hl, e⟩ := List.getElem?_eq_some_iff.mp e
  rw [← e, List.set_getElem_self]
theorem Drew.trans (h : Drew p M M') (h' : Drew p M' M'') : Drew p M M'' := by
  obtain ⟨o, q, rfl⟩ := h
  obtain ⟨o', q', rfl⟩ := h'
  exact ⟨o', q', by rw [List.set_set]⟩
theorem Drew.len (h : Drew p M M') : M'.length = M.length := by
  obtain ⟨o, q, rfl⟩ := h
  simp
theorem Drew.pen (h : Drew p M M') (hp : PenAt p M) : PenAt p M' := by
  obtain ⟨o, q, rfl⟩ := h
  exact ⟨o, by rw [List.getElem?_set_self hp.lt], q⟩
theorem Drew.flat (h : Drew p M M') (hf : Flat M) : Flat M' := by
  obtain ⟨o, ⟨a, b, c, rfl, _⟩, rfl⟩ := h
  intro ob hb
  rcases List.mem_or_eq_of_mem_set hb with z | z
  · exact hf ob z
  · rw [z]; rfl
theorem Drew.other (h : Drew p M M') {m : Nat} (hm : m ≠ p) : M'[m]? = M[m]? := by
  obtain ⟨o, q, rfl⟩ := h
  rw [List.getElem?_set_ne hm.symm]
theorem PenAt.app (h : PenAt p M) (T : Hep) : PenAt p (M ++ T) := by
  obtain ⟨o, e, q⟩ := h
  exact ⟨o, by rw [List.getElem?_append_left (PenAt.lt ⟨o, e, q⟩)]; exact e, q⟩
theorem Drew.app {T : Hep} (hp : p < M.length) (h : Drew p (M ++ T) M') : ∃ M1, M' = M1 ++ T ∧ Drew p M M1 := by
  obtain ⟨o, q, rfl⟩ := h
  exact ⟨M.set p o, by rw [List.set_append_left _ _ hp], o, q, rfl⟩
theorem pen_ix0 {x y z : D} (h : M[p]? = some (.lst [x, y, z])) : opIx (.ref p) (.int 0) M = .ok x M := ix_ref (k := 0) h rfl
theorem pen_ix1 {x y z : D} (h : M[p]? = some (.lst [x, y, z])) : opIx (.ref p) (.int 1) M = .ok y M := ix_ref (k := 1) h rfl
theorem pen_ix2 {x y z : D} (h : M[p]? = some (.lst [x, y, z])) : opIx (.ref p) (.int 2) M = .ok z M := ix_ref (k := 2) h rfl
end
/-- xs[k] = d -/
theorem sub_at {fo fi : SemE} {n m k : Nat} {d : D} {σ : Sl} {M M1 M2 : Hep} {es : List D} (ho : fo n σ M = .ok (.ref m) M1) (hi : fi n σ M1 = .ok (.int k) M2) (hm : M2[m]? = some (.lst es)) (hk : k < es.length) (hc : lows 0 (es.set k d) = true ∨ n ≤ m) :
    DL.gSub fo fi n d σ M = .ok σ (M2.set m (.lst (es.set k d))) := by
  have h1 : ixN es.length (k : Int) = some k := by
    unfold ixN
    first
      | (simp; omega)
      | (split <;> simp_all <;> omega)
  have h2 : (decide (n ≤ m) || lows 0 (es.set k d)) = true := by
    rcases hc with h | h
    · rw [h, Bool.or_true]
    · simp [h]
  unfold DL.gSub
  rw [ho, bind_ok', hi, bind_ok']
  simp only [hm, h1, setOb, h2, if_true, bind_ok']
theorem take_set {M : Hep} {p : Nat} {o : Ob} : (M.set p o).take M.length = M.set p o := List.take_of_length_le (by simp)
theorem fmod_lt {a n : Int} (hn : 0 < n) : 0 ≤ a.fmod n ∧ a.fmod n < n := ⟨Int.fmod_nonneg_of_pos _ hn, Int.fmod_lt_of_pos _ hn⟩
theorem small_const {i : Int} (h : -(2 ^ 64) < i) (h' : i < 2 ^ 64) : smallF i = true := by
  unfold smallF
  simp only [Bool.and_eq_true, decide_eq_true_eq]
  exact ⟨h, h'⟩
theorem draw_ok {p : Nat} {M : Hep} {n : Int} (hp : PenAt p M) (h0 : 0 < n) (h1 : n < 1073741824) : ∃ k M', F__law_draw [.ref p, .int n] M = .ok (.int k) M' ∧ 0 ≤ k ∧ k < n ∧ Drew p M M' := by
  have hl := hp.lt
  obtain ⟨ob, e, a, b, c, rfl, hb, hb'⟩ := hp
  have nz : n ≠ 0 := by omega
  by_cases ha : a > 0
  · refine ⟨a.fmod n, M.set p (.lst [.int (a.fdiv n), .int b, .int c]), ?_, (fmod_lt h0).1, (fmod_lt h0).2, _, ⟨_, _, _, rfl, hb, hb'⟩, rfl⟩
    have hs : ∀ σ : Sl, σ[0]? = some (some (.ref p)) → DL.gSub (eVar 0) (eC (.int 0)) M.length (.int (a.fdiv n)) σ M = .ok σ (M.set p (.lst [.int (a.fdiv n), .int b, .int c])) := fun σ hσ => sub_at (k := 0) (M1 := M) (by unfold eVar; rw [hσ]) rfl e (by simp) (.inl rfl)
    simp [F__law_draw, B__law_draw, runF, told, DL.finish, sSeq, sIf, tOf, eBin, eVar, eC, sAsg, gVar, sRet, pen_ix0 e, ha, mod_int nz, div_int nz (by omega : n.natAbs < 1073741824), hs, frz, frzD, take_set]
  · have m1 : mulFits b 48271 = true := by rw [mulFits, small_const (i := 48271) (by decide) (by decide), Bool.or_true]
    have m2 : mulFits 1013 (c + 1) = true := by rw [mulFits, small_const (i := 1013) (by decide) (by decide), Bool.true_or]
    generalize hb1 : (b * 48271 + 1013 * (c + 1) + 11).fmod 2147483647 = b1
    obtain ⟨p1, p2⟩ : 0 ≤ b1 ∧ b1 < 2147483647 := by rw [← hb1]; exact fmod_lt (by decide)
    have m3 : mulFits b1 b1 = true := by rw [mulFits, small_const (i := b1) (by omega) (by omega), Bool.true_or]
    have m4 : mulFits 40692 b1 = true := by rw [mulFits, small_const (i := 40692) (by decide) (by decide), Bool.true_or]
    generalize hs1 : (b1 * b1 + 40692 * b1 + 7).fmod 2147483629 = st
    have m5 : mulFits st 69621 = true := by rw [mulFits, small_const (i := 69621) (by decide) (by decide), Bool.or_true]
    have at1 : (M.set p (.lst [.int a, .int b, .int (c + 1)]))[p]? = some (.lst [.int a, .int b, .int (c + 1)]) := List.getElem?_set_self hl
    have at2 : (M.set p (.lst [.int a, .int b1, .int (c + 1)]))[p]? = some (.lst [.int a, .int b1, .int (c + 1)]) := List.getElem?_set_self hl
    have g1 : ∀ σ : Sl, σ[0]? = some (some (.ref p)) → DL.gSub (eVar 0) (eC (.int 2)) M.length (.int (c + 1)) σ M = .ok σ (M.set p (.lst [.int a, .int b, .int (c + 1)])) := fun σ hσ => sub_at (k := 2) (M1 := M) (by unfold eVar; rw [hσ]) rfl e (by simp) (.inl rfl)
    have g2 : ∀ σ : Sl, σ[0]? = some (some (.ref p)) → DL.gSub (eVar 0) (eC (.int 1)) M.length (.int b1) σ (M.set p (.lst [.int a, .int b, .int (c + 1)])) = .ok σ (M.set p (.lst [.int a, .int b1, .int (c + 1)])) := fun σ hσ => by
      have := sub_at (d := .int b1) (n := M.length) (k := 1) (fo := eVar 0) (fi := eC (.int 1)) (σ := σ) (M1 := M.set p (.lst [.int a, .int b, .int (c + 1)])) (by unfold eVar; rw [hσ]) rfl at1 (by simp) (.inl rfl)
      rw [this]
      simp [List.set_set]
    refine ⟨(((st * 69621).fmod 2147483647).fdiv 16).fmod n, M.set p (.lst [.int a, .int b1, .int (c + 1)]), ?_, (fmod_lt h0).1, (fmod_lt h0).2, _, ⟨_, _, _, rfl, p1, by omega⟩, rfl⟩
    · simp [F__law_draw, B__law_draw, runF, told, DL.finish, sSeq, sIf, tOf, eBin, eVar, eC, sAsg, gVar, sRet, sNil, pen_ix0 e, pen_ix1 e, pen_ix2 e, pen_ix0 at1, pen_ix1 at1, pen_ix2 at1, pen_ix0 at2, pen_ix1 at2, pen_ix2 at2, ha, mod_int nz, mod_int, div_int, mul_int, m1, m2, m3, m4, m5, hb1, hs1, g1, g2, frz, frzD, take_set]
end LW

namespace LW
open L2 (ixN)
open DL
theorem finish_low {n : Nat} {d : D} {M : Hep} (h : d.low 0 = true) (hl : M.length = n) : DL.finish true n (.ok d M) = .ok d M := by
  unfold DL.finish
  simp only [if_true, frz_low (low_mono' h)]
  rw [← hl, List.take_length]
where
  low_mono' {d : D} {n : Nat} (h : d.low 0 = true) : d.low n = true := by
    have := lows_mono (Nat.zero_le n) [d] (by simp [lows, h])
    simpa [lows] using this
/-- a def by its body's end -/
theorem runF_ret {n np : Nat} {b : SemS} {ds : List D} {M M' : Hep} {d : D} {σ : Sl} (hl : ds.length = np) (h : b M.length (ds.map some ++ List.replicate (n - np) none) M = .ok (.rt d, σ) M') (hd : d.low 0 = true) (hm : M'.length = M.length) : runF true n np b ds M = .ok d M' := by
  unfold runF
  rw [if_pos hl, h]
  show DL.finish true M.length (.ok d M') = _
  exact finish_low hd hm
theorem cell_ok (ns : List Int) (k : Nat) (M : Hep) : ∃ c : Int, F__law_cell_at [.ro (ns.map .int), .int k] M = .ok (.int c) M := by
  by_cases h : k < ns.length
  · refine ⟨ns[k], ?_⟩
    have e : (ns.map D.int)[k]? = some (.int ns[k]) := by simp [h]
    have h' : ((k : Int) < (ns.length : Int)) := by omega
    simp [F__law_cell_at, B__law_cell_at, runF, told, sSeq, sIf, tOf, eBin, eVar, eC, eApp, lCons, lNil, sRet, ix_ro e, h', DL.finish, frz, frzD]
  · refine ⟨0, ?_⟩
    have h' : ¬ ((k : Int) < (ns.length : Int)) := by omega
    simp [F__law_cell_at, B__law_cell_at, runF, told, sSeq, sIf, tOf, eBin, eVar, eC, eApp, lCons, lNil, sRet, sNil, h', DL.finish, frz, frzD]
theorem pen_new (c : Int) (M : Hep) : ∃ ob, PenOb ob ∧ F__law_pen [.int c] M = .ok (.ref M.length) (M ++ [ob]) := by
  have pw : opPow (.int 10) (.int 18) M = .ok (.int (10 ^ 18)) M := by
    unfold opPow; rfl
  obtain ⟨h1, h2⟩ := fmod_lt (a := c) (n := 2147483629) (by decide)
  refine ⟨_, ⟨if c - 10 ^ 18 > 0 then c - 10 ^ 18 else 0, c.fmod 2147483629 + 1, 0, rfl, by omega, by omega⟩, ?_⟩
  simp [F__law_pen, B__law_pen, runF, told, DL.finish, sRet, eApp, lCons, lNil, eBin, eC, eVar, pw, mod_int, mkLst, PySem.sizeLine]
theorem pick_str {p : Nat} {M : Hep} {cs : List Nat} (hp : PenAt p M) (h0 : 0 < cs.length) (h1 : cs.length < 1000) : ∃ c M', c ∈ cs ∧ F__law_pick [.ref p, .str cs] M = .ok (.str [c]) M' ∧ Drew p M M' := by
  obtain ⟨k, M', e, k0, k1, dr⟩ := draw_ok (n := cs.length) hp (by omega) (by omega)
  obtain ⟨j, rfl⟩ := Int.eq_ofNat_of_zero_le k0
  have hj : j < cs.length := by omega
  refine ⟨cs[j], M', List.getElem_mem hj, runF_ret (σ := [some (.ref p), some (.str cs)]) rfl ?_ rfl dr.len, dr⟩
  have hz : cs.length ≤ PySem.sizeLine := by unfold PySem.sizeLine; omega
  simp [B__law_pick, sRet, eBin, eVar, eApp, lCons, lNil, len_str hz, e, ix_str hz (List.getElem?_eq_getElem hj)]
theorem pick_fz {p : Nat} {M : Hep} {ds : List D} (hp : PenAt p M) (h0 : 0 < ds.length) (h1 : ds.length < 100000) (hlow : lows 0 ds = true) : ∃ d M', d ∈ ds ∧ F__law_pick [.ref p, .fz ds] M = .ok d M' ∧ Drew p M M' := by
  obtain ⟨k, M', e, k0, k1, dr⟩ := draw_ok (n := ds.length) hp (by omega) (by omega)
  obtain ⟨j, rfl⟩ := Int.eq_ofNat_of_zero_le k0
  have hj : j < ds.length := by omega
  have lw : ∀ (ds : List D), lows 0 ds = true → ∀ d ∈ ds, d.low 0 = true := fun ds => by
    induction ds with
    | nil => intro _ d hd; cases hd
    | cons x xs ih =>
      intro h d hd
      simp only [lows, Bool.and_eq_true] at h
      rcases List.mem_cons.mp hd with rfl | z
      · exact h.1
      · exact ih h.2 d z
  refine ⟨ds[j], M', List.getElem_mem hj, runF_ret (σ := [some (.ref p), some (.fz ds)]) rfl ?_ (lw ds hlow _ (List.getElem_mem hj)) dr.len, dr⟩
  simp [B__law_pick, sRet, eBin, eVar, eApp, lCons, lNil, e, ix_fz (List.getElem?_eq_getElem hj)]
def frD (m l : Nat) : D := .tup [.int m, .int l]
theorem frame_ok {p : Nat} {M : Hep} (a b : Nat) (hp : PenAt p M) (ha : 0 < a) (ha' : a < 1000) (hb : 0 < b) (hb' : b < 1000) : ∃ m l M', F__law_frame [.ref p, .int a, .int b] M = .ok (frD m l) M' ∧ 1 ≤ m ∧ m ≤ a ∧ 1 ≤ l ∧ l ≤ b ∧ Drew p M M' := by
  obtain ⟨k, M1, e1, k0, k1, d1⟩ := draw_ok (n := a) hp (by omega) (by omega)
  obtain ⟨k', M2, e2, k2, k3, d2⟩ := draw_ok (n := b) (d1.pen hp) (by omega) (by omega)
  obtain ⟨i, rfl⟩ := Int.eq_ofNat_of_zero_le k0
  obtain ⟨j, rfl⟩ := Int.eq_ofNat_of_zero_le k2
  refine ⟨1 + i, 1 + j, M2, runF_ret (σ := [some (.ref p), some (.int a), some (.int b)]) rfl ?_ rfl (d2.len.trans d1.len), by omega, by omega, by omega, by omega, d1.trans d2⟩
  simp [B__law_frame, sRet, eBin, eVar, eC, eApp, lCons, lNil, e1, e2, mkTup, PySem.sizeLine, frD]
end LW

namespace LW
open L2 (ixN)
open DL
theorem ok_runF {n np : Nat} {b : SemS} {ds : List D} {M : Hep} {P : D → Hep → Prop} (hl : ds.length = np)
    (h : Ok (b M.length (ds.map some ++ List.replicate (n - np) none) M) fun q M' => ∃ d, q.1 = .rt d ∧ ∃ e, frz M.length M' d = some e ∧ P e (M'.take M.length)) : Ok (runF true n np b ds M) P := by
  obtain ⟨q, M', e, d, h1, d', h2, h3⟩ := ok_iff.mp h
  unfold runF
  rw [if_pos hl, e]
  have : told (.ok q M') = .ok d M' := by
    show (match q.1 with | .nx => Res.ok D.non M' | .rt d => .ok d M' | _ => .stuck) = _
    rw [h1]
  rw [this]
  unfold DL.finish
  simp only [if_true, h2]
  exact .here h3
theorem line_of {n : Nat} (h : n < 1000) : n ≤ PySem.sizeLine := by unfold PySem.sizeLine; omega
theorem low_frz {n : Nat} {d : D} {M : Hep} (h : d.low 0 = true) : frz n M d = some d := frz_low (finish_low.low_mono' h)
theorem lows_map {α : Type} {f : α → D} (h : ∀ x, (f x).low 0 = true) : ∀ xs : List α, lows 0 (xs.map f) = true
  | [] => rfl
  | x :: xs => by simp [lows, h x, lows_map h xs]
theorem rng_get {l i : Nat} {d : D} (h : (intsFrom 0 l)[i]? = some d) : i < l ∧ d = .int (i : Nat) := by
  unfold intsFrom at h
  rw [List.getElem?_map, Option.map_eq_some_iff] at h
  obtain ⟨a, h1, rfl⟩ := h
  obtain ⟨h2, h3⟩ := List.getElem?_eq_some_iff.mp h1
  rw [List.getElem_range] at h3
  subst h3
  exact ⟨by simpa using h2, by simp⟩
@[simp] theorem rng_len (a : Int) (l : Nat) : (intsFrom a l).length = l := by simp [intsFrom]
theorem rng_of {l : Nat} (h : l < 100000) : rngOf [.int l] = some ⟨intsFrom 0 l, none⟩ := by
  have : inRg (l : Int) = true := by
    unfold inRg
    simp only [Bool.and_eq_true, decide_eq_true_eq]
    constructor <;> omega
  simp [rngOf, this]
theorem rng_eval {f : SemL} {n0 l : Nat} {σ : Sl} {M M1 : Hep} (h : f n0 σ M = .ok [.int l] M1) (hl : l < 1000) : iRng f n0 σ M = .ok ⟨intsFrom 0 l, none⟩ M1 := by
  unfold iRng
  rw [h]
  rw [bind_ok', rng_of (l := l) (by omega), Res.of_some]
theorem flat_app {M : Hep} {acc : List D} (h : Flat M) (ha : lows 0 acc = true) : Flat (M ++ [.lst acc]) := by
  intro ob hb
  rcases List.mem_append.mp hb with z | z
  · exact h ob z
  · rw [List.mem_singleton.mp z]; exact ha
theorem flatten_one : ∀ cs : List Nat, (cs.map fun c => [c]).flatten = cs
  | [] => rfl
  | c :: cs => by rw [List.map_cons, List.flatten_cons, flatten_one cs]; rfl
theorem sum_one : ∀ cs : List Nat, ((cs.map fun c => [c]).map List.length).sum = cs.length
  | [] => rfl
  | c :: cs => by
    have := sum_one cs
    simp only [List.map_cons, List.sum_cons, List.length_cons, List.length_nil] at this ⊢
    omega
def bdD (bs : List (List Nat)) : D := .tup (bs.map .str)
def letters : List Nat := [97, 98, 99, 100, 101, 102, 103, 104, 105, 106, 107, 108, 109, 110, 111, 112, 113, 114, 115, 116, 117, 118, 119, 120, 121, 122]
def BdOk (m l : Nat) (bs : List (List Nat)) : Prop := bs.length = m ∧ ∀ t ∈ bs, t.length = l ∧ ∀ c ∈ t, 97 ≤ c ∧ c ≤ 122
/-- texts drawn of some signs -/
theorem text_ok {p n0 : Nat} {M : Hep} {σ : Sl} {cs : List Nat} {l : Nat} (hp : PenAt p M) (hf : Flat M) (hn : n0 ≤ M.length) (hc : 0 < cs.length) (hc' : cs.length < 1000) (hl : l < 1000)
    (h0 : (wipeD σ [5])[0]? = some (some (.ref p))) (h1 : σ[1]? = some (some (.tup [.int m, .int l]))) (h2 : (wipeD σ [5])[2]? = some (some (.str cs))) (h5 : 5 < σ.length) {P : D → Hep → Prop}
    (hP : ∀ (t : List Nat) M', t.length = l → (∀ c ∈ t, c ∈ cs) → Drew p M M' → P (.fz (t.map fun c => .str [c])) M') :
    Ok (eLc false false [5] (iRng (lCons (eBin opIx (eVar 1) (eC (.int 1))) lNil)) (gVar 5) (fun _ _ M => .ok true M) (eApp F__law_pick (lCons (eVar 0) (lCons (eVar 2) lNil))) n0 σ M) P := by
  have i1 : opIx (.tup [.int m, .int l]) (.int 1) M = .ok (.int l) M := ix_tup (k := 1) rfl
  have hi : iRng (lCons (eBin opIx (eVar 1) (eC (.int 1))) lNil) n0 σ M = .ok ⟨intsFrom 0 l, none⟩ M := by
    refine rng_eval (l := l) ?_ hl
    simp only [lCons, lNil, eBin, eVar, eC, h1, bind_ok', i1]
  refine ok_lc (fun i acc M' => Drew p M M' ∧ ∃ t : List Nat, acc = t.map (fun c => D.str [c]) ∧ t.length = i ∧ ∀ c ∈ t, c ∈ cs) hi hn ⟨hp.refl, [], rfl, rfl, fun c h => by cases h⟩ hf (line_of (by simpa using hl)) ?_ ?_
  · rintro i d acc M' hd ⟨dr, t, rfl, ht, htc⟩ hlen hfl
    obtain ⟨hi, rfl⟩ := rng_get hd
    refine ⟨rfl, ?_⟩
    have hp' := (dr.pen hp).app [.lst (t.map fun c => D.str [c])]
    have e5 : gVar 5 n0 (.int (i : Nat)) (wipeD σ [5]) (M' ++ [.lst (t.map fun c => D.str [c])]) = .ok ((wipeD σ [5]).set 5 (some (.int (i : Nat)))) (M' ++ [.lst (t.map fun c => D.str [c])]) := by
      unfold gVar
      rw [if_pos (by simpa [wipeD] using h5)]
    rw [e5]
    obtain ⟨c, M2, hc1, e, dr2⟩ := pick_str hp' hc hc'
    obtain ⟨M3, rfl, dr3⟩ := Drew.app ((dr.pen hp).lt) dr2
    have a0 : ((wipeD σ [5]).set 5 (some (.int (i : Nat))))[0]? = some (some (.ref p)) := by rw [List.getElem?_set_ne (by decide)]; exact h0
    have a2 : ((wipeD σ [5]).set 5 (some (.int (i : Nat))))[2]? = some (some (.str cs)) := by rw [List.getElem?_set_ne (by decide)]; exact h2
    simp only [ok_ok, true_and]
    have : eApp F__law_pick (lCons (eVar 0) (lCons (eVar 2) lNil)) n0 ((wipeD σ [5]).set 5 (some (.int (i : Nat)))) (M' ++ [.lst (t.map fun c => D.str [c])]) = .ok (.str [c]) (M3 ++ [.lst (t.map fun c => D.str [c])]) := by
      simp only [eApp, lCons, lNil, eVar, a0, a2, bind_ok']
      exact e
    rw [this, ok_ok]
    exact ⟨M3, rfl, dr3.len.trans hlen, dr3.flat hfl, rfl, dr.trans dr3, t ++ [c], by simp, by simp [ht], fun x hx => by
      rcases List.mem_append.mp hx with z | z
      · exact htc x z
      · rw [List.mem_singleton.mp z]; exact hc1⟩
  · rintro acc M' ⟨dr, t, rfl, ht, htc⟩ hlen hfl hlow
    exact ⟨rfl, hP t M' (by simpa using ht) htc dr⟩
end LW

namespace LW
open L2 (ixN)
open DL
theorem cut_head {cs : List Nat} {k : Nat} {M : Hep} (hz : cs.length < 1000) : opSl false (.str cs) none (some (k : Int)) M = .ok (.str (cs.take k)) M := by
  have : cutD cs none (some (k : Int)) = cs.take k := by
    unfold cutD
    rw [HT.sIx_none, HT.sIx_nat, List.drop_zero, Nat.sub_zero]
    by_cases h : k ≤ cs.length
    · rw [Nat.min_eq_left h]
    · rw [Nat.min_eq_right (by omega), List.take_of_length_le (Nat.le_refl _), List.take_of_length_le (by omega)]
  have hz := line_of hz
  simp [opSl, strFits, hz, this]
theorem last_at {M : Hep} {acc : List D} : (M ++ [Ob.lst acc])[M.length]? = some (.lst acc) := by simp
theorem last_set {M : Hep} {acc acc' : List D} : (M ++ [Ob.lst acc]).set M.length (.lst acc') = M ++ [.lst acc'] := by simp
theorem lst_ref {m : Nat} {M : Hep} {acc : List D} (h : M[m]? = some (.lst acc)) : isLst (.ref m) M = true := by simp [isLst, lst?, h]
theorem mk_fz {ds : List D} {M : Hep} (h : ds.length < 1000) : mkLst false ds M = .ok (.fz ds) M := by simp [mkLst, line_of h]
theorem mk_ref {ds : List D} {M : Hep} (h : ds.length < 1000) : mkLst true ds M = .ok (.ref M.length) (M ++ [.lst ds]) := by simp [mkLst, line_of h]
theorem board_ok {p m l : Nat} {M : Hep} (hp : PenAt p M) (hf : Flat M) (hm : m < 100) (hl : l < 100) : ∃ bs M', F__law_board [.ref p, frD m l] M = .ok (bdD bs) M' ∧ Drew p M M' ∧ BdOk m l bs := by
  obtain ⟨k, M1, e1, k0, k1, d1⟩ := draw_ok (n := 4) hp (by decide) (by decide)
  obtain ⟨j, rfl⟩ := Int.eq_ofNat_of_zero_le k0
  have hj : j < 4 := by omega
  have ⟨c, hc, hc0, hc1⟩ : ∃ c : Nat, ([D.int 1, D.int 2, D.int 3, D.int 26])[j]? = some (.int c) ∧ 0 < c ∧ c ≤ 26 := by
    match j, hj with
    | 0, _ => exact ⟨1, rfl, by decide, by decide⟩
    | 1, _ => exact ⟨2, rfl, by decide, by decide⟩
    | 2, _ => exact ⟨3, rfl, by decide, by decide⟩
    | 3, _ => exact ⟨26, rfl, by decide, by decide⟩
  have p1 := d1.pen hp
  have f1 := d1.flat hf
  have l1 := d1.len
  have lt : (letters.take c).length = c := by rw [List.length_take]; show min c 26 = c; omega
  have goodC : ∀ x ∈ letters.take c, 97 ≤ x ∧ x ≤ 122 := fun x hx => by
    have hm : ∀ y ∈ letters, 97 ≤ y ∧ y ≤ 122 := by decide
    exact hm x (List.mem_of_mem_take hx)
  have fin : Ok (F__law_board [.ref p, frD m l] M) fun d M' => ∃ bs, d = bdD bs ∧ Drew p M M' ∧ BdOk m l bs := by
    refine ok_runF rfl ?_
    show Ok (B__law_board M.length [some (.ref p), some (frD m l), none, none, none, none] M) _
    unfold B__law_board
    refine sq (σ1 := [some (.ref p), some (frD m l), some (.str (letters.take c)), none, none, none]) (M1 := M1) ?h1 (sq (σ1 := [some (.ref p), some (frD m l), some (.str (letters.take c)), some (.ref M1.length), none, none]) (M1 := M1 ++ [.lst []]) ?h2 ?h3)
    case h1 =>
      refine aV (ev_sl ev_c o_none (o_some (ev_bin (ev_app (ls_cons ev_c (ls_cons ev_c (ls_cons ev_c (ls_cons ev_c ls_nil)))) (mk_fz (by simp))) (ev_app2 (ev_var rfl) ev_c e1) (ix_fz hc))) (cut_head (cs := letters) (by decide))) ?_ rfl
      simp
    case h2 => exact aV (ev_app ls_nil (mk_ref (by simp))) (by simp) rfl
    have i0 : opIx (frD m l) (.int 0) (M1 ++ [.lst []]) = .ok (.int m) (M1 ++ [.lst []]) := ix_tup (k := 0) rfl
    refine st_for (rng_eval (l := m) (ls_cons (ev_bin (ev_var rfl) ev_c i0) ls_nil) (by omega)) ?_
    refine ok_forL (fun i σ M' => ∃ M2 bs w4, σ = [some (.ref p), some (frD m l), some (.str (letters.take c)), some (.ref M1.length), w4, none] ∧ M' = M2 ++ [.lst (bs.map .str)] ∧ Drew p M1 M2 ∧ bs.length = i ∧ ∀ t ∈ bs, t.length = l ∧ ∀ c ∈ t, 97 ≤ c ∧ c ≤ 122) _ 0 _ _ ⟨M1, [], none, rfl, rfl, p1.refl, rfl, fun t h => by cases h⟩ ?_ ?_
    · rintro i d σ M' hd ⟨M2, bs, w4, rfl, rfl, d2, hb, hg⟩
      obtain ⟨hi, rfl⟩ := rng_get hd
      have ln2 := d2.len
      have p2 := d2.pen p1
      have f2 := d2.flat f1
      have lowb : lows 0 (bs.map D.str) = true := lows_map (fun _ => rfl) bs
      have at2 : (M2 ++ [Ob.lst (bs.map D.str)])[M1.length]? = some (.lst (bs.map D.str)) := by rw [← ln2]; exact last_at
      refine ⟨rfl, ?_⟩
      rw [g_var (by simp), ok_ok]
      refine st_lastD' (ok_mt (ev_var rfl) (lst_ref at2) (ok_cons (ok_mt ev_c rfl (ok_cons ?_))))
      refine text_ok (p := p) (cs := letters.take c) (l := l) (m := m) (p2.app _) (flat_app f2 lowb) (by simp; omega) (by omega) (by omega) (by omega) rfl rfl rfl (by simp) fun t M3 ht hc dr => ?_
      obtain ⟨M4, rfl, dr4⟩ := Drew.app p2.lt dr
      have ln4 := dr4.len
      have at4 : (M4 ++ [Ob.lst (bs.map D.str)])[M1.length]? = some (.lst (bs.map D.str)) := by rw [← ln2, ← ln4]; exact last_at
      have jn : mJoin M.length (.str []) [.fz (t.map fun c => D.str [c])] (M4 ++ [.lst (bs.map D.str)]) = .ok (.str t) (M4 ++ [.lst (bs.map D.str)]) := by
        rw [join_fz (f := fun c => [c]) (by rw [sum_one]; omega), flatten_one]
      rw [ls_nil, ok_ok, jn, ok_ok, ls_nil, ok_ok, app_at at4 (by rw [List.length_map]; have := line_of (n := bs.length + 1) (by omega); omega) (.inl (by omega)), ok_ok]
      refine ⟨.inl rfl, _, _, settle_le (by simp; omega), M4, bs ++ [t], _, rfl, ?_, d2.trans dr4, by simp [hb], fun s hs => ?_⟩
      · rw [← ln2, ← ln4, last_set, List.map_append]; rfl
      · rcases List.mem_append.mp hs with z | z
        · exact hg s z
        · rw [List.mem_singleton.mp z]
          exact ⟨ht, fun c hcm => goodC c (hc c hcm)⟩
    · rintro σ M' ⟨M2, bs, w4, rfl, rfl, d2, hb, hg⟩
      have ln2 := d2.len
      have at2 : (M2 ++ [Ob.lst (bs.map D.str)])[M1.length]? = some (.lst (bs.map D.str)) := by rw [← ln2]; exact last_at
      refine ⟨rfl, rfl, st_ret (ev_app1 (ev_var rfl) (tuple_ref at2)) ⟨_, rfl, _, low_frz (d := bdD bs) (lows_map (fun _ => rfl) bs), bs, rfl, ?_, by simpa using hb, hg⟩⟩
      have : (M2 ++ [Ob.lst (bs.map D.str)]).take M.length = M2 := by rw [← l1, ← ln2]; simp
      rw [this]
      exact d1.trans d2
  obtain ⟨d, M', e, bs, rfl, h1, h2⟩ := ok_iff.mp fin
  exact ⟨bs, M', e, h1, h2⟩
end LW

namespace LW
open L2 (ixN)
open DL
abbrev Cut := Nat × Nat × Nat
def cutD (c : Cut) : D := .tup [.int c.1, .int c.2.1, .int c.2.2]
def CutOk (m l : Nat) (c : Cut) : Prop := c.1 < l ∧ c.2.1 < c.2.2 ∧ c.2.2 < m
def rowD (r : List Cut) : D := .tup (r.map cutD)
theorem rng_of2 {i j : Nat} (h : i < 100000) (h' : j < 100000) : rngOf [.int i, .int j] = some ⟨intsFrom i (j - i), none⟩ := by
  have e1 : inRg (i : Int) = true := by
    unfold inRg
    simp only [Bool.and_eq_true, decide_eq_true_eq]
    constructor <;> omega
  have e2 : inRg (j : Int) = true := by
    unfold inRg
    simp only [Bool.and_eq_true, decide_eq_true_eq]
    constructor <;> omega
  have e3 : ((j : Int) - (i : Int)).toNat = j - i := by omega
  simp [rngOf, e1, e2, e3]
theorem rng_eval2 {f : SemL} {n0 i j : Nat} {σ : Sl} {M M1 : Hep} (h : f n0 σ M = .ok [.int i, .int j] M1) (hi : i < 1000) (hj : j < 1000) : iRng f n0 σ M = .ok ⟨intsFrom i (j - i), none⟩ M1 := by
  unfold iRng
  rw [h, bind_ok', rng_of2 (i := i) (j := j) (by omega) (by omega), Res.of_some]
theorem rng_get2 {a : Int} {l i : Nat} {d : D} (h : (intsFrom a l)[i]? = some d) : i < l ∧ d = .int (a + (i : Nat)) := by
  unfold intsFrom at h
  rw [List.getElem?_map, Option.map_eq_some_iff] at h
  obtain ⟨b, h1, rfl⟩ := h
  obtain ⟨h2, h3⟩ := List.getElem?_eq_some_iff.mp h1
  rw [List.getElem_range] at h3
  subst h3
  exact ⟨by simpa using h2, rfl⟩
theorem mk_tup {ds : List D} {M : Hep} (h : ds.length < 1000) : mkTup ds M = .ok (.tup ds) M := by simp [mkTup, line_of h]
theorem low_cut (c : Cut) : (cutD c).low 0 = true := rfl
theorem cuts_ok {m l : Nat} {M : Hep} (hf : Flat M) (hm : m ≤ 5) (hl : l ≤ 12) : ∃ cs : List Cut, F__law_cuts [frD m l] M = .ok (.fz (cs.map cutD)) M ∧ (∀ c ∈ cs, CutOk m l c) ∧ cs.length ≤ 300 := by
  have fin : Ok (F__law_cuts [frD m l] M) fun d M' => ∃ cs : List Cut, d = .fz (cs.map cutD) ∧ M' = M ∧ (∀ c ∈ cs, CutOk m l c) ∧ cs.length ≤ 300 := by
    refine ok_runF rfl ?_
    show Ok (B__law_cuts M.length [some (frD m l), none, none, none, none] M) _
    unfold B__law_cuts
    refine sq (σ1 := [some (frD m l), some (.ref M.length), none, none, none]) (M1 := M ++ [.lst []]) (aV (ev_app ls_nil (mk_ref (by simp))) (by simp) rfl) ?_
    have i0 : ∀ M, opIx (frD m l) (.int 0) M = .ok (.int m) M := fun M => ix_tup (k := 0) rfl
    have i1 : ∀ M, opIx (frD m l) (.int 1) M = .ok (.int l) M := fun M => ix_tup (k := 1) rfl
    refine st_for (rng_eval (l := l) (ls_cons (ev_bin (ev_var rfl) ev_c (i1 _)) ls_nil) (by omega)) ?_
    refine ok_forL (fun i σ M' => ∃ (cs : List Cut) (w2 w3 : Option D), σ = [some (frD m l), some (.ref M.length), w2, w3, none] ∧ M' = M ++ [.lst (cs.map cutD)] ∧ (∀ c ∈ cs, CutOk m l c) ∧ cs.length ≤ i * 25) _ 0 _ _ ⟨[], none, none, rfl, rfl, (by intro c h; cases h), by simp⟩ ?_ ?_
    · rintro i d σ M' hd ⟨cs, w2, w3, rfl, rfl, hg, hb⟩
      obtain ⟨hi, rfl⟩ := rng_get hd
      refine ⟨rfl, ?_⟩
      rw [g_var (by simp), ok_ok]
      unfold sFor
      rw [ok_bind, rng_eval (l := m) (ls_cons (ev_bin (ev_var rfl) ev_c (i0 _)) ls_nil) (by omega), ok_ok]
      refine ok_forL (fun j σ M' => ∃ (cs : List Cut) (w3 : Option D), σ = [some (frD m l), some (.ref M.length), some (.int (i : Nat)), w3, none] ∧ M' = M ++ [.lst (cs.map cutD)] ∧ (∀ c ∈ cs, CutOk m l c) ∧ cs.length ≤ i * 25 + j * 5) _ 0 _ _ ⟨cs, w3, rfl, rfl, hg, by omega⟩ ?_ ?_
      · rintro j d σ M' hd ⟨cs, w3, rfl, rfl, hg, hb⟩
        obtain ⟨hj, rfl⟩ := rng_get hd
        have at0 : (M ++ [Ob.lst (cs.map cutD)])[M.length]? = some (.lst (cs.map cutD)) := last_at
        have lowc : lows 0 (cs.map cutD) = true := lows_map low_cut cs
        refine ⟨rfl, ?_⟩
        rw [g_var (by simp), ok_ok]
        refine st_lastD' (ok_mt (ev_var rfl) (lst_ref at0) (ok_cons ?_))
        refine ok_lc (fun k acc M' => ∃ new : List Cut, acc = new.map cutD ∧ M' = M ++ [.lst (cs.map cutD)] ∧ (∀ c ∈ new, CutOk m l c) ∧ new.length = k)
          (rng_eval2 (i := j + 1) (j := m) (ls_cons (ev_bin (ev_var rfl) ev_c (by rw [add_int]; rfl)) (ls_cons (ev_bin (ev_var rfl) ev_c (i0 _)) ls_nil)) (by omega) (by omega)) (by simp) ⟨[], rfl, rfl, (by intro c h; cases h), rfl⟩ (flat_app hf lowc) (line_of (by rw [rng_len]; omega)) ?_ ?_
        · rintro k d acc M' hd ⟨new, rfl, rfl, hn, hk⟩ hlen hfl
          obtain ⟨hkk, rfl⟩ := rng_get2 hd
          refine ⟨rfl, ?_⟩
          show Ok (gVar 4 M.length _ [some (frD m l), some (.ref M.length), some (.int (i : Nat)), some (.int (j : Nat)), none] _) _
          rw [g_var (by simp), ok_ok, ok_ok]
          refine ⟨rfl, ?_⟩
          rw [ev_app3 (ev_var rfl) (ev_var rfl) (ev_var rfl) (mk_tup (by simp)), ok_ok]
          refine ⟨_, rfl, hlen, hfl, rfl, new ++ [(i, j, j + 1 + k)], ?_, rfl, fun c hc => ?_, by simp [hk]⟩
          · rw [List.map_append]
            congr 1
          · rcases List.mem_append.mp hc with z | z
            · exact hn c z
            · rw [List.mem_singleton.mp z]
              exact ⟨hi, by show j < j + 1 + k; omega, by show j + 1 + k < m; omega⟩
        · rintro acc M' ⟨new, rfl, rfl, hn, hk⟩ hlen hfl hlow
          have hk5 : new.length ≤ 5 := by rw [hk, rng_len]; omega
          refine ⟨rfl, ?_⟩
          rw [ls_nil, ok_ok, ext_at at0 (by rw [List.length_map, List.length_map]; have := line_of (n := cs.length + new.length) (by omega); omega) (.inl (Nat.le_refl _)), ok_ok]
          refine ⟨.inl rfl, _, _, settle_le (by simp), cs ++ new, _, rfl, by rw [last_set, List.map_append], fun c hc => ?_, ?_⟩
          · rcases List.mem_append.mp hc with z | z
            · exact hg c z
            · exact hn c z
          · rw [List.length_append]; omega
      · rintro σ M' ⟨cs, w3, rfl, rfl, hg, hb⟩
        rw [rng_len] at hb
        exact ⟨rfl, .inl rfl, _, _, settle_le (by simp), cs, _, _, rfl, rfl, hg, by omega⟩
    · rintro σ M' ⟨cs, w2, w3, rfl, rfl, hg, hb⟩
      rw [rng_len] at hb
      have fr : frz M.length (M ++ [Ob.lst (cs.map cutD)]) (.ref M.length) = some (.fz (cs.map cutD)) := by
        have : look M.length (M ++ [Ob.lst (cs.map cutD)]) 8 M.length = some (.fz (cs.map cutD)) := by
          show (if M.length < M.length then some (D.ref M.length) else match (M ++ [Ob.lst (cs.map cutD)])[M.length]? with | some (Ob.lst ds) => (frzDs (look M.length (M ++ [Ob.lst (cs.map cutD)]) 7) ds).map D.fz | _ => none) = _
          rw [if_neg (Nat.lt_irrefl _), last_at]
          simp [frzDs_low (look_low (n := M.length)) (cs.map cutD) (lows_mono (Nat.zero_le _) _ (lows_map low_cut cs))]
        unfold frz
        simp only [frzD, this]
      refine ⟨rfl, rfl, st_ret (ev_var rfl) ⟨_, rfl, _, fr, cs, rfl, by simp, hg, by omega⟩⟩
  obtain ⟨d, M', e, cs, rfl, rfl, h1, h2⟩ := ok_iff.mp fin
  exact ⟨cs, e, h1, h2⟩
end LW

namespace LW
open L2 (ixN)
open DL
open PySem (PyData)
def cutP (c : Cut) : PyData := .tuple [.int c.1, .int c.2.1, .int c.2.2]
theorem pys_cuts : ∀ cs : List Cut, pys (cs.map cutD) = some (cs.map cutP)
  | [] => rfl
  | c :: cs => by
    rw [List.map_cons, pys, pys_cuts cs]
    rfl
theorem lay_cuts : ∀ cs : List Cut, PyData.canLayAll0 (cs.map cutP) = true
  | [] => rfl
  | c :: cs => by
    rw [List.map_cons, PyData.canLayAll0, lay_cuts cs]
    rfl
theorem deep_cuts : ∀ cs : List Cut, PyData.depthAll (cs.map cutP) ≤ 2
  | [] => by simp [PyData.depthAll]
  | c :: cs => by
    have := deep_cuts cs
    simp [PyData.depthAll, cutP, PyData.depth] at this ⊢
    omega
theorem low_fz (cs : List Cut) : (D.fz (cs.map cutD)).low 0 = true := by
  show lows 0 (cs.map cutD) = true
  exact lows_map low_cut cs
theorem ne_cuts (cs : List Cut) (M : Hep) : opNe (.fz (cs.map cutD)) (.fz []) M = .ok (.bl (!cs.isEmpty)) M := by
  have h1 : pyOf M (.fz (cs.map cutD)) = some (.list (cs.map cutP)) := by
    rw [py_low (low_fz cs), D.py, pys_cuts]; rfl
  have h2 : pyOf M (.fz []) = some (.list []) := by rw [py_low rfl]; rfl
  have h3 : PySem.SeqAt.shaped (.list (cs.map cutP)) = true := by
    unfold PySem.SeqAt.shaped
    have h4 : PyData.depth (.list (cs.map cutP)) = PyData.depthAll (cs.map cutP) + 1 := by simp [PyData.depth]
    have h5 : PyData.canLay0 (.list (cs.map cutP)) = true := by simp [PyData.canLay0, lay_cuts]
    have h6 : PyData.depth (.list (cs.map cutP)) ≤ 64 := by
      have := deep_cuts cs
      omega
    rw [h5, decide_eq_true h6]
    rfl
  rw [ne_py h1 h2 h3 (by decide)]
  cases cs with
  | nil => rfl
  | cons c cs => rfl
theorem row_ok {p m l most : Nat} {M : Hep} (hp : PenAt p M) (hf : Flat M) (hm : m ≤ 5) (hl : l ≤ 12) (hk : most ≤ 60) : ∃ (r : List Cut) (M' : Hep), F__law_row [.ref p, frD m l, .int most] M = .ok (rowD r) M' ∧ Drew p M M' ∧ (∀ c ∈ r, CutOk m l c) ∧ r.length ≤ most := by
  obtain ⟨cs, ec, hg, hb⟩ := cuts_ok (M := M) hf hm hl
  obtain ⟨k, M1, e1, k0, k1, d1⟩ := draw_ok (n := (most : Int) + 1) hp (by omega) (by omega)
  obtain ⟨j, rfl⟩ := Int.eq_ofNat_of_zero_le k0
  have fin : Ok (F__law_row [.ref p, frD m l, .int most] M) fun d M' => ∃ r : List Cut, d = rowD r ∧ Drew p M M' ∧ (∀ c ∈ r, CutOk m l c) ∧ r.length ≤ most := by
    refine ok_runF rfl ?_
    show Ok (B__law_row M.length [some (.ref p), some (frD m l), some (.int most), none, none] M) _
    unfold B__law_row
    refine sq (σ1 := [some (.ref p), some (frD m l), some (.int most), some (.fz (cs.map cutD)), none]) (M1 := M) (aV (ev_app1 (ev_var rfl) ec) (by simp) rfl) ?_
    have times : ∃ t : Nat, t ≤ most ∧ (cs = [] → t = 0) ∧ opMul false (.int (j : Nat)) (.int (if !cs.isEmpty then 1 else 0)) M1 = .ok (.int (t : Nat)) M1 := by
      cases cs with
      | nil => exact ⟨0, by omega, fun _ => rfl, by rw [mul_int _ (by rw [mulFits, small_const (i := (if !([] : List Cut).isEmpty then 1 else 0)) (by decide) (by decide), Bool.or_true])]; simp⟩
      | cons c cs => exact ⟨j, by omega, fun h => (by cases h), by rw [mul_int _ (by rw [mulFits, small_const (i := (if !(c :: cs).isEmpty then 1 else 0)) (by simp) (by simp), Bool.or_true])]; simp⟩
    obtain ⟨t, t1, t2, t3⟩ := times
    have rg : ∀ σ3 : Option D, iRng (lCons (eBin (opMul false) (eApp F__law_draw (lCons (eVar 0) (lCons (eBin (opAdd false) (eVar 2) (eC (.int 1))) lNil))) (eApp pInt.op (lCons (eBin opNe (eVar 3) (eApp (mkLst false) lNil)) lNil))) lNil) M.length [some (.ref p), some (frD m l), some (.int most), some (.fz (cs.map cutD)), σ3] M = .ok ⟨intsFrom 0 t, none⟩ M1 := fun σ3 => by
      refine rng_eval (l := t) (ls_cons (ev_bin (ev_app2 (ev_var rfl) (ev_bin (ev_var rfl) ev_c (add_int _ _ _)) e1) (ev_app1 (ev_bin (ev_var rfl) (ev_app ls_nil (mk_fz (by simp))) (ne_cuts cs M1)) (int_bl _)) t3) ls_nil) (by omega)
    refine Ok.mono (P := fun q M' => ∃ d, q.1 = .rt d ∧ ∃ r : List Cut, d = rowD r ∧ Drew p M1 M' ∧ (∀ c ∈ r, CutOk m l c) ∧ r.length ≤ most) ?_ ?_
    · unfold sRet
      rw [ok_bind]
      refine ok_app (ok_cons ?_)
      refine ok_lc (fun i acc M' => Drew p M1 M' ∧ ∃ r : List Cut, acc = r.map cutD ∧ r.length = i ∧ ∀ c ∈ r, CutOk m l c) (rg _) (by rw [d1.len]; exact Nat.le_refl _) ⟨(d1.pen hp).refl, [], rfl, rfl, by intro c h; cases h⟩ (d1.flat hf) (line_of (by rw [rng_len]; omega)) ?_ ?_
      · rintro i d acc M' hd ⟨dr, r, rfl, hr, hrg⟩ hlen hfl
        obtain ⟨hi, rfl⟩ := rng_get hd
        refine ⟨rfl, ?_⟩
        show Ok (gVar 4 M.length _ [some (.ref p), some (frD m l), some (.int most), some (.fz (cs.map cutD)), none] _) _
        rw [g_var (by simp), ok_ok, ok_ok]
        refine ⟨rfl, ?_⟩
        have hne : cs ≠ [] := fun h => by have := t2 h; omega
        have hpos : 0 < (cs.map cutD).length := by rw [List.length_map]; exact List.length_pos_iff.mpr hne
        have pM' := dr.pen (d1.pen hp)
        obtain ⟨x, M3, hx, e3, d3⟩ := pick_fz (ds := cs.map cutD) (pM'.app [.lst (r.map cutD)]) hpos (by rw [List.length_map]; omega) (lows_map low_cut cs)
        obtain ⟨M4, rfl, d4⟩ := Drew.app pM'.lt d3
        obtain ⟨c, hc, rfl⟩ := List.mem_map.mp hx
        rw [ev_app2 (ev_var rfl) (ev_var rfl) e3, ok_ok]
        refine ⟨M4, rfl, d4.len.trans hlen, d4.flat hfl, rfl, dr.trans d4, r ++ [c], by simp, by simp [hr], fun y hy => ?_⟩
        rcases List.mem_append.mp hy with z | z
        · exact hrg y z
        · rw [List.mem_singleton.mp z]; exact hg c hc
      · rintro acc M' ⟨dr, r, rfl, hr, hrg⟩ hlen hfl hlow
        refine ⟨rfl, ?_⟩
        rw [ls_nil, ok_ok, tuple_fz, ok_ok, ok_ok]
        exact ⟨_, rfl, r, rfl, dr, hrg, by rw [hr, rng_len]; exact t1⟩
    · rintro q M' ⟨d, h1, r, rfl, h2, h3, h4⟩
      refine ⟨_, h1, _, low_frz (d := rowD r) (lows_map low_cut r), r, rfl, ?_, h3, h4⟩
      rw [show M'.take M.length = M' by rw [← d1.len, ← h2.len, List.take_length]]
      exact d1.trans h2
  obtain ⟨d, M', e, r, rfl, h1, h2, h3⟩ := ok_iff.mp fin
  exact ⟨r, M', e, h1, h2, h3⟩
end LW

namespace LW
open L2 (ixN)
open DL
def lnD (ln : List Nat) : List D := ln.map fun (k : Nat) => .int (k : Nat)
def LnOk (m : Nat) (ln : List Nat) : Prop := ln.Perm (List.range m)
theorem low_ln (ln : List Nat) : lows 0 (lnD ln) = true := lows_map (fun _ => rfl) ln
theorem rgOk0 {m : Nat} (h : m < 1000) : rgOkB 0 (m : Int) = true := by
  unfold rgOkB
  simp only [Bool.and_eq_true, decide_eq_true_eq]
  refine ⟨⟨⟨⟨by decide, by decide⟩, by omega⟩, by omega⟩, by omega⟩
theorem rgD0 (m : Nat) : rgD 0 (m : Int) = lnD (List.range m) := by
  unfold rgD lnD
  have : ((m : Int) - 0).toNat = m := by omega
  rw [this]
  apply List.map_congr_left
  intro a _
  rw [Int.zero_add]
theorem lst_rg {b : Bool} {m : Nat} {M : Hep} (h : m < 1000) : lstRg b [.int m] M = mkLst b (lnD (List.range m)) M := by
  unfold lstRg
  simp only [rgOk0 h, if_true, rgD0]
theorem two_fst {M : Hep} {a b : Ob} : (M ++ [a, b])[M.length]? = some a := by simp
theorem two_snd {M : Hep} {a b : Ob} : (M ++ [a, b])[M.length + 1]? = some b := by simp
theorem set_fst {M : Hep} {a b a' : Ob} : (M ++ [a, b]).set M.length a' = M ++ [a', b] := by simp
theorem set_snd {M : Hep} {a b b' : Ob} : (M ++ [a, b]).set (M.length + 1) b' = M ++ [a, b'] := by
  rw [List.set_append_right _ _ (by omega)]
  simp
theorem mixed_ok {p m : Nat} {M : Hep} (hp : PenAt p M) (hm : m ≤ 5) : ∃ (ln : List Nat) (M' : Hep), F__law_mixed [.ref p, .int m] M = .ok (.fz (lnD ln)) M' ∧ Drew p M M' ∧ LnOk m ln := by
  have fin : Ok (F__law_mixed [.ref p, .int m] M) fun d M' => ∃ ln : List Nat, d = .fz (lnD ln) ∧ Drew p M M' ∧ LnOk m ln := by
    refine ok_runF rfl ?_
    show Ok (B__law_mixed M.length [some (.ref p), some (.int m), none, none, none] M) _
    unfold B__law_mixed
    have ls : lCons (eApp (lstRg true) (lCons (eVar 1) lNil)) (lCons (eApp (mkLst true) lNil) lNil) M.length [some (.ref p), some (.int m), none, none, none] M = .ok [.ref M.length, .ref (M.length + 1)] (M ++ [.lst (lnD (List.range m)), .lst []]) := by
      refine ls_cons (ev_app1 (ev_var rfl) (by rw [lst_rg (by omega), mk_ref (by simp [lnD]; omega)])) (ls_cons (x := .ref (M.length + 1)) (M1 := M ++ [.lst (lnD (List.range m)), .lst []]) (ev_app ls_nil (by rw [mk_ref (by simp)]; simp)) ls_nil)
    have par : sPar 2 3 (lCons (eApp (lstRg true) (lCons (eVar 1) lNil)) (lCons (eApp (mkLst true) lNil) lNil)) M.length [some (.ref p), some (.int m), none, none, none] M = .ok (.nx, [some (.ref p), some (.int m), some (.ref M.length), some (.ref (M.length + 1)), none]) (M ++ [.lst (lnD (List.range m)), .lst []]) := by
      unfold sPar
      rw [ls, bind_ok']
      rfl
    refine sq par ?_
    refine st_for (rng_eval (l := m) (ls_cons (ev_var rfl) ls_nil) (by omega)) ?_
    refine ok_forL (fun i σ M' => ∃ (left found : List Nat) (M2 : Hep) (w : Option D), σ = [some (.ref p), some (.int m), some (.ref M.length), some (.ref (M.length + 1)), w] ∧ M' = M2 ++ [.lst (lnD left), .lst (lnD found)] ∧ Drew p M M2 ∧ (found ++ left).Perm (List.range m) ∧ found.length = i) _ 0 _ _ ⟨List.range m, [], M, none, rfl, rfl, hp.refl, List.Perm.refl _, rfl⟩ ?_ ?_
    · rintro i d σ M' hd ⟨left, found, M2, w, rfl, rfl, dr, pm, hl⟩
      obtain ⟨hi, rfl⟩ := rng_get hd
      have len2 := dr.len
      have p2 := dr.pen hp
      have hlen := pm.length_eq
      rw [List.length_append, List.length_range] at hlen
      have lpos : 0 < left.length := by omega
      have l5 : left.length ≤ 5 := by omega
      refine ⟨rfl, ?_⟩
      rw [g_var (by simp), ok_ok]
      have atL : (M2 ++ [Ob.lst (lnD left), Ob.lst (lnD found)])[M.length]? = some (.lst (lnD left)) := by rw [← len2]; exact two_fst
      have atF : (M2 ++ [Ob.lst (lnD left), Ob.lst (lnD found)])[M.length + 1]? = some (.lst (lnD found)) := by rw [← len2]; exact two_snd
      obtain ⟨k, M3, e, k0, k1, d3⟩ := draw_ok (n := (lnD left).length) (p2.app [Ob.lst (lnD left), Ob.lst (lnD found)]) (by simp [lnD]; omega) (by simp [lnD]; omega)
      obtain ⟨j, rfl⟩ := Int.eq_ofNat_of_zero_le k0
      obtain ⟨M4, rfl, d4⟩ := Drew.app p2.lt d3
      have len4 := d4.len.trans len2
      have hj : j < left.length := by simp [lnD] at k1; omega
      have atL4 : (M4 ++ [Ob.lst (lnD left), Ob.lst (lnD found)])[M.length]? = some (.lst (lnD left)) := by rw [← len4]; exact two_fst
      have ej : (lnD left)[j]? = some (.int (left[j] : Nat)) := by simp [lnD, hj]
      have er : (lnD left).eraseIdx j = lnD (left.eraseIdx j) := by unfold lnD; rw [List.eraseIdx_eq_take_drop_succ, List.eraseIdx_eq_take_drop_succ, List.map_append, List.map_take, List.map_drop]
      have pop := pop_at (n := M.length) atL4 ej (by simp [lnD]; omega) (.inl (Nat.le_refl _))
      rw [er, ← len4, set_fst, len4] at pop
      have atF4 : (M4 ++ [Ob.lst (lnD (left.eraseIdx j)), Ob.lst (lnD found)])[M.length + 1]? = some (.lst (lnD found)) := by rw [← len4]; exact two_snd
      have app := app_at (n := M.length) (d := .int (left[j] : Nat)) atF4 (by have := line_of (n := found.length + 1) (by omega); simp [lnD]; omega) (.inl (by omega))
      rw [← len4, set_snd, len4] at app
      refine st_lastD (ev_mt (ev_var rfl) (lst_ref atF) (ls_cons (ev_mt (ev_var rfl) (lst_ref atL) (ls_cons (ev_app2 (ev_var rfl) (ev_app1 (ev_var rfl) (len_ref atL)) e) ls_nil) pop) ls_nil) app) ?_
      refine ⟨.inl rfl, _, _, settle_le (by simp [len4]), left.eraseIdx j, found ++ [left[j]], M4, _, rfl, ?_, dr.trans d4, ?_, by simp [hl]⟩
      · simp [lnD]
      · refine List.Perm.trans ?_ pm
        rw [List.append_assoc]
        refine List.Perm.append_left _ ?_
        show (left[j] :: left.eraseIdx j).Perm left
        rw [List.eraseIdx_eq_take_drop_succ]
        refine List.perm_middle.symm.trans (.of_eq ?_)
        rw [← List.drop_eq_getElem_cons hj, List.take_append_drop]
    · rintro σ M' ⟨left, found, M2, w, rfl, rfl, dr, pm, hl⟩
      have len2 := dr.len
      have hlen := pm.length_eq
      rw [List.length_append, List.length_range] at hlen
      rw [rng_len] at hl
      have l0 : left = [] := List.eq_nil_of_length_eq_zero (by omega)
      subst l0
      rw [List.append_nil] at pm
      have atF : (M2 ++ [Ob.lst (lnD []), Ob.lst (lnD found)])[M.length + 1]? = some (.lst (lnD found)) := by rw [← len2]; exact two_snd
      have fr : frz M.length (M2 ++ [Ob.lst (lnD []), Ob.lst (lnD found)]) (.ref (M.length + 1)) = some (.fz (lnD found)) := by
        have : look M.length (M2 ++ [Ob.lst (lnD []), Ob.lst (lnD found)]) 8 (M.length + 1) = some (.fz (lnD found)) := by
          unfold look
          rw [if_neg (by omega), atF]
          simp [frzDs_low (look_low (n := M.length)) (lnD found) (lows_mono (Nat.zero_le _) _ (low_ln found))]
        unfold frz
        simp only [frzD, this]
      refine ⟨rfl, rfl, st_ret (ev_var rfl) ⟨_, rfl, _, fr, found, rfl, ?_, pm⟩⟩
      rw [← len2, List.take_left]
      exact dr
  obtain ⟨d, M', e, ln, rfl, h1, h2⟩ := ok_iff.mp fin
  exact ⟨ln, M', e, h1, h2⟩
end LW

namespace LW
open L2 (ixN)
open DL
def effD (e : List (List Nat)) : D := .tup (e.map fun ln => .tup (lnD ln))
def EffOk (m l : Nat) (e : List (List Nat)) : Prop := e.length = l ∧ ∀ ln ∈ e, LnOk m ln
theorem low_tln (ln : List Nat) : (D.tup (lnD ln)).low 0 = true := low_ln ln
theorem effect_ok {p m l : Nat} {M : Hep} (hp : PenAt p M) (hf : Flat M) (hm : m ≤ 5) (hl : l ≤ 12) : ∃ (e : List (List Nat)) (M' : Hep), F__law_effect [.ref p, frD m l] M = .ok (effD e) M' ∧ Drew p M M' ∧ EffOk m l e := by
  have i0 : ∀ M, opIx (frD m l) (.int 0) M = .ok (.int m) M := fun M => ix_tup (k := 0) rfl
  have i1 : ∀ M, opIx (frD m l) (.int 1) M = .ok (.int l) M := fun M => ix_tup (k := 1) rfl
  have fin : Ok (F__law_effect [.ref p, frD m l] M) fun d M' => ∃ e : List (List Nat), d = effD e ∧ Drew p M M' ∧ EffOk m l e := by
    refine ok_runF rfl ?_
    show Ok (B__law_effect M.length [some (.ref p), some (frD m l), none] M) _
    unfold B__law_effect sRet
    rw [ok_bind]
    refine ok_app (ok_cons ?_)
    refine ok_lc (fun i acc M' => Drew p M M' ∧ ∃ e : List (List Nat), acc = e.map (fun ln => D.tup (lnD ln)) ∧ e.length = i ∧ ∀ ln ∈ e, LnOk m ln) (rng_eval (l := l) (ls_cons (ev_bin (ev_var rfl) ev_c (i1 _)) ls_nil) (by omega)) (Nat.le_refl _) ⟨hp.refl, [], rfl, rfl, by intro c h; cases h⟩ hf (line_of (by rw [rng_len]; omega)) ?_ ?_
    · rintro i d acc M' hd ⟨dr, e, rfl, he, hg⟩ hlen hfl
      obtain ⟨hi, rfl⟩ := rng_get hd
      refine ⟨rfl, ?_⟩
      show Ok (gVar 2 M.length _ [some (.ref p), some (frD m l), none] _) _
      rw [g_var (by simp), ok_ok, ok_ok]
      refine ⟨rfl, ?_⟩
      have pM' := dr.pen hp
      obtain ⟨ln, M3, e3, d3, h3⟩ := mixed_ok (m := m) (pM'.app [.lst (e.map fun ln => D.tup (lnD ln))]) hm
      obtain ⟨M4, rfl, d4⟩ := Drew.app pM'.lt d3
      rw [ev_app1 (ev_app2 (ev_var rfl) (ev_bin (ev_var rfl) ev_c (i0 _)) e3) (tuple_fz _), ok_ok]
      refine ⟨M4, rfl, d4.len.trans hlen, d4.flat hfl, low_tln ln, dr.trans d4, e ++ [ln], by simp, by simp [he], fun y hy => ?_⟩
      rcases List.mem_append.mp hy with z | z
      · exact hg y z
      · rw [List.mem_singleton.mp z]; exact h3
    · rintro acc M' ⟨dr, e, rfl, he, hg⟩ hlen hfl hlow
      refine ⟨rfl, ?_⟩
      rw [ls_nil, ok_ok, tuple_fz, ok_ok, ok_ok]
      refine ⟨_, rfl, _, low_frz (d := effD e) (lows_map low_tln e), e, rfl, ?_, by rw [he, rng_len], hg⟩
      rw [← dr.len, List.take_length]
      exact dr
  obtain ⟨d, M', e, ef, rfl, h1, h2⟩ := ok_iff.mp fin
  exact ⟨ef, M', e, h1, h2⟩
end LW

namespace LW
open L2 (ixN)
open DL
/-- a comprehension whose items change nothing -/
theorem lc_pure {vs : List Nat} {fi : SemI} {g : SemG} {tt : SemT} {te : SemE} {n0 : Nat} {σ : Sl} {M M1 : Hep} {ds : List D} (f : Nat → D) (hi : fi n0 σ M = .ok ⟨ds, none⟩ M1) (hn : n0 ≤ M1.length) (hf : Flat M1) (hz : ds.length < 1000)
    (hs : ∀ i d acc, ds[i]? = some d → ∃ σ1, g n0 d (wipeD σ vs) (M1 ++ [.lst acc]) = .ok σ1 (M1 ++ [.lst acc]) ∧ tt n0 σ1 (M1 ++ [.lst acc]) = .ok true (M1 ++ [.lst acc]) ∧ te n0 σ1 (M1 ++ [.lst acc]) = .ok (f i) (M1 ++ [.lst acc]) ∧ (f i).low 0 = true) :
    eLc false false vs fi g tt te n0 σ M = .ok (.fz ((List.range ds.length).map f)) M1 := by
  have fin : Ok (eLc false false vs fi g tt te n0 σ M) fun d M' => d = .fz ((List.range ds.length).map f) ∧ M' = M1 := by
    refine ok_lc (fun i acc M' => M' = M1 ∧ acc = (List.range i).map f) hi hn ⟨rfl, rfl⟩ hf (line_of hz) ?_ ?_
    · rintro i d acc M' hd ⟨rfl, rfl⟩ hlen hfl
      obtain ⟨σ1, h1, h2, h3, h4⟩ := hs i d ((List.range i).map f) hd
      refine ⟨rfl, ?_⟩
      rw [h1, ok_ok, h2, ok_ok, h3, ok_ok]
      exact ⟨rfl, _, rfl, hlen, hfl, h4, rfl, by rw [List.range_succ, List.map_append]; rfl⟩
    · rintro acc M' ⟨rfl, rfl⟩ hlen hfl hlow
      exact ⟨rfl, rfl, rfl⟩
  obtain ⟨d, M', e, rfl, rfl⟩ := ok_iff.mp fin
  exact e
/-- a loop that changes slots alone -/
theorem forL_pure {g : SemG} {b : SemS} {n1 n0 : Nat} {M : Hep} {all : List D} {P : Fl × Sl → Hep → Prop} (S : Nat → Sl) (hl : M.length ≤ n1) : ∀ (ds : List D) (k : Nat),
    (∀ i d, ds[i]? = some d → Ok (g n0 d (S (k + i)) M) fun σ1 M1 => M1 = M ∧ Ok (b n0 σ1 M) fun q M2 => (q.1 = .nx ∨ q.1 = .ct) ∧ q.2 = S (k + i + 1) ∧ M2 = M) → P (.nx, S (k + ds.length)) M → Ok (forL g b ⟨all, none⟩ n1 n0 ds (S k) M) P := fun ds k hs hP => by
  refine ok_forL (fun i σ M' => σ = S i ∧ M' = M) ds k (S k) M ⟨rfl, rfl⟩ ?_ ?_
  · rintro i d σ M' hd ⟨rfl, rfl⟩
    refine ⟨rfl, (hs i d hd).mono ?_⟩
    rintro σ1 M1 ⟨rfl, h⟩
    refine h.mono ?_
    rintro q M2 ⟨h1, h2, rfl⟩
    exact ⟨h1, _, _, settle_le hl, h2, rfl⟩
  · rintro σ M' ⟨rfl, rfl⟩
    exact ⟨rfl, hP⟩
def rowsD (R : List (List D)) : D := .fz (R.map .fz)
theorem rep_one (k : Nat) (x : D) : repL k [x] = List.replicate k x := by
  induction k with
  | zero => rfl
  | succ k ih =>
    unfold repL at ih ⊢
    rw [List.replicate_succ, List.flatten_cons, ih]
    rfl
theorem or_none {a b : P2} {x y : D} {M : Hep} {r : Option (Res D)} (h : a x y M = none) (h' : b x y M = r) : (a.or b) x y M = r := by unfold P2.or; rw [h]; exact h'
theorem or_some {a b : P2} {x y : D} {M : Hep} {r : Res D} (h : a x y M = some r) : (a.or b) x y M = some r := by unfold P2.or; rw [h]
theorem op_some {a : P2} {x y : D} {M : Hep} {r : Res D} (h : a x y M = some r) : a.op x y M = r := by unfold P2.op; rw [h]; rfl
theorem mul_one_fz {k : Nat} {x : D} {M : Hep} (h : k < 1000) : opMul false (.fz [x]) (.int k) M = .ok (.fz (List.replicate k x)) M := by
  have h1 : (decide (-(2 ^ 63) ≤ (k : Int)) && decide ((k : Int) < 2 ^ 63) && strFits ([x].length * (k : Int).toNat)) = true := by
    simp only [Bool.and_eq_true, decide_eq_true_eq, strFits, List.length_cons, List.length_nil, Int.toNat_natCast]
    have := line_of h
    omega
  have h2 : pMulL false (.fz [x]) (.int k) M = some (.ok (.fz (List.replicate k x)) M) := by
    unfold pMulL
    simp only [lstM?]
    rw [if_pos h1, Int.toNat_natCast, rep_one, mk_fz (by simpa using h)]
  exact op_some (or_some (or_some (or_none (show pIc mulFits (fun i j => D.int (i * j)) (.fz [x]) (.int k) M = none from rfl) h2)))
def begun (m l : Nat) : List (List D) := (List.range m).map fun (r : Nat) => List.replicate l (.int (r : Nat))
theorem lows_rep {x : D} (h : x.low 0 = true) : ∀ k, lows 0 (List.replicate k x) = true
  | 0 => rfl
  | k + 1 => by rw [List.replicate_succ]; simp [lows, h, lows_rep h k]
theorem begun_ok {m l : Nat} {M : Hep} (hf : Flat M) (hm : m < 100) (hl : l < 100) : F__law_begun [frD m l] M = .ok (rowsD (begun m l)) M := by
  have i0 : ∀ M, opIx (frD m l) (.int 0) M = .ok (.int m) M := fun M => ix_tup (k := 0) rfl
  have i1 : ∀ M, opIx (frD m l) (.int 1) M = .ok (.int l) M := fun M => ix_tup (k := 1) rfl
  have fin : Ok (F__law_begun [frD m l] M) fun d M' => d = rowsD (begun m l) ∧ M' = M := by
    refine ok_runF rfl ?_
    show Ok (B__law_begun M.length [some (frD m l), none] M) _
    unfold B__law_begun
    have lc := lc_pure (fi := iRng (lCons (eBin opIx (eVar 0) (eC (.int 0))) lNil)) (vs := [1]) (g := gVar 1) (tt := fun _ _ M => .ok true M) (te := eBin (opMul false) (eApp (mkLst false) (lCons (eVar 1) lNil)) (eBin opIx (eVar 0) (eC (.int 1)))) (fun r => .fz (List.replicate l (.int (r : Nat))))
      (rng_eval (σ := [some (frD m l), none]) (n0 := M.length) (M := M) (l := m) (ls_cons (ev_bin (ev_var rfl) ev_c (i0 _)) ls_nil) (by omega)) (Nat.le_refl _) hf (by rw [rng_len]; omega) fun i d acc hd => by
        obtain ⟨hi, rfl⟩ := rng_get hd
        exact ⟨[some (frD m l), some (.int (i : Nat))], rfl, rfl, ev_bin (ev_app1 (ev_var rfl) (mk_fz (by simp))) (ev_bin (ev_var rfl) ev_c (i1 _)) (mul_one_fz (by omega)), lows_rep rfl l⟩
    have e : (D.fz ((List.range (intsFrom 0 m).length).map fun (r : Nat) => .fz (List.replicate l (.int (r : Nat))))) = rowsD (begun m l) := by
      unfold rowsD begun
      rw [rng_len, List.map_map]
      rfl
    rw [e] at lc
    have lw : (rowsD (begun m l)).low 0 = true := by
      unfold rowsD begun
      rw [List.map_map]
      exact lows_map (f := D.fz ∘ fun (r : Nat) => List.replicate l (.int (r : Nat))) (fun r => lows_rep (x := .int (r : Nat)) rfl l) _
    exact st_ret lc ⟨_, rfl, _, low_frz lw, rfl, List.take_length⟩
  obtain ⟨d, M', e, rfl, rfl⟩ := ok_iff.mp fin
  exact e
end LW

namespace LW
open L2 (ixN)
open DL
/-- a list of lists that change, at the end of what stands -/
def stk (M : Hep) (R : List (List D)) : Hep := M ++ (.lst ((List.range R.length).map fun k => .ref (M.length + 1 + k)) :: R.map .lst)
section
variable {M : Hep} {R : List (List D)}
theorem stk_head : (stk M R)[M.length]? = some (.lst ((List.range R.length).map fun k => .ref (M.length + 1 + k))) := by simp [stk]
theorem stk_row {a : Nat} {r : List D} (h : R[a]? = some r) : (stk M R)[M.length + 1 + a]? = some (.lst r) := by
  unfold stk
  rw [List.getElem?_append_right (by omega), show M.length + 1 + a - M.length = a + 1 by omega, List.getElem?_cons_succ, List.getElem?_map, h]
  rfl
theorem stk_set {a : Nat} {r : List D} : (stk M R).set (M.length + 1 + a) (.lst r) = stk M (R.set a r) := by
  unfold stk
  rw [List.set_append_right _ _ (by omega), show M.length + 1 + a - M.length = a + 1 by omega, List.set_cons_succ, ← List.map_set, List.length_set]
theorem stk_ix {a : Nat} (h : a < R.length) : opIx (.ref M.length) (.int (a : Nat)) (stk M R) = .ok (.ref (M.length + 1 + a)) (stk M R) := ix_ref stk_head (by simp [h])
theorem stk_take : (stk M R).take M.length = M := by simp [stk]
theorem frzDs_map {α : Type} {look : Nat → Option D} (f g : α → D) : ∀ xs : List α, (∀ x ∈ xs, frzD look (f x) = some (g x)) → frzDs look (xs.map f) = some (xs.map g)
  | [], _ => rfl
  | x :: xs, h => by simp [frzDs, h x List.mem_cons_self, frzDs_map f g xs fun y hy => h y (List.mem_cons_of_mem _ hy)]
theorem stk_frz (hl : ∀ r ∈ R, lows 0 r = true) : frz M.length (stk M R) (.ref M.length) = some (rowsD R) := by
  have rows : ∀ k, k < R.length → look M.length (stk M R) 7 (M.length + 1 + k) = some (.fz (R.getD k [])) := fun k hk => by
    unfold look
    have e : R[k]? = some R[k] := List.getElem?_eq_getElem hk
    rw [if_neg (by omega), stk_row e]
    have g : R.getD k [] = R[k] := by rw [List.getD_eq_getElem?_getD, e]; rfl
    simp only [g]
    rw [frzDs_low (look_low (n := M.length)) R[k] (lows_mono (Nat.zero_le _) _ (hl _ (List.getElem_mem hk)))]
    rfl
  have all : frzDs (look M.length (stk M R) 7) ((List.range R.length).map fun k => .ref (M.length + 1 + k)) = some ((List.range R.length).map fun k => .fz (R.getD k [])) := frzDs_map _ _ _ fun k hk => by
    simp only [frzD]
    exact rows k (List.mem_range.mp hk)
  have hd : look M.length (stk M R) 8 M.length = some (rowsD R) := by
    unfold look
    rw [if_neg (Nat.lt_irrefl _), stk_head]
    simp only [all, Option.map_some]
    unfold rowsD
    congr 2
    apply List.ext_getElem
    · simp
    · intro i h1 h2
      simp at h1
      simp [h1]
  unfold frz
  simp only [frzD, hd]
end
theorem keep_ok {M : Hep} {R : List (List D)} {n0 : Nat} {σw : Sl} (hσ : 6 < σw.length) (hR : R.length < 1000) (hr : ∀ r ∈ R, r.length < 1000) : ∀ k i, k = R.length - i → i ≤ R.length →
    compL (gVar 6) (fun _ _ M => .ok true M) (eApp (pListA true).op (lCons (eVar 6) lNil)) ⟨R.map .fz, none⟩ true M.length n0 σw ((R.drop i).map .fz) (stk M (R.take i)) = .ok () (stk M R)
  | 0, i, hk, hi => by
    rw [List.drop_of_length_le (by omega), List.take_of_length_le (by omega)]
    rfl
  | k + 1, i, hk, hi => by
    have hlt : i < R.length := by omega
    rw [List.drop_eq_getElem_cons hlt, List.map_cons]
    unfold compL
    rw [if_pos (show Itm.chk ⟨R.map .fz, none⟩ (stk M (R.take i)) = true from rfl), g_var hσ, Res.safe_ok, bind_ok', Res.safe_ok, bind_ok', if_pos rfl]
    have len : (stk M (R.take i)).length = M.length + 1 + i := by simp [stk]; omega
    have te : eApp (pListA true).op (lCons (eVar 6) lNil) n0 (σw.set 6 (some (.fz R[i]))) (stk M (R.take i)) = .ok (.ref (M.length + 1 + i)) (stk M (R.take i) ++ [.lst R[i]]) := by
      refine ev_app1 (ev_var (d := .fz R[i]) (by rw [List.getElem?_set_self hσ])) ?_
      have : pListA true [.fz R[i]] (stk M (R.take i)) = some (mkLst true R[i] (stk M (R.take i))) := rfl
      unfold PL.op
      rw [this, mk_ref (hr _ (List.getElem_mem hlt)), len]
      rfl
    have push : pushAt M.length (.ref (M.length + 1 + i)) (stk M (R.take i) ++ [.lst R[i]]) = .ok () (stk M (R.take (i + 1))) := by
      unfold pushAt
      rw [List.getElem?_append_left (by omega), stk_head]
      simp only [List.length_map, List.length_range, List.length_take]
      rw [if_pos (by have := line_of hR; have := line_of (n := R.length) hR; unfold PySem.sizeLine; omega)]
      congr 1
      rw [List.set_append_left _ _ (by omega)]
      unfold stk
      rw [List.set_append_right _ _ (Nat.le_refl _), Nat.sub_self, List.set_cons_zero, List.append_assoc, List.cons_append, show min i R.length = i by omega, show (R.take (i + 1)).length = i + 1 by rw [List.length_take]; omega, List.range_succ, List.map_append, ← List.take_append_getElem hlt, List.map_append]
      rfl
    rw [te, Res.safe_ok, bind_ok', push, bind_ok', if_pos rfl]
    exact keep_ok hσ hR hr k (i + 1) (by omega) (by omega)
end LW

namespace LW
open L2 (ixN)
open DL
theorem cutD_tail {α : Type} {xs : List α} {p : Nat} (h : p ≤ xs.length) : DL.cutD xs (some (p : Int)) none = xs.drop p := by
  unfold DL.cutD
  rw [HT.sIx_none, HT.sIx_nat, Nat.min_eq_left h, List.take_of_length_le (by rw [List.length_drop]; exact Nat.le_refl _)]
theorem sl_tail {r : List D} {p : Nat} {M : Hep} (h : p ≤ r.length) (hz : r.length < 1000) : opSl false (.fz r) (some (p : Int)) none M = .ok (.fz (r.drop p)) M := by
  show (match lst? (.fz r) M with | some ds => mkLst false (DL.cutD ds (some (p : Int)) none) M | none => .stuck) = _
  show mkLst false (DL.cutD r (some (p : Int)) none) M = _
  rw [cutD_tail h, mk_fz (by rw [List.length_drop]; omega)]
theorem slc_at {fo fl : SemE} {n m p : Nat} {ys es : List D} {σ : Sl} {M M1 M2 : Hep} (ho : fo n σ M = .ok (.ref m) M1) (hl : fl n σ M1 = .ok (.int p) M2) (hm : M2[m]? = some (.lst es)) (hp : p ≤ es.length) (hz : es.length + ys.length < 1000) (hc : n ≤ m) :
    gSlc fo fl n (.fz ys) σ M = .ok σ (M2.set m (.lst (es.take p ++ ys))) := by
  have h1 : (0 : Int) ≤ (p : Int) ∧ (p : Int) ≤ es.length ∧ es.length + ys.length ≤ PySem.sizeLine := ⟨by omega, by omega, line_of hz⟩
  have h2 : (decide (n ≤ m) || lows 0 (es.take p ++ ys)) = true := by simp [hc]
  unfold gSlc
  rw [ho, bind_ok', hl, bind_ok']
  simp only [hm]
  rw [if_pos h1]
  unfold setOb
  rw [Int.toNat_natCast, if_pos h2, bind_ok']
def doneR (R : List (List D)) (p a b : Nat) : List (List D) := (R.set a ((R.getD a []).take p ++ (R.getD b []).drop p)).set b ((R.getD b []).take p ++ (R.getD a []).drop p)
theorem lows_app {a b : List D} (h : lows 0 a = true) (h' : lows 0 b = true) : lows 0 (a ++ b) = true := by
  induction a with
  | nil => exact h'
  | cons x xs ih => simp only [lows, Bool.and_eq_true, List.cons_append] at h ⊢; exact ⟨h.1, ih h.2⟩
theorem lows_take {a : List D} (h : lows 0 a = true) (k : Nat) : lows 0 (a.take k) = true := by
  induction a generalizing k with
  | nil => simp [lows]
  | cons x xs ih =>
    simp only [lows, Bool.and_eq_true] at h
    cases k with
    | zero => rfl
    | succ k => simp [lows, h.1, ih h.2 k]
theorem lows_drop {a : List D} (h : lows 0 a = true) (k : Nat) : lows 0 (a.drop k) = true := by
  induction a generalizing k with
  | nil => simp [lows]
  | cons x xs ih =>
    cases k with
    | zero => exact h
    | succ k =>
      simp only [lows, Bool.and_eq_true] at h
      simpa using ih h.2 k
/-- rows all of one length, of plain things -/
structure Rows (l : Nat) (R : List (List D)) : Prop where
  sz : R.length < 100
  each : ∀ r ∈ R, r.length = l ∧ lows 0 r = true
theorem Rows.at {l k : Nat} {R : List (List D)} (h : Rows l R) (hk : k < R.length) : R[k]? = some (R.getD k []) ∧ (R.getD k []).length = l ∧ lows 0 (R.getD k []) = true := by
  have e : R[k]? = some R[k] := List.getElem?_eq_getElem hk
  have g : R.getD k [] = R[k] := by rw [List.getD_eq_getElem?_getD, e]; rfl
  rw [g]
  exact ⟨e, h.each _ (List.getElem_mem hk)⟩
theorem Rows.done {l p a b : Nat} {R : List (List D)} (h : Rows l R) (ha : a < R.length) (hb : b < R.length) (hp : p ≤ l) : Rows l (doneR R p a b) := by
  obtain ⟨_, a2, a3⟩ := h.at ha
  obtain ⟨_, b2, b3⟩ := h.at hb
  refine ⟨by simp [doneR, h.sz], fun r hr => ?_⟩
  rcases List.mem_or_eq_of_mem_set hr with z | z
  · rcases List.mem_or_eq_of_mem_set z with z | z
    · exact h.each r z
    · rw [z]
      exact ⟨by rw [List.length_append, List.length_take, List.length_drop]; omega, lows_app (lows_take a3 _) (lows_drop b3 _)⟩
  · rw [z]
    exact ⟨by rw [List.length_append, List.length_take, List.length_drop]; omega, lows_app (lows_take b3 _) (lows_drop a3 _)⟩
theorem done_ok {M : Hep} {R : List (List D)} {p a b l : Nat} (h : Rows l R) (ha : a < R.length) (hb : b < R.length) (ab : a ≠ b) (hp : p ≤ l) (hl : l < 100) : F__law_done [rowsD R, cutD (p, a, b)] M = .ok (rowsD (doneR R p a b)) M := by
  obtain ⟨a1, a2, a3⟩ := h.at ha
  obtain ⟨b1, b2, b3⟩ := h.at hb
  have sz := h.sz
  have ixR : ∀ {k : Nat} {r : List D} {M : Hep}, R[k]? = some r → opIx (rowsD R) (.int (k : Nat)) M = .ok (.fz r) M := fun {k r M} e => ix_fz (by rw [List.getElem?_map, e]; rfl)
  have fin : Ok (F__law_done [rowsD R, cutD (p, a, b)] M) fun d M' => d = rowsD (doneR R p a b) ∧ M' = M := by
    refine ok_runF rfl ?_
    show Ok (B__law_done M.length [some (rowsD R), some (cutD (p, a, b)), none, none, none, none, none] M) _
    unfold B__law_done
    have s1 : sAsg (eVar 1) (gLen 3 (gCons (gVar 2) (gCons (gVar 3) (gCons (gVar 4) gNil)))) M.length [some (rowsD R), some (cutD (p, a, b)), none, none, none, none, none] M = .ok (.nx, [some (rowsD R), some (cutD (p, a, b)), some (.int p), some (.int a), some (.int b), none, none]) M := rfl
    refine sq s1 ?_
    have lc : eLc true true [6] (iSeq (eVar 0)) (gVar 6) (fun _ _ M => .ok true M) (eApp (pListA true).op (lCons (eVar 6) lNil)) M.length [some (rowsD R), some (cutD (p, a, b)), some (.int p), some (.int a), some (.int b), none, none] M = .ok (.ref M.length) (stk M R) := by
      unfold eLc
      have it : iSeq (eVar 0) M.length [some (rowsD R), some (cutD (p, a, b)), some (.int p), some (.int a), some (.int b), none, none] M = .ok ⟨R.map .fz, none⟩ M := rfl
      rw [it, bind_ok']
      have k := keep_ok (M := M) (R := R) (n0 := M.length) (σw := wipeD [some (rowsD R), some (cutD (p, a, b)), some (.int p), some (.int a), some (.int b), none, none] [6]) (by simp [wipeD]) (by omega) (fun r hr => by have := (h.each r hr).1; omega) R.length 0 rfl (Nat.zero_le _)
      rw [List.drop_zero, List.take_zero] at k
      have e0 : stk M [] = M ++ [.lst []] := rfl
      rw [e0] at k
      rw [k, bind_ok', if_pos rfl]
    refine sq (σ1 := [some (rowsD R), some (cutD (p, a, b)), some (.int p), some (.int a), some (.int b), some (.ref M.length), none]) (M1 := stk M R) (aV lc (by simp) rfl) ?_
    have st1 : sAsg (eSl (opSl false) (eBin opIx (eVar 0) (eVar 4)) (oSome (eVar 2)) oNone) (gSlc (eBin opIx (eVar 5) (eVar 3)) (eVar 2)) M.length [some (rowsD R), some (cutD (p, a, b)), some (.int p), some (.int a), some (.int b), some (.ref M.length), none] (stk M R) = .ok (.nx, [some (rowsD R), some (cutD (p, a, b)), some (.int p), some (.int a), some (.int b), some (.ref M.length), none]) (stk M (R.set a ((R.getD a []).take p ++ (R.getD b []).drop p))) := by
      unfold sAsg
      rw [ev_sl (ev_bin (ev_var rfl) (ev_var rfl) (ixR b1)) (o_some (ev_var rfl)) o_none (sl_tail (by omega) (by omega)), bind_ok', slc_at (ev_bin (ev_var rfl) (ev_var rfl) (stk_ix ha)) (ev_var rfl) (stk_row a1) (by omega) (by rw [List.length_drop]; omega) (by omega), bind_ok', stk_set]
    refine sq st1 ?_
    have ha' : b < (R.set a ((R.getD a []).take p ++ (R.getD b []).drop p)).length := by rw [List.length_set]; exact hb
    have rb' : (R.set a ((R.getD a []).take p ++ (R.getD b []).drop p))[b]? = some (R.getD b []) := by rw [List.getElem?_set_ne ab]; exact b1
    have st2 : sAsg (eSl (opSl false) (eBin opIx (eVar 0) (eVar 3)) (oSome (eVar 2)) oNone) (gSlc (eBin opIx (eVar 5) (eVar 4)) (eVar 2)) M.length [some (rowsD R), some (cutD (p, a, b)), some (.int p), some (.int a), some (.int b), some (.ref M.length), none] (stk M (R.set a ((R.getD a []).take p ++ (R.getD b []).drop p))) = .ok (.nx, [some (rowsD R), some (cutD (p, a, b)), some (.int p), some (.int a), some (.int b), some (.ref M.length), none]) (stk M (doneR R p a b)) := by
      unfold sAsg
      rw [ev_sl (ev_bin (ev_var rfl) (ev_var rfl) (ixR a1)) (o_some (ev_var rfl)) o_none (sl_tail (by omega) (by omega)), bind_ok', slc_at (ev_bin (ev_var rfl) (ev_var rfl) (stk_ix ha')) (ev_var rfl) (stk_row rb') (by omega) (by rw [List.length_drop]; omega) (by omega), bind_ok', stk_set]
      rfl
    refine sq st2 ?_
    have fr := stk_frz (M := M) (R := doneR R p a b) fun r hr => ((h.done ha hb hp).each r hr).2
    exact st_ret (ev_var rfl) ⟨_, rfl, _, fr, rfl, stk_take⟩
  obtain ⟨d, M', e, rfl, rfl⟩ := ok_iff.mp fin
  exact e
end LW

namespace LW
open L2 (ixN)
open DL
theorem lows_mk {f : Nat → D} : ∀ n, (∀ i, i < n → (f i).low 0 = true) → lows 0 ((List.range n).map f) = true
  | 0, _ => rfl
  | n + 1, h => by
    rw [List.range_succ, List.map_append]
    refine lows_app (lows_mk n fun i hi => h i (by omega)) ?_
    simp [lows, h n (by omega)]
/-- a comprehension whose items change nothing; what is there already is plain -/
theorem lc_flat {vs : List Nat} {fi : SemI} {g : SemG} {tt : SemT} {te : SemE} {n0 : Nat} {σ : Sl} {M M1 : Hep} {ds : List D} (f : Nat → D) (hi : fi n0 σ M = .ok ⟨ds, none⟩ M1) (hn : n0 ≤ M1.length) (hf : Flat M1) (hz : ds.length < 1000) (hlow : ∀ i, i < ds.length → (f i).low 0 = true)
    (hs : ∀ i d acc, ds[i]? = some d → Flat (M1 ++ [.lst acc]) → ∃ σ1, g n0 d (wipeD σ vs) (M1 ++ [.lst acc]) = .ok σ1 (M1 ++ [.lst acc]) ∧ tt n0 σ1 (M1 ++ [.lst acc]) = .ok true (M1 ++ [.lst acc]) ∧ te n0 σ1 (M1 ++ [.lst acc]) = .ok (f i) (M1 ++ [.lst acc])) :
    eLc false false vs fi g tt te n0 σ M = .ok (.fz ((List.range ds.length).map f)) M1 := by
  have fin : Ok (eLc false false vs fi g tt te n0 σ M) fun d M' => d = .fz ((List.range ds.length).map f) ∧ M' = M1 := by
    refine ok_lc (fun i acc M' => M' = M1 ∧ acc = (List.range i).map f) hi hn ⟨rfl, rfl⟩ hf (line_of hz) ?_ ?_
    · rintro i d acc M' hd ⟨rfl, rfl⟩ hlen hfl
      have hlt : i < ds.length := (List.getElem?_eq_some_iff.mp hd).1
      obtain ⟨σ1, h1, h2, h3⟩ := hs i d ((List.range i).map f) hd (flat_app hf (lows_mk i fun j hj => hlow j (by omega)))
      refine ⟨rfl, ?_⟩
      rw [h1, ok_ok, h2, ok_ok, h3, ok_ok]
      exact ⟨rfl, _, rfl, hlen, hfl, hlow i hlt, rfl, by rw [List.range_succ, List.map_append]; rfl⟩
    · rintro acc M' ⟨rfl, rfl⟩ hlen hfl hlow
      exact ⟨rfl, rfl, rfl⟩
  obtain ⟨d, M', e, rfl, rfl⟩ := ok_iff.mp fin
  exact e
def foldR (R : List (List D)) (r : List Cut) : List (List D) := r.foldl (fun R c => doneR R c.1 c.2.1 c.2.2) R
theorem doneR_len {R : List (List D)} {p a b : Nat} : (doneR R p a b).length = R.length := by simp [doneR]
theorem fold_rows {l : Nat} : ∀ {r : List Cut} {R : List (List D)}, Rows l R → (∀ c ∈ r, CutOk R.length l c) → Rows l (foldR R r) ∧ (foldR R r).length = R.length
  | [], R, h, _ => ⟨h, rfl⟩
  | c :: r, R, h, hg => by
    obtain ⟨c1, c2, c3⟩ := hg c List.mem_cons_self
    have h' := h.done (p := c.1) (a := c.2.1) (b := c.2.2) (by omega) c3 (by omega)
    obtain ⟨k1, k2⟩ := fold_rows (r := r) h' (fun c hc => by rw [doneR_len]; exact hg c (List.mem_cons_of_mem _ hc))
    exact ⟨k1, k2.trans doneR_len⟩
theorem fold_ok {l n0 n1 : Nat} {M : Hep} {P : Fl × Sl → Hep → Prop} {x y u v : Option D} {all : List D} (hn : M.length ≤ n1) (hl : l < 100) : ∀ (r : List Cut) (R : List (List D)) (w : Option D), Rows l R → (∀ c ∈ r, CutOk R.length l c) →
    (∀ w, P (.nx, [x, y, some (rowsD (foldR R r)), w, u, v]) M) → Ok (forL (gVar 3) (sAsg (eApp F__law_done (lCons (eVar 2) (lCons (eVar 3) lNil))) (gVar 2)) ⟨all, none⟩ n1 n0 (r.map cutD) [x, y, some (rowsD R), w, u, v] M) P
  | [], R, w, h, hg, hP => by
    unfold forL
    rw [List.map_nil]
    exact .here (hP w)
  | c :: r, R, w, h, hg, hP => by
    obtain ⟨c1, c2, c3⟩ := hg c List.mem_cons_self
    rw [List.map_cons]
    unfold forL
    rw [if_pos (show Itm.chk ⟨all, none⟩ M = true from rfl), g_var (by simp), bind_ok']
    have st : sAsg (eApp F__law_done (lCons (eVar 2) (lCons (eVar 3) lNil))) (gVar 2) n0 ([x, y, some (rowsD R), w, u, v].set 3 (some (cutD c))) M = .ok (.nx, [x, y, some (rowsD (doneR R c.1 c.2.1 c.2.2)), some (cutD c), u, v]) M :=
      aV (ev_app2 (ev_var rfl) (ev_var rfl) (done_ok h (p := c.1) (a := c.2.1) (b := c.2.2) (by omega) c3 (by omega) (by omega) hl)) (by simp) rfl
    rw [st, bind_ok']
    simp only [settle_le hn]
    exact fold_ok hn hl r _ _ (h.done (by omega) c3 (by omega)) (fun c hc => by rw [doneR_len]; exact hg c (List.mem_cons_of_mem _ hc)) hP
/-- what a law calls the joints of a row -/
def doesD (m l : Nat) (R : List (List D)) : D := .tup ((List.range l).map fun p => .tup ((List.range m).map fun k => (R.getD k []).getD p .non))
theorem low_getD {r : List D} (h : lows 0 r = true) : ∀ p, (r.getD p .non).low 0 = true := by
  induction r with
  | nil => intro p; rfl
  | cons x xs ih =>
    intro p
    simp only [lows, Bool.and_eq_true] at h
    cases p with
    | zero => exact h.1
    | succ p => exact ih h.2 p
theorem low_doesD {m l : Nat} {R : List (List D)} (h : Rows l R) (hm : R.length = m) : ∀ p, (D.tup ((List.range m).map fun k => (R.getD k []).getD p .non)).low 0 = true := fun p =>
  lows_mk m fun k hk => low_getD (h.at (by omega)).2.2 p
theorem get_D {α : Type} {r : List α} {p : Nat} {x : α} (h : p < r.length) : r[p]? = some (r.getD p x) := by
  rw [List.getD_eq_getElem?_getD, List.getElem?_eq_getElem h]
  rfl
theorem begun_rows (m l : Nat) (hm : m < 100) : Rows l (begun m l) ∧ (begun m l).length = m := by
  refine ⟨⟨by simp [begun, hm], fun r hr => ?_⟩, by simp [begun]⟩
  obtain ⟨k, _, rfl⟩ := List.mem_map.mp hr
  exact ⟨by simp, lows_rep rfl l⟩
theorem does_ok {m l : Nat} {r : List Cut} {M : Hep} (hf : Flat M) (hm : m < 100) (hl : l < 100) (hg : ∀ c ∈ r, CutOk m l c) : F__law_does [frD m l, rowD r] M = .ok (doesD m l (foldR (begun m l) r)) M := by
  have i0 : ∀ M, opIx (frD m l) (.int 0) M = .ok (.int m) M := fun M => ix_tup (k := 0) rfl
  have i1 : ∀ M, opIx (frD m l) (.int 1) M = .ok (.int l) M := fun M => ix_tup (k := 1) rfl
  obtain ⟨b1, b2⟩ := begun_rows m l hm
  obtain ⟨f1, f2⟩ := fold_rows (r := r) b1 (by rw [b2]; exact hg)
  rw [b2] at f2
  have fin : Ok (F__law_does [frD m l, rowD r] M) fun d M' => d = doesD m l (foldR (begun m l) r) ∧ M' = M := by
    refine ok_runF rfl ?_
    show Ok (B__law_does M.length [some (frD m l), some (rowD r), none, none, none, none] M) _
    unfold B__law_does
    refine sq (σ1 := [some (frD m l), some (rowD r), some (rowsD (begun m l)), none, none, none]) (M1 := M) (aV (ev_app1 (ev_var rfl) (begun_ok hf hm hl)) (by simp) rfl) ?_
    refine st_for (it := ⟨r.map cutD, none⟩) (M1 := M) rfl ?_
    refine fold_ok (Nat.le_refl _) hl r _ none b1 (by rw [b2]; exact hg) fun w => ⟨rfl, ?_⟩
    have outer := lc_flat (fi := iRng (lCons (eBin opIx (eVar 0) (eC (.int 1))) lNil)) (vs := [4]) (g := gVar 4) (tt := fun _ _ M => .ok true M)
      (te := eApp pTuple.op (lCons (eLc false false [5] (iRng (lCons (eBin opIx (eVar 0) (eC (.int 0))) lNil)) (gVar 5) (fun _ _ M => .ok true M) (eBin opIx (eBin opIx (eVar 2) (eVar 5)) (eVar 4))) lNil))
      (fun p => .tup ((List.range m).map fun k => ((foldR (begun m l) r).getD k []).getD p .non))
      (rng_eval (σ := [some (frD m l), some (rowD r), some (rowsD (foldR (begun m l) r)), w, none, none]) (n0 := M.length) (M := M) (l := l) (ls_cons (ev_bin (ev_var rfl) ev_c (i1 _)) ls_nil) (by omega)) (Nat.le_refl _) hf (by rw [rng_len]; omega) (fun p _ => low_doesD f1 f2 p) fun p d acc hd hfl => by
        obtain ⟨hp, rfl⟩ := rng_get hd
        refine ⟨[some (frD m l), some (rowD r), some (rowsD (foldR (begun m l) r)), w, some (.int (p : Nat)), none], rfl, rfl, ?_⟩
        have inner := lc_flat (fi := iRng (lCons (eBin opIx (eVar 0) (eC (.int 0))) lNil)) (vs := [5]) (g := gVar 5) (tt := fun _ _ M => .ok true M) (te := eBin opIx (eBin opIx (eVar 2) (eVar 5)) (eVar 4))
          (fun k => ((foldR (begun m l) r).getD k []).getD p .non)
          (rng_eval (σ := [some (frD m l), some (rowD r), some (rowsD (foldR (begun m l) r)), w, some (.int (p : Nat)), none]) (n0 := M.length) (M := M ++ [.lst acc]) (l := m) (ls_cons (ev_bin (ev_var rfl) ev_c (i0 _)) ls_nil) (by omega)) (by simp) hfl (by rw [rng_len]; omega) (fun k hk => low_getD (f1.at (by rw [rng_len] at hk; omega)).2.2 p) fun k d acc2 hd2 _ => by
            obtain ⟨hk, rfl⟩ := rng_get hd2
            obtain ⟨e1, e2, e3⟩ := f1.at (k := k) (by omega)
            refine ⟨[some (frD m l), some (rowD r), some (rowsD (foldR (begun m l) r)), w, some (.int (p : Nat)), some (.int (k : Nat))], rfl, rfl, ?_⟩
            exact ev_bin (ev_bin (ev_var rfl) (ev_var rfl) (ix_fz (by rw [List.getElem?_map, e1]; rfl))) (ev_var rfl) (ix_fz (get_D (by omega)))
        rw [rng_len] at inner
        exact ev_app1 inner (tuple_fz _)
    rw [rng_len] at outer
    refine st_ret (ev_app1 outer (tuple_fz _)) ⟨_, rfl, _, low_frz (lows_mk l fun p _ => low_doesD f1 f2 p), rfl, List.take_length⟩
  obtain ⟨d, M', e, rfl, rfl⟩ := ok_iff.mp fin
  exact e
end LW

namespace LW
open L2 (ixN)
open DL
/-- a cut done, of anything -/
def doneG {α : Type} (R : List (List α)) (p a b : Nat) : List (List α) := (R.set a ((R.getD a []).take p ++ (R.getD b []).drop p)).set b ((R.getD b []).take p ++ (R.getD a []).drop p)
def foldG {α : Type} (R : List (List α)) (r : List Cut) : List (List α) := r.foldl (fun R c => doneG R c.1 c.2.1 c.2.2) R
theorem getD_map' {α β : Type} (f : α → β) (R : List (List α)) (a : Nat) : (R.map (List.map f)).getD a [] = (R.getD a []).map f := by
  rw [List.getD_eq_getElem?_getD, List.getD_eq_getElem?_getD, List.getElem?_map]
  cases R[a]? <;> rfl
theorem doneG_map {α β : Type} (f : α → β) (R : List (List α)) (p a b : Nat) : doneG (R.map (List.map f)) p a b = (doneG R p a b).map (List.map f) := by
  unfold doneG
  rw [getD_map', getD_map', List.map_set, List.map_set, List.map_append, List.map_append, List.map_take, List.map_take, List.map_drop, List.map_drop]
theorem foldG_map {α β : Type} (f : α → β) : ∀ (r : List Cut) (R : List (List α)), foldG (R.map (List.map f)) r = (foldG R r).map (List.map f)
  | [], R => rfl
  | c :: r, R => by
    show foldG (doneG (R.map (List.map f)) c.1 c.2.1 c.2.2) r = _
    rw [doneG_map, foldG_map f r]
    rfl
theorem foldR_eq (R : List (List D)) (r : List Cut) : foldR R r = foldG R r := rfl
theorem chars_eq (t : List Nat) : charsOf t = t.map fun c => D.str [c] := rfl
theorem doneG_len {α : Type} {R : List (List α)} {p a b : Nat} : (doneG R p a b).length = R.length := by simp [doneG]
theorem foldG_len {α : Type} : ∀ (r : List Cut) (R : List (List α)), (foldG R r).length = R.length
  | [], R => rfl
  | c :: r, R => by
    show (foldG (doneG R c.1 c.2.1 c.2.2) r).length = _
    rw [foldG_len r, doneG_len]
theorem board_rows {m l : Nat} {bs : List (List Nat)} (h : BdOk m l bs) (hm : m < 100) : Rows l (bs.map (List.map fun c => D.str [c])) ∧ (bs.map (List.map fun c => D.str [c])).length = m := by
  refine ⟨⟨by rw [List.length_map, h.1]; exact hm, fun r hr => ?_⟩, by rw [List.length_map, h.1]⟩
  obtain ⟨t, ht, rfl⟩ := List.mem_map.mp hr
  exact ⟨by rw [List.length_map]; exact (h.2 t ht).1, lows_map (fun _ => rfl) t⟩
theorem map_range_get {α β : Type} (f : α → β) (xs : List α) (g : Nat → β) (h : ∀ i (hi : i < xs.length), g i = f xs[i]) : (List.range xs.length).map g = xs.map f := by
  apply List.ext_getElem
  · simp
  · intro i h1 h2
    simp at h1
    simp [h i h1]
theorem behindL_ok {m l : Nat} {bs : List (List Nat)} {r : List Cut} {M : Hep} (hf : Flat M) (hb : BdOk m l bs) (hm : m < 100) (hl : l < 100) (hg : ∀ c ∈ r, CutOk m l c) : F__law_behind [bdD bs, rowD r] M = .ok (bdD (foldG bs r)) M := by
  obtain ⟨b1, b2⟩ := board_rows hb hm
  obtain ⟨f1, f2⟩ := fold_rows (r := r) b1 (by rw [b2]; exact hg)
  have lenB : bs.length = m := hb.1
  have fin : Ok (F__law_behind [bdD bs, rowD r] M) fun d M' => d = bdD (foldG bs r) ∧ M' = M := by
    refine ok_runF rfl ?_
    show Ok (B__law_behind M.length [some (bdD bs), some (rowD r), none, none, none, none] M) _
    unfold B__law_behind
    have first := lc_flat (fi := iSeq (eVar 0)) (vs := [4]) (g := gVar 4) (tt := fun _ _ M => .ok true M) (te := eApp (pListA false).op (lCons (eVar 4) lNil)) (n0 := M.length) (σ := [some (bdD bs), some (rowD r), none, none, none, none]) (M := M) (M1 := M) (ds := bs.map .str)
      (fun i => .fz ((bs.getD i []).map fun c => D.str [c])) rfl (Nat.le_refl _) hf (by rw [List.length_map]; omega) (fun i _ => lows_map (fun _ => rfl) _) fun i d acc hd hfl => by
        rw [List.getElem?_map, Option.map_eq_some_iff] at hd
        obtain ⟨t, ht, rfl⟩ := hd
        have tl := (hb.2 t (List.mem_of_getElem? ht)).1
        refine ⟨[some (bdD bs), some (rowD r), none, none, some (.str t), none], rfl, rfl, ev_app1 (ev_var rfl) ?_⟩
        have e : pListA false [.str t] (M ++ [.lst acc]) = some (mkLst false (charsOf t) (M ++ [.lst acc])) := by
          show (if t.length ≤ PySem.sizeLine then some (mkLst false (charsOf t) (M ++ [.lst acc])) else none) = _
          rw [if_pos (line_of (by omega))]
        unfold PL.op
        rw [e, mk_fz (by rw [chars_eq, List.length_map]; omega), List.getD_eq_getElem?_getD, ht]
        rfl
    have e1 : (List.range (bs.map D.str).length).map (fun i => D.fz ((bs.getD i []).map fun c => D.str [c])) = (bs.map (List.map fun c => D.str [c])).map D.fz := by
      rw [List.length_map, List.map_map]
      exact map_range_get _ _ _ fun i hi => by rw [List.getD_eq_getElem?_getD, List.getElem?_eq_getElem hi]; rfl
    rw [e1] at first
    refine sq (σ1 := [some (bdD bs), some (rowD r), some (rowsD (bs.map (List.map fun c => D.str [c]))), none, none, none]) (M1 := M) (aV first (by simp) rfl) ?_
    refine st_for (it := ⟨r.map cutD, none⟩) (M1 := M) rfl ?_
    refine fold_ok (Nat.le_refl _) hl r _ none b1 (by rw [b2]; exact hg) fun w => ⟨rfl, ?_⟩
    have fe : foldR (bs.map (List.map fun c => D.str [c])) r = (foldG bs r).map (List.map fun c => D.str [c]) := foldG_map _ r bs
    have rowLen : ∀ t ∈ foldG bs r, t.length = l := fun t ht => by
      have := (f1.each _ (by rw [fe]; exact List.mem_map.mpr ⟨t, ht, rfl⟩)).1
      rwa [List.length_map] at this
    have lenF : (foldG bs r).length = m := by rw [foldG_len, lenB]
    rw [fe]
    have last := lc_flat (fi := iSeq (eVar 2)) (vs := [5]) (g := gVar 5) (tt := fun _ _ M => .ok true M) (te := eMt isStr mJoin (eC (.str [])) (lCons (eVar 5) lNil)) (n0 := M.length) (σ := [some (bdD bs), some (rowD r), some (rowsD ((foldG bs r).map (List.map fun c => D.str [c]))), w, none, none]) (M := M) (M1 := M)
      (ds := ((foldG bs r).map (List.map fun c => D.str [c])).map .fz) (fun i => .str ((foldG bs r).getD i [])) rfl (Nat.le_refl _) hf (by rw [List.length_map, List.length_map]; omega) (fun i _ => rfl) fun i d acc hd hfl => by
        rw [List.getElem?_map, Option.map_eq_some_iff] at hd
        obtain ⟨x, hx, rfl⟩ := hd
        rw [List.getElem?_map, Option.map_eq_some_iff] at hx
        obtain ⟨t, ht, rfl⟩ := hx
        have tl := rowLen t (List.mem_of_getElem? ht)
        refine ⟨[some (bdD bs), some (rowD r), some (rowsD ((foldG bs r).map (List.map fun c => D.str [c]))), w, none, some (.fz (t.map fun c => D.str [c]))], rfl, rfl, ev_mt ev_c rfl (ls_cons (ev_var rfl) ls_nil) ?_⟩
        rw [join_fz (f := fun c => [c]) (by rw [sum_one]; omega), flatten_one, List.getD_eq_getElem?_getD, ht]
        rfl
    have e2 : (List.range (((foldG bs r).map (List.map fun c => D.str [c])).map D.fz).length).map (fun i => D.str ((foldG bs r).getD i [])) = (foldG bs r).map D.str := by
      rw [List.length_map, List.length_map]
      exact map_range_get _ _ _ fun i hi => by rw [List.getD_eq_getElem?_getD, List.getElem?_eq_getElem hi]; rfl
    rw [e2] at last
    exact st_ret (ev_app1 last (tuple_fz _)) ⟨_, rfl, _, low_frz (d := bdD (foldG bs r)) (lows_map (fun _ => rfl) _), rfl, List.take_length⟩
  obtain ⟨d, M', e, rfl, rfl⟩ := ok_iff.mp fin
  exact e
end LW

namespace LW
open L2 (ixN)
open DL
def ledT (m l : Nat) (bs e : List (List Nat)) : List (List Nat) := (List.range m).map fun k => (List.range l).map fun p => (bs.getD ((e.getD p []).getD k 0) []).getD p 0
theorem ln_lt {m : Nat} {ln : List Nat} (h : LnOk m ln) : ln.length = m ∧ ∀ k, k < m → ln.getD k 0 < m := by
  have hl : ln.length = m := by have := h.length_eq; rwa [List.length_range] at this
  refine ⟨hl, fun k hk => ?_⟩
  have hm : ln.getD k 0 ∈ ln := List.mem_of_getElem? (get_D (x := 0) (by omega))
  exact List.mem_range.mp (h.mem_iff.mp hm)
/-- one sign of the board led -/
theorem led_sign {m l k p : Nat} {bs e : List (List Nat)} {M : Hep} (hb : BdOk m l bs) (he : EffOk m l e) (hm : m < 100) (hl : l < 100) (hk : k < m) (hp : p < l) :
    (e.map fun ln => D.tup (lnD ln))[p]? = some (.tup (lnD (e.getD p []))) ∧ opIx (.tup (lnD (e.getD p []))) (.int (k : Nat)) M = .ok (.int ((e.getD p []).getD k 0 : Nat)) M ∧ opIx (bdD bs) (.int ((e.getD p []).getD k 0 : Nat)) M = .ok (.str (bs.getD ((e.getD p []).getD k 0) [])) M ∧
    opIx (.str (bs.getD ((e.getD p []).getD k 0) [])) (.int (p : Nat)) M = .ok (.str [(bs.getD ((e.getD p []).getD k 0) []).getD p 0]) M := by
  have ep : e[p]? = some (e.getD p []) := get_D (by rw [he.1]; exact hp)
  obtain ⟨ln1, ln2⟩ := ln_lt (he.2 _ (List.mem_of_getElem? ep))
  have jm := ln2 k hk
  have bj : bs[(e.getD p []).getD k 0]? = some (bs.getD ((e.getD p []).getD k 0) []) := get_D (by rw [hb.1]; exact jm)
  have tl := (hb.2 _ (List.mem_of_getElem? bj)).1
  refine ⟨by rw [List.getElem?_map, ep]; rfl, ix_tup ?_, ix_tup (by rw [List.getElem?_map, bj]; rfl), ix_str (line_of (by omega)) (get_D (by omega))⟩
  unfold lnD
  rw [List.getElem?_map, get_D (x := 0) (by omega)]
  rfl
theorem ledL_ok {m l : Nat} {bs e : List (List Nat)} {M : Hep} (hf : Flat M) (hb : BdOk m l bs) (he : EffOk m l e) (hm : m < 100) (hl : l < 100) : F__law_led [bdD bs, effD e] M = .ok (bdD (ledT m l bs e)) M := by
  have fin : Ok (F__law_led [bdD bs, effD e] M) fun d M' => d = bdD (ledT m l bs e) ∧ M' = M := by
    refine ok_runF rfl ?_
    show Ok (B__law_led M.length [some (bdD bs), some (effD e), none, none, none, none] M) _
    unfold B__law_led
    refine sq (σ1 := [some (bdD bs), some (effD e), some (.ref M.length), none, none, none]) (M1 := M ++ [.lst []]) (aV (ev_app ls_nil (mk_ref (by simp))) (by simp) rfl) ?_
    have len0 : pLen.op [bdD bs] (M ++ [.lst []]) = .ok (.int (m : Nat)) (M ++ [.lst []]) := by
      unfold bdD
      rw [len_tup, List.length_map, hb.1]
    refine st_for (rng_eval (l := m) (ls_cons (ev_app1 (ev_var rfl) len0) ls_nil) (by omega)) ?_
    refine ok_forL (fun i σ M' => ∃ w : Option D, σ = [some (bdD bs), some (effD e), some (.ref M.length), w, none, none] ∧ M' = M ++ [.lst (((List.range i).map fun k => (List.range l).map fun p => (bs.getD ((e.getD p []).getD k 0) []).getD p 0).map D.str)]) _ 0 _ _ ⟨none, rfl, rfl⟩ ?_ ?_
    · rintro i d σ M' hd ⟨w, rfl, rfl⟩
      obtain ⟨hi, rfl⟩ := rng_get hd
      rw [Nat.zero_add]
      generalize hacc : ((List.range i).map fun k => (List.range l).map fun p => (bs.getD ((e.getD p []).getD k 0) []).getD p 0) = acc
      have lacc : acc.length = i := by rw [← hacc]; simp
      have at0 : (M ++ [Ob.lst (acc.map D.str)])[M.length]? = some (.lst (acc.map D.str)) := last_at
      refine ⟨rfl, ?_⟩
      rw [g_var (by simp), ok_ok]
      have enu : iEnu (lCons (eVar 1) lNil) M.length [some (bdD bs), some (effD e), some (.ref M.length), some (.int (i : Nat)), none, none] (M ++ [.lst (acc.map D.str)]) = .ok ⟨enuF 0 (e.map fun ln => D.tup (lnD ln)), none⟩ (M ++ [.lst (acc.map D.str)]) := rfl
      have inner := lc_flat (vs := [4, 5]) (g := gLen 2 (gCons (gVar 4) (gCons (gVar 5) gNil))) (tt := fun _ _ M => .ok true M) (te := eBin opIx (eBin opIx (eVar 0) (eBin opIx (eVar 5) (eVar 3))) (eVar 4)) (fun p => D.str [(bs.getD ((e.getD p []).getD i 0) []).getD p 0]) enu (by simp) (flat_app hf (lows_map (fun _ => rfl) _)) (by rw [enuF_len, List.length_map, he.1]; omega) (fun _ _ => rfl) fun p d acc2 hd2 _ => by
        rw [enuF_get, Option.map_eq_some_iff] at hd2
        obtain ⟨y, hy, rfl⟩ := hd2
        have hp : p < l := by
          have := (List.getElem?_eq_some_iff.mp hy).1
          rwa [List.length_map, he.1] at this
        obtain ⟨s1, s2, s3, s4⟩ := led_sign (M := (M ++ [.lst (acc.map D.str)]) ++ [.lst acc2]) hb he hm hl hi hp
        rw [s1] at hy
        cases hy
        refine ⟨[some (bdD bs), some (effD e), some (.ref M.length), some (.int (i : Nat)), some (.int (p : Nat)), some (.tup (lnD (e.getD p [])))], by rw [Nat.zero_add]; rfl, rfl, ev_bin (ev_bin (ev_var rfl) (ev_bin (ev_var rfl) (ev_var rfl) s2) s3) (ev_var rfl) s4⟩
      rw [enuF_len, List.length_map, he.1] at inner
      have jn : mJoin M.length (.str []) [.fz ((List.range l).map fun p => D.str [(bs.getD ((e.getD p []).getD i 0) []).getD p 0])] (M ++ [.lst (acc.map D.str)]) = .ok (.str ((List.range l).map fun p => (bs.getD ((e.getD p []).getD i 0) []).getD p 0)) (M ++ [.lst (acc.map D.str)]) := by
        have := join_fz (n := M.length) (M := M ++ [.lst (acc.map D.str)]) (f := fun c => [c]) (xs := (List.range l).map fun p => (bs.getD ((e.getD p []).getD i 0) []).getD p 0) (by rw [sum_one, List.length_map, List.length_range]; omega)
        rw [List.map_map, flatten_one] at this
        exact this
      have app := app_at (n := M.length) (d := .str ((List.range l).map fun p => (bs.getD ((e.getD p []).getD i 0) []).getD p 0)) at0 (by have := line_of (n := acc.length + 1) (by omega); rw [List.length_map]; omega) (.inl (Nat.le_refl _))
      rw [last_set] at app
      refine st_lastD (ev_mt (ev_var rfl) (lst_ref at0) (ls_cons (ev_mt ev_c rfl (ls_cons inner ls_nil) jn) ls_nil) app) ?_
      refine ⟨.inl rfl, _, _, settle_le (by simp), _, rfl, ?_⟩
      rw [List.range_succ, List.map_append, hacc, List.map_append]
      rfl
    · rintro σ M' ⟨w, rfl, rfl⟩
      rw [rng_len, Nat.zero_add]
      exact ⟨rfl, rfl, st_ret (ev_app1 (ev_var rfl) (tuple_ref last_at)) ⟨_, rfl, _, low_frz (d := bdD (ledT m l bs e)) (lows_map (fun _ => rfl) _), rfl, by simp⟩⟩
  obtain ⟨d, M', e', rfl, rfl⟩ := ok_iff.mp fin
  exact e'
end LW

namespace PR
open DL LW
theorem runF_nx {n np : Nat} {b : SemS} {ds : List D} {M : Hep} {σ : Sl} (hl : ds.length = np) (h : b M.length (ds.map some ++ List.replicate (n - np) none) M = .ok (.nx, σ) M) : runF true n np b ds M = .ok .non M := by
  unfold runF
  rw [if_pos hl, h]
  show DL.finish true M.length (.ok .non M) = _
  exact finish_low rfl rfl
theorem ret_eq {n np : Nat} {b : SemS} {ds : List D} {M : Hep} {d : D} (hl : ds.length = np) (hd : d.low 0 = true) (h : Ok (b M.length (ds.map some ++ List.replicate (n - np) none) M) fun q M' => q.1 = .rt d ∧ M' = M) : runF true n np b ds M = .ok d M := by
  obtain ⟨q, M', e, h1, rfl⟩ := ok_iff.mp h
  obtain ⟨q1, q2⟩ := q
  cases h1
  exact runF_ret hl e hd rfl
theorem is_whole_int (i : Int) (M : Hep) : F_is_whole [.int i] M = .ok (.bl true) M :=
  ret_eq rfl rfl (st_ret (ev_and (ev_app2 (ev_var rfl) ev_c (isi_int i)) (ev_not (ev_app2 (ev_var rfl) ev_c (isi_intb i)))) ⟨rfl, rfl⟩)
theorem from_int {i a b : Int} (h : a ≤ i) (h' : i ≤ b) (M : Hep) : F_is_whole_from [.int i, .int a, .int b] M = .ok (.bl true) M :=
  ret_eq rfl rfl (st_ret (ev_and (ev_app1 (ev_var rfl) (is_whole_int i M)) (ev_chain (o := .le) (o' := .le) (ev_var rfl) (ev_var rfl) (by show opLe _ _ _ = _; rw [le_int, decide_eq_true h]) (ev_var rfl) (by show opLe _ _ _ = _; rw [le_int, decide_eq_true h']))) ⟨rfl, rfl⟩)
theorem is_frame_ok {m l : Nat} (h1 : 1 ≤ m) (h2 : m ≤ 5) (h3 : 1 ≤ l) (h4 : l ≤ 12) (M : Hep) : F_is_frame [frD m l] M = .ok (.bl true) M := by
  refine ret_eq rfl rfl ?_
  show Ok (B_is_frame M.length [some (frD m l), none, none] M) _
  unfold B_is_frame
  refine st_skip (t_or (t_not (t_of (ev_app2 (ev_var rfl) ev_c (isi_tup _)))) (t_of (ev_bin (ev_app1 (ev_var rfl) (len_tup _)) ev_c (ne_int _ _)))) ?_
  have s1 : sAsg (eVar 0) (gLen 2 (gCons (gVar 1) (gCons (gVar 2) gNil))) M.length [some (frD m l), none, none] M = .ok (.nx, [some (frD m l), some (.int m), some (.int l)]) M := rfl
  refine sq s1 (st_ret (ev_and (ev_app3 (ev_var rfl) ev_c ev_c (from_int (by omega) (by omega) M)) (ev_app3 (ev_var rfl) ev_c ev_c (from_int (by omega) (by omega) M))) ⟨rfl, rfl⟩)
theorem st_if_no {n : Nat} {σ : Sl} {M M1 : Hep} {c : SemT} {a b : SemS} (hc : c n σ M = .ok false M1) : sIf c a b n σ M = b n σ M1 := by
  unfold sIf; rw [hc, bind_ok']; rfl
theorem need_frame_ok {m l : Nat} (h1 : 1 ≤ m) (h2 : m ≤ 5) (h3 : 1 ≤ l) (h4 : l ≤ 12) (M : Hep) : F_need_frame [frD m l] M = .ok .non M := by
  refine runF_nx (σ := [some (frD m l)]) rfl ?_
  show B_need_frame M.length [some (frD m l)] M = _
  unfold B_need_frame
  rw [st_if_no (t_not (k := true) (t_of (ev_app1 (ev_var rfl) (is_frame_ok h1 h2 h3 h4 M))))]
  rfl
theorem ltL_one (a b : Nat) : ltL [a] [b] = decide (a < b) := by
  unfold ltL
  have : ([a] < [b]) ↔ a < b := by
    constructor
    · intro h
      cases h with
      | rel h => exact h
      | cons h => cases h
    · exact fun h => List.Lex.rel h
  by_cases h : a < b
  · rw [decide_eq_true h, decide_eq_true (this.mpr h)]
  · rw [decide_eq_false h, decide_eq_false fun z => h (this.mp z)]
theorem all_true {n : Nat} {M : Hep} : pAll.op [.fz ((List.range n).map fun _ => .bl true)] M = .ok (.bl true) M := by
  have := all_fz (M := M) (f := fun _ : Nat => true) (xs := List.range n)
  rw [this]
  simp
theorem ribbon_ok {l : Nat} {t : List Nat} {M : Hep} (hf : Flat M) (h1 : 1 ≤ l) (h2 : l ≤ 12) (ht : t.length = l) (hg : ∀ c ∈ t, 97 ≤ c ∧ c ≤ 122) : F_is_ribbon_text [.str t] M = .ok (.bl true) M := by
  refine ret_eq rfl rfl ?_
  show Ok (B_is_ribbon_text M.length [some (.str t), none] M) _
  unfold B_is_ribbon_text
  refine st_skip (t_or (t_not (t_of (ev_app2 (ev_var rfl) ev_c (isi_str _)))) (t_not (k := true) (t_of (ev_chain (o := .le) (o' := .le) ev_c (ev_app1 (ev_var rfl) (len_str (line_of (by omega)))) (by show opLe _ _ _ = _; rw [le_int, decide_eq_true (by omega)]) ev_c (by show opLe _ _ _ = _; rw [le_int, decide_eq_true (by omega)]))))) ?_
  have lc := lc_flat (fi := iSeq (eVar 0)) (vs := [1]) (g := gVar 1) (tt := fun _ _ M => .ok true M) (te := eChain .le .le (eC (.str [97])) (eVar 1) (eC (.str [122]))) (n0 := M.length) (σ := [some (.str t), none]) (M := M) (M1 := M) (ds := charsOf t)
    (fun _ => .bl true) rfl (Nat.le_refl _) hf (by rw [chars_eq, List.length_map]; omega) (fun _ _ => rfl) fun i d acc hd _ => by
      rw [chars_eq, List.getElem?_map, Option.map_eq_some_iff] at hd
      obtain ⟨c, hc, rfl⟩ := hd
      obtain ⟨g1, g2⟩ := hg c (List.mem_of_getElem? hc)
      refine ⟨[some (.str t), some (.str [c])], rfl, rfl, ev_chain (o := .le) (o' := .le) ev_c (ev_var rfl) ?_ ev_c ?_⟩
      · show opLe _ _ _ = _
        rw [le_str, ltL_one, decide_eq_false (by omega)]; rfl
      · show opLe _ _ _ = _
        rw [le_str, ltL_one, decide_eq_false (by omega)]; rfl
  exact st_ret (ev_app1 lc all_true) ⟨rfl, rfl⟩
theorem is_board_ok {m l : Nat} {bs : List (List Nat)} {M : Hep} (hf : Flat M) (hm : 1 ≤ m) (hm' : m ≤ 5) (h1 : 1 ≤ l) (h2 : l ≤ 12) (hb : BdOk m l bs) : F_is_board [bdD bs] M = .ok (.bl true) M := by
  refine ret_eq rfl rfl ?_
  show Ok (B_is_board M.length [some (bdD bs), none] M) _
  unfold B_is_board
  have lenB := hb.1
  have b0 : (bs.map D.str)[0]? = some (.str (bs.getD 0 [])) := by rw [List.getElem?_map, get_D (x := []) (by omega)]; rfl
  have l0 : (bs.getD 0 []).length = l := (hb.2 _ (List.mem_of_getElem? (get_D (x := []) (by omega : 0 < bs.length)))).1
  refine st_skip (t_or (t_not (t_of (ev_app2 (ev_var rfl) ev_c (isi_tup _)))) (t_not (k := true) (t_of (ev_chain (o := .le) (o' := .le) ev_c (ev_app1 (ev_var rfl) (len_tup _)) (by show opLe _ _ _ = _; rw [le_int, List.length_map, decide_eq_true (by omega)]) ev_c (by show opLe _ _ _ = _; rw [le_int, List.length_map, decide_eq_true (by omega)]))))) ?_
  have lc := lc_flat (fi := iSeq (eVar 0)) (vs := [1]) (g := gVar 1) (tt := fun _ _ M => .ok true M) (te := eApp F_is_ribbon_text (lCons (eVar 1) lNil)) (n0 := M.length) (σ := [some (bdD bs), none]) (M := M) (M1 := M) (ds := bs.map .str)
    (fun _ => .bl true) rfl (Nat.le_refl _) hf (by rw [List.length_map]; omega) (fun _ _ => rfl) fun i d acc hd hfl => by
      rw [List.getElem?_map, Option.map_eq_some_iff] at hd
      obtain ⟨t, ht, rfl⟩ := hd
      obtain ⟨g1, g2⟩ := hb.2 t (List.mem_of_getElem? ht)
      exact ⟨[some (bdD bs), some (.str t)], rfl, rfl, ev_app1 (ev_var rfl) (ribbon_ok hfl h1 h2 g1 g2)⟩
  refine st_skip (t_not (k := true) (t_of (ev_app1 lc all_true))) ?_
  have lc2 := lc_flat (fi := iSeq (eVar 0)) (vs := [1]) (g := gVar 1) (tt := fun _ _ M => .ok true M) (te := eBin opEq (eApp pLen.op (lCons (eVar 1) lNil)) (eApp pLen.op (lCons (eBin opIx (eVar 0) (eC (.int 0))) lNil))) (n0 := M.length) (σ := [some (bdD bs), none]) (M := M) (M1 := M) (ds := bs.map .str)
    (fun _ => .bl true) rfl (Nat.le_refl _) hf (by rw [List.length_map]; omega) (fun _ _ => rfl) fun i d acc hd hfl => by
      rw [List.getElem?_map, Option.map_eq_some_iff] at hd
      obtain ⟨t, ht, rfl⟩ := hd
      obtain ⟨g1, g2⟩ := hb.2 t (List.mem_of_getElem? ht)
      refine ⟨[some (bdD bs), some (.str t)], rfl, rfl, ev_bin (ev_app1 (ev_var rfl) (len_str (line_of (by omega)))) (ev_app1 (ev_bin (ev_var rfl) ev_c (ix_tup (k := 0) b0)) (len_str (line_of (by omega)))) ?_⟩
      rw [eq_int, decide_eq_true (by omega)]
  exact st_ret (ev_app1 lc2 all_true) ⟨rfl, rfl⟩
theorem frame_of_ok {m l : Nat} {bs : List (List Nat)} {M : Hep} (hf : Flat M) (hm : 1 ≤ m) (hm' : m ≤ 5) (h1 : 1 ≤ l) (h2 : l ≤ 12) (hb : BdOk m l bs) : F_frame_of [bdD bs] M = .ok (frD m l) M := by
  have lenB := hb.1
  have b0 : (bs.map D.str)[0]? = some (.str (bs.getD 0 [])) := by rw [List.getElem?_map, get_D (x := []) (by omega)]; rfl
  have l0 : (bs.getD 0 []).length = l := (hb.2 _ (List.mem_of_getElem? (get_D (x := []) (by omega : 0 < bs.length)))).1
  have need : F_need_board [bdD bs] M = .ok .non M := by
    refine runF_nx (σ := [some (bdD bs)]) rfl ?_
    show B_need_board M.length [some (bdD bs)] M = _
    unfold B_need_board
    rw [st_if_no (t_not (k := true) (t_of (ev_app1 (ev_var rfl) (is_board_ok hf hm hm' h1 h2 hb))))]
    rfl
  refine ret_eq rfl rfl ?_
  show Ok (B_frame_of M.length [some (bdD bs)] M) _
  unfold B_frame_of
  refine st_drop (ev_app1 (ev_var rfl) need) (st_ret (ev_app2 (ev_app1 (ev_var rfl) (len_tup _)) (ev_app1 (ev_bin (ev_var rfl) ev_c (ix_tup (k := 0) b0)) (len_str (line_of (by omega)))) (mk_tup (by simp))) ⟨?_, rfl⟩)
  rw [List.length_map, lenB, l0]
  rfl
end PR

namespace PR
open DL LW
theorem ev_chain3 {n : Nat} {σ : Sl} {M M1 M2 M3 M4 : Hep} {x y z t : D} {o o' o'' : Ord} {a b c e : SemE} (ha : a n σ M = .ok x M1) (hb : b n σ M1 = .ok y M2) (h1 : o.op x y M2 = .ok (.bl true) M2) (hc : c n σ M2 = .ok z M3) (h2 : o'.op y z M3 = .ok (.bl true) M3) (he : e n σ M3 = .ok t M4) (h3 : o''.op z t M4 = .ok (.bl true) M4) :
    eChain3 o o' o'' a b c e n σ M = .ok (.bl true) M4 := by
  unfold eChain3
  rw [ha, bind_ok', hb, bind_ok', h1, bind_ok']
  simp only [hc, bind_ok', h2, he, h3]
theorem lt_yes {i j : Int} {M : Hep} (h : i < j) : Ord.op .lt (.int i) (.int j) M = .ok (.bl true) M := by show opLtI _ _ _ = _; rw [lt_intI, decide_eq_true h]
theorem le_yes {i j : Int} {M : Hep} (h : i ≤ j) : Ord.op .le (.int i) (.int j) M = .ok (.bl true) M := by show opLe _ _ _ = _; rw [le_int, decide_eq_true h]
theorem is_cut_ok {m l : Nat} {c : Cut} {M : Hep} (hf : Flat M) (hc : CutOk m l c) : F_is_cut [frD m l, cutD c] M = .ok (.bl true) M := by
  obtain ⟨c1, c2, c3⟩ := hc
  refine ret_eq rfl rfl ?_
  show Ok (B_is_cut M.length [some (frD m l), some (cutD c), none, none, none, none, none, none] M) _
  unfold B_is_cut
  refine st_skip (t_or (t_not (t_of (ev_app2 (ev_var rfl) ev_c (isi_tup _)))) (t_of (ev_bin (ev_app1 (ev_var rfl) (len_tup _)) ev_c (ne_int _ _)))) ?_
  have lc := lc_flat (fi := iSeq (eVar 1)) (vs := [7]) (g := gVar 7) (tt := fun _ _ M => .ok true M) (te := eApp F_is_whole (lCons (eVar 7) lNil)) (n0 := M.length) (σ := [some (frD m l), some (cutD c), none, none, none, none, none, none]) (M := M) (M1 := M) (ds := [.int c.1, .int c.2.1, .int c.2.2])
    (fun _ => .bl true) rfl (Nat.le_refl _) hf (by simp) (fun _ _ => rfl) fun i d acc hd _ => by
      have ⟨k, hk⟩ : ∃ k : Int, d = .int k := by
        have hm := List.mem_of_getElem? hd
        rcases List.mem_cons.mp hm with z | hm
        · exact ⟨_, z⟩
        rcases List.mem_cons.mp hm with z | hm
        · exact ⟨_, z⟩
        exact ⟨_, List.mem_singleton.mp hm⟩
      subst hk
      exact ⟨[some (frD m l), some (cutD c), none, none, none, none, none, some (.int k)], rfl, rfl, ev_app1 (ev_var rfl) (is_whole_int _ _)⟩
  refine st_skip (t_not (k := true) (t_of (ev_app1 lc all_true))) ?_
  have s1 : sAsg (eVar 0) (gLen 2 (gCons (gVar 2) (gCons (gVar 3) gNil))) M.length [some (frD m l), some (cutD c), none, none, none, none, none, none] M = .ok (.nx, [some (frD m l), some (cutD c), some (.int m), some (.int l), none, none, none, none]) M := rfl
  have s2 : sAsg (eVar 1) (gLen 3 (gCons (gVar 4) (gCons (gVar 5) (gCons (gVar 6) gNil)))) M.length [some (frD m l), some (cutD c), some (.int m), some (.int l), none, none, none, none] M = .ok (.nx, [some (frD m l), some (cutD c), some (.int m), some (.int l), some (.int c.1), some (.int c.2.1), some (.int c.2.2), none]) M := rfl
  refine sq s1 (sq s2 (st_ret (ev_and (ev_chain (k := true) ev_c (ev_var rfl) (le_yes (by omega)) (ev_var rfl) (lt_yes (by omega))) (ev_chain3 ev_c (ev_var rfl) (le_yes (by omega)) (ev_var rfl) (lt_yes (by omega)) (ev_var rfl) (lt_yes (by omega)))) ⟨rfl, rfl⟩))
theorem need_row_ok {m l : Nat} {r : List Cut} {M : Hep} (hf : Flat M) (hr : r.length < 1000) (hg : ∀ c ∈ r, CutOk m l c) : F_need_row [frD m l, rowD r] M = .ok .non M := by
  have is : F_is_row [frD m l, rowD r] M = .ok (.bl true) M := by
    refine ret_eq rfl rfl ?_
    show Ok (B_is_row M.length [some (frD m l), some (rowD r), none] M) _
    unfold B_is_row
    have lc := lc_flat (fi := iSeq (eVar 1)) (vs := [2]) (g := gVar 2) (tt := fun _ _ M => .ok true M) (te := eApp F_is_cut (lCons (eVar 0) (lCons (eVar 2) lNil))) (n0 := M.length) (σ := [some (frD m l), some (rowD r), none]) (M := M) (M1 := M) (ds := r.map cutD)
      (fun _ => .bl true) rfl (Nat.le_refl _) hf (by rw [List.length_map]; exact hr) (fun _ _ => rfl) fun i d acc hd hfl => by
        rw [List.getElem?_map, Option.map_eq_some_iff] at hd
        obtain ⟨c, hc, rfl⟩ := hd
        exact ⟨[some (frD m l), some (rowD r), some (cutD c)], rfl, rfl, ev_app2 (ev_var rfl) (ev_var rfl) (is_cut_ok hfl (hg c (List.mem_of_getElem? hc)))⟩
    exact st_ret (ev_and (ev_app2 (ev_var rfl) ev_c (isi_tup _)) (ev_app1 lc all_true)) ⟨rfl, rfl⟩
  refine runF_nx (σ := [some (frD m l), some (rowD r)]) rfl ?_
  show B_need_row M.length [some (frD m l), some (rowD r)] M = _
  unfold B_need_row
  rw [st_if_no (t_not (k := true) (t_of (ev_app2 (ev_var rfl) (ev_var rfl) is)))]
  rfl
theorem undoing_ok {m l : Nat} {r : List Cut} {M : Hep} (hf : Flat M) (h1 : 1 ≤ m) (h2 : m ≤ 5) (h3 : 1 ≤ l) (h4 : l ≤ 12) (hr : r.length < 1000) (hg : ∀ c ∈ r, CutOk m l c) : F_undoing [frD m l, rowD r] M = .ok (rowD r.reverse) M := by
  have e : opRev false (rowD r) M = .ok (rowD r.reverse) M := by
    show Res.ok (D.tup (r.map LW.cutD).reverse) M = _
    rw [← List.map_reverse]
    rfl
  refine ret_eq rfl (lows_map low_cut _) ?_
  show Ok (B_undoing M.length [some (frD m l), some (rowD r)] M) _
  unfold B_undoing
  exact st_drop (ev_app1 (ev_var rfl) (need_frame_ok h1 h2 h3 h4 M)) (st_drop (ev_app2 (ev_var rfl) (ev_var rfl) (need_row_ok hf hr hg)) (st_ret (ev_un (ev_var rfl) e) ⟨rfl, rfl⟩))
theorem cut_tail {cs : List Nat} {k : Nat} {M : Hep} (h : k ≤ cs.length) (hz : cs.length < 1000) : opSl false (.str cs) (some (k : Int)) none M = .ok (.str (cs.drop k)) M := by
  have hz := line_of hz
  simp [opSl, strFits, hz, cutD_tail h]
theorem doneG_rows {l p a b : Nat} {T : List (List Nat)} (h : ∀ t ∈ T, t.length = l) (ha : a < T.length) (hb : b < T.length) (hp : p ≤ l) : ∀ t ∈ doneG T p a b, t.length = l := fun t ht => by
  have ea := h _ (List.mem_of_getElem? (get_D (x := []) ha))
  have eb := h _ (List.mem_of_getElem? (get_D (x := []) hb))
  rcases List.mem_or_eq_of_mem_set ht with z | z
  · rcases List.mem_or_eq_of_mem_set z with z | z
    · exact h t z
    · rw [z, List.length_append, List.length_take, List.length_drop]; omega
  · rw [z, List.length_append, List.length_take, List.length_drop]; omega
theorem behind_ok {m l : Nat} {bs : List (List Nat)} {r : List Cut} {M : Hep} (hf : Flat M) (hm : 1 ≤ m) (hm' : m ≤ 5) (h1 : 1 ≤ l) (h2 : l ≤ 12) (hb : BdOk m l bs) (hr : r.length < 1000) (hg : ∀ c ∈ r, CutOk m l c) : F_behind [bdD bs, rowD r] M = .ok (bdD (foldG bs r)) M := by
  have fin : Ok (F_behind [bdD bs, rowD r] M) fun d M' => d = bdD (foldG bs r) ∧ M' = M := by
    refine ok_runF rfl ?_
    show Ok (B_behind M.length [some (bdD bs), some (rowD r), none, none, none, none, none, none] M) _
    unfold B_behind
    refine st_drop (ev_app2 (ev_app1 (ev_var rfl) (frame_of_ok hf hm hm' h1 h2 hb)) (ev_var rfl) (need_row_ok hf hr hg)) ?_
    have ls : pListA true [bdD bs] M = some (mkLst true (bs.map D.str) M) := rfl
    have lsE : (pListA true).op [bdD bs] M = .ok (.ref M.length) (M ++ [.lst (bs.map D.str)]) := by
      unfold PL.op
      rw [ls, mk_ref (by rw [List.length_map, hb.1]; omega)]
      rfl
    refine sq (σ1 := [some (bdD bs), some (rowD r), some (.ref M.length), none, none, none, none, none]) (M1 := M ++ [.lst (bs.map D.str)]) (aV (ev_app1 (ev_var rfl) lsE) (by simp) rfl) ?_
    refine st_for (it := ⟨r.map cutD, none⟩) (M1 := M ++ [.lst (bs.map D.str)]) rfl ?_
    refine ok_forL (fun i σ M' => ∃ (T : List (List Nat)) (w3 w4 w5 w6 w7 : Option D), σ = [some (bdD bs), some (rowD r), some (.ref M.length), w3, w4, w5, w6, w7] ∧ M' = M ++ [.lst (T.map D.str)] ∧ T = foldG bs (r.take i) ∧ T.length = m ∧ ∀ t ∈ T, t.length = l) _ 0 _ _ ⟨bs, _, _, _, _, _, rfl, rfl, rfl, hb.1, fun t ht => (hb.2 t ht).1⟩ ?_ ?_
    · rintro i d σ M' hd ⟨T, w3, w4, w5, w6, w7, rfl, rfl, hT, tm, tl⟩
      rw [List.getElem?_map, Option.map_eq_some_iff] at hd
      obtain ⟨c, hc, rfl⟩ := hd
      obtain ⟨c1, c2, c3⟩ := hg c (List.mem_of_getElem? hc)
      refine ⟨rfl, ?_⟩
      have tg : gLen 3 (gCons (gVar 3) (gCons (gVar 4) (gCons (gVar 5) gNil))) M.length (cutD c) [some (bdD bs), some (rowD r), some (.ref M.length), w3, w4, w5, w6, w7] (M ++ [.lst (T.map D.str)]) = .ok [some (bdD bs), some (rowD r), some (.ref M.length), some (.int c.1), some (.int c.2.1), some (.int c.2.2), w6, w7] (M ++ [.lst (T.map D.str)]) := rfl
      rw [tg, ok_ok]
      have at0 : ∀ {T : List (List Nat)}, (M ++ [Ob.lst (T.map D.str)])[M.length]? = some (.lst (T.map D.str)) := last_at
      have ea : (T.map D.str)[c.2.1]? = some (.str (T.getD c.2.1 [])) := by rw [List.getElem?_map, get_D (x := []) (by omega)]; rfl
      have eb : (T.map D.str)[c.2.2]? = some (.str (T.getD c.2.2 [])) := by rw [List.getElem?_map, get_D (x := []) (by omega)]; rfl
      have la := tl _ (List.mem_of_getElem? (get_D (x := []) (by omega : c.2.1 < T.length)))
      have lb := tl _ (List.mem_of_getElem? (get_D (x := []) (by omega : c.2.2 < T.length)))
      refine sq (σ1 := [some (bdD bs), some (rowD r), some (.ref M.length), some (.int c.1), some (.int c.2.1), some (.int c.2.2), some (.str (T.getD c.2.1 [])), w7]) (M1 := M ++ [.lst (T.map D.str)]) (aV (ev_bin (ev_var rfl) (ev_var rfl) (ix_ref at0 ea)) (by simp) rfl) ?_
      refine sq (σ1 := [some (bdD bs), some (rowD r), some (.ref M.length), some (.int c.1), some (.int c.2.1), some (.int c.2.2), some (.str (T.getD c.2.1 [])), some (.str (T.getD c.2.2 []))]) (M1 := M ++ [.lst (T.map D.str)]) (aV (ev_bin (ev_var rfl) (ev_var rfl) (ix_ref at0 eb)) (by simp) rfl) ?_
      have v1 : ∀ M, opAdd false (.str ((T.getD c.2.1 []).take c.1)) (.str ((T.getD c.2.2 []).drop c.1)) M = .ok (.str ((T.getD c.2.1 []).take c.1 ++ (T.getD c.2.2 []).drop c.1)) M := fun M => add_str _ (line_of (by rw [List.length_take, List.length_drop]; omega))
      have v2 : ∀ M, opAdd false (.str ((T.getD c.2.2 []).take c.1)) (.str ((T.getD c.2.1 []).drop c.1)) M = .ok (.str ((T.getD c.2.2 []).take c.1 ++ (T.getD c.2.1 []).drop c.1)) M := fun M => add_str _ (line_of (by rw [List.length_take, List.length_drop]; omega))
      refine st_asg (ev_bin (ev_sl (ev_var rfl) o_none (o_some (ev_var rfl)) (cut_head (by omega))) (ev_sl (ev_var rfl) (o_some (ev_var rfl)) o_none (cut_tail (by omega) (by omega))) (v1 _)) (sub_at (ev_var rfl) (ev_var rfl) at0 (by rw [List.length_map]; omega) (.inr (Nat.le_refl _))) ?_
      rw [← List.map_set, last_set]
      refine st_last (ev_bin (ev_sl (ev_var rfl) o_none (o_some (ev_var rfl)) (cut_head (by omega))) (ev_sl (ev_var rfl) (o_some (ev_var rfl)) o_none (cut_tail (by omega) (by omega))) (v2 _)) (sub_at (ev_var rfl) (ev_var rfl) at0 (by rw [List.length_map, List.length_set]; omega) (.inr (Nat.le_refl _))) ?_
      rw [← List.map_set, last_set]
      refine ⟨.inl rfl, _, _, settle_le (by simp), doneG T c.1 c.2.1 c.2.2, _, _, _, _, _, rfl, rfl, ?_, by rw [doneG_len]; exact tm, doneG_rows tl (by omega) (by omega) (by omega)⟩
      rw [Nat.zero_add] at hT ⊢
      have hi : i < r.length := (List.getElem?_eq_some_iff.mp hc).1
      have hci : r[i] = c := (List.getElem?_eq_some_iff.mp hc).2
      rw [hT, ← List.take_append_getElem hi, hci]
      unfold foldG
      rw [List.foldl_append]
      rfl
    · rintro σ M' ⟨T, w3, w4, w5, w6, w7, rfl, rfl, hT, tm, tl⟩
      rw [List.length_map, Nat.zero_add, List.take_length] at hT
      subst hT
      exact ⟨rfl, rfl, st_ret (ev_app1 (ev_var rfl) (tuple_ref last_at)) ⟨_, rfl, _, low_frz (d := bdD (foldG bs r)) (lows_map (fun _ => rfl) _), rfl, by simp⟩⟩
  obtain ⟨d, M', e', rfl, rfl⟩ := ok_iff.mp fin
  exact e'
end PR

namespace LW
open DL
/-! ### columns -/
def swapL (ln : List Nat) (a b : Nat) : List Nat := (ln.set a (ln.getD b 0)).set b (ln.getD a 0)
def lineT (m : Nat) (r : List Cut) (p : Nat) : List Nat := r.foldl (fun ln c => if c.1 ≤ p then swapL ln c.2.1 c.2.2 else ln) (List.range m)
def col (R : List (List Nat)) (p : Nat) : List Nat := R.map fun row => row.getD p 0
theorem getD_cut {ra rb : List Nat} {q p : Nat} (hq : q ≤ ra.length) : (ra.take q ++ rb.drop q).getD p 0 = if p < q then ra.getD p 0 else rb.getD p 0 := by
  have lt : (ra.take q).length = q := by rw [List.length_take]; omega
  rw [List.getD_eq_getElem?_getD]
  by_cases h : p < q
  · rw [if_pos h, List.getElem?_append_left (by omega), List.getElem?_take_of_lt h, List.getD_eq_getElem?_getD]
  · rw [if_neg h, List.getElem?_append_right (by omega), lt, List.getElem?_drop, show q + (p - q) = p by omega, List.getD_eq_getElem?_getD]
theorem col_get {R : List (List Nat)} {p a : Nat} (h : a < R.length) : (col R p).getD a 0 = (R.getD a []).getD p 0 := by
  unfold col
  rw [List.getD_eq_getElem?_getD, List.getElem?_map, get_D (x := []) h]
  rfl
theorem set_get {ln : List Nat} {a : Nat} : ln.set a (ln.getD a 0) = ln := by
  by_cases h : a < ln.length
  · rw [List.getD_eq_getElem?_getD, List.getElem?_eq_getElem h]
    exact List.set_getElem_self h
  · exact List.set_eq_of_length_le (by omega)
theorem col_done {l p q a b : Nat} {R : List (List Nat)} (h : ∀ t ∈ R, t.length = l) (ha : a < R.length) (hb : b < R.length) (hq : q ≤ l) : col (doneG R q a b) p = if q ≤ p then swapL (col R p) a b else col R p := by
  have la := h _ (List.mem_of_getElem? (get_D (x := []) ha))
  have lb := h _ (List.mem_of_getElem? (get_D (x := []) hb))
  have e : col (doneG R q a b) p = ((col R p).set a ((R.getD a []).take q ++ (R.getD b []).drop q |>.getD p 0)).set b ((R.getD b []).take q ++ (R.getD a []).drop q |>.getD p 0) := by
    unfold col doneG
    rw [List.map_set, List.map_set]
  rw [e, getD_cut (by omega), getD_cut (by omega)]
  by_cases hp : q ≤ p
  · rw [if_pos hp, if_neg (by omega), if_neg (by omega)]
    unfold swapL
    rw [col_get ha, col_get hb]
  · rw [if_neg hp, if_pos (by omega), if_pos (by omega), ← col_get ha, ← col_get hb, set_get, set_get]
theorem col_fold {l p : Nat} : ∀ (r : List Cut) (R : List (List Nat)), (∀ t ∈ R, t.length = l) → (∀ c ∈ r, CutOk R.length l c) → col (foldG R r) p = r.foldl (fun ln c => if c.1 ≤ p then swapL ln c.2.1 c.2.2 else ln) (col R p)
  | [], R, _, _ => rfl
  | c :: r, R, h, hg => by
    obtain ⟨c1, c2, c3⟩ := hg c List.mem_cons_self
    show col (foldG (doneG R c.1 c.2.1 c.2.2) r) p = r.foldl _ (if c.1 ≤ p then swapL (col R p) c.2.1 c.2.2 else col R p)
    rw [← col_done h (by omega) c3 (by omega)]
    exact col_fold r _ (PR.doneG_rows h (by omega) c3 (by omega)) fun c hc => by rw [doneG_len]; exact hg c (List.mem_cons_of_mem _ hc)
theorem doesD_eq {m l : Nat} {r : List Cut} (hg : ∀ c ∈ r, CutOk m l c) : doesD m l (foldR (begun m l) r) = .tup ((List.range l).map fun p => .tup (lnD (lineT m r p))) := by
  have eb : begun m l = ((List.range m).map fun k => List.replicate l k).map (List.map fun (k : Nat) => D.int (k : Nat)) := by
    unfold begun
    rw [List.map_map]
    apply List.map_congr_left
    intro k _
    show List.replicate l (D.int k) = (List.replicate l k).map _
    rw [List.map_replicate]
  have hR : ∀ t ∈ (List.range m).map fun k => List.replicate l k, t.length = l := fun t ht => by
    obtain ⟨k, _, rfl⟩ := List.mem_map.mp ht
    simp
  have hlen : ((List.range m).map fun k => List.replicate l k).length = m := by simp
  rw [foldR_eq, eb, foldG_map]
  generalize hF : foldG ((List.range m).map fun k => List.replicate l k) r = F
  have lenF : F.length = m := by rw [← hF, foldG_len, hlen]
  unfold doesD
  congr 1
  apply List.map_congr_left
  intro p hp
  have hp : p < l := List.mem_range.mp hp
  congr 1
  have c0 : col ((List.range m).map fun k => List.replicate l k) p = List.range m := by
    unfold col
    rw [List.map_map]
    conv => rhs; rw [← List.map_id (List.range m)]
    apply List.map_congr_left
    intro k _
    show (List.replicate l k).getD p 0 = k
    rw [List.getD_eq_getElem?_getD, List.getElem?_replicate, if_pos hp]
    rfl
  have cf : lineT m r p = col F p := by
    rw [← hF, col_fold r _ hR (by rw [hlen]; exact hg), c0]
    rfl
  have rows : ∀ t ∈ F, t.length = l := by
    rw [← hF]
    have : ∀ (r : List Cut) (R : List (List Nat)), (∀ t ∈ R, t.length = l) → (∀ c ∈ r, CutOk R.length l c) → ∀ t ∈ foldG R r, t.length = l := fun r => by
      induction r with
      | nil => intro R h _; exact h
      | cons c r ih =>
        intro R h hg
        obtain ⟨c1, c2, c3⟩ := hg c List.mem_cons_self
        exact ih _ (PR.doneG_rows h (by omega) c3 (by omega)) fun c hc => by rw [doneG_len]; exact hg c (List.mem_cons_of_mem _ hc)
    exact this r _ hR (by rw [hlen]; exact hg)
  rw [cf]
  unfold lnD col
  rw [List.map_map]
  have := map_range_get (fun row => D.int (row.getD p 0 : Nat)) F (fun k => ((F.map (List.map fun (k : Nat) => D.int (k : Nat))).getD k []).getD p .non) fun i hi => by
    rw [getD_map', List.getD_eq_getElem?_getD (l := F), List.getElem?_eq_getElem hi]
    show ((F[i]).map fun (k : Nat) => D.int (k : Nat)).getD p .non = _
    rw [List.getD_eq_getElem?_getD, List.getElem?_map, get_D (x := 0) (by rw [rows _ (List.getElem_mem hi)]; exact hp)]
    rfl
  rw [lenF] at this
  rw [this]
  rfl
end LW
namespace PR
open DL LW
theorem swapL_len {ln : List Nat} {a b : Nat} : (swapL ln a b).length = ln.length := by simp [swapL]
theorem line_ok {m l p : Nat} {r : List Cut} {M : Hep} (hm : m < 100) (hg : ∀ c ∈ r, CutOk m l c) : F__line_behind [.int m, rowD r, .int p] M = .ok (.tup (lnD (lineT m r p))) M := by
  have fin : Ok (F__line_behind [.int m, rowD r, .int p] M) fun d M' => d = .tup (lnD (lineT m r p)) ∧ M' = M := by
    refine ok_runF rfl ?_
    show Ok (B__line_behind M.length [some (.int m), some (rowD r), some (.int p), none, none, none, none] M) _
    unfold B__line_behind
    refine sq (σ1 := [some (.int m), some (rowD r), some (.int p), some (.ref M.length), none, none, none]) (M1 := M ++ [.lst (lnD (List.range m))]) (aV (ev_app1 (ev_var rfl) (by rw [lst_rg (by omega), mk_ref (by simp [lnD]; omega)])) (by simp) rfl) ?_
    refine st_for (it := ⟨r.map LW.cutD, none⟩) (M1 := M ++ [.lst (lnD (List.range m))]) rfl ?_
    refine ok_forL (fun i σ M' => ∃ (ln : List Nat) (w4 w5 w6 : Option D), σ = [some (.int m), some (rowD r), some (.int p), some (.ref M.length), w4, w5, w6] ∧ M' = M ++ [.lst (lnD ln)] ∧ ln = lineT m (r.take i) p ∧ ln.length = m) _ 0 _ _ ⟨_, _, _, _, rfl, rfl, rfl, by simp [lineT]⟩ ?_ ?_
    · rintro i d σ M' hd ⟨ln, w4, w5, w6, rfl, rfl, hT, tm⟩
      rw [List.getElem?_map, Option.map_eq_some_iff] at hd
      obtain ⟨c, hc, rfl⟩ := hd
      obtain ⟨c1, c2, c3⟩ := hg c (List.mem_of_getElem? hc)
      have hi : i < r.length := (List.getElem?_eq_some_iff.mp hc).1
      have hci : r[i] = c := (List.getElem?_eq_some_iff.mp hc).2
      have nextT : lineT m (r.take (i + 1)) p = if c.1 ≤ p then swapL (lineT m (r.take i) p) c.2.1 c.2.2 else lineT m (r.take i) p := by
        rw [← List.take_append_getElem hi, hci]
        unfold lineT
        rw [List.foldl_append]
        rfl
      rw [Nat.zero_add] at hT
      refine ⟨rfl, ?_⟩
      have tg : gLen 3 (gCons (gVar 4) (gCons (gVar 5) (gCons (gVar 6) gNil))) M.length (LW.cutD c) [some (.int m), some (rowD r), some (.int p), some (.ref M.length), w4, w5, w6] (M ++ [.lst (lnD ln)]) = .ok [some (.int m), some (rowD r), some (.int p), some (.ref M.length), some (.int c.1), some (.int c.2.1), some (.int c.2.2)] (M ++ [.lst (lnD ln)]) := rfl
      rw [tg, ok_ok]
      have at0 : ∀ {ln : List Nat}, (M ++ [Ob.lst (lnD ln)])[M.length]? = some (.lst (lnD ln)) := last_at
      have ea : (lnD ln)[c.2.1]? = some (.int (ln.getD c.2.1 0 : Nat)) := by unfold lnD; rw [List.getElem?_map, get_D (x := 0) (by omega)]; rfl
      have eb : (lnD ln)[c.2.2]? = some (.int (ln.getD c.2.2 0 : Nat)) := by unfold lnD; rw [List.getElem?_map, get_D (x := 0) (by omega)]; rfl
      have ll : ∀ ln : List Nat, (lnD ln).length = ln.length := fun ln => by simp [lnD]
      have se : ∀ (ln : List Nat) (a x : Nat), (lnD ln).set a (.int (x : Nat)) = lnD (ln.set a x) := fun ln a x => by unfold lnD; rw [List.map_set]
      have tst : tOf (eBin opLe (eVar 4) (eVar 2)) M.length [some (.int m), some (rowD r), some (.int p), some (.ref M.length), some (.int c.1), some (.int c.2.1), some (.int c.2.2)] (M ++ [.lst (lnD ln)]) = .ok (decide ((c.1 : Int) ≤ (p : Int))) (M ++ [.lst (lnD ln)]) := t_of (ev_bin (ev_var rfl) (ev_var rfl) (le_int _ _))
      unfold sIf
      rw [tst, bind_ok']
      by_cases hp : c.1 ≤ p
      · rw [decide_eq_true (by omega : (c.1 : Int) ≤ (p : Int)), if_pos rfl]
        refine st_last (ev_app2 (ev_bin (ev_var rfl) (ev_var rfl) (ix_ref at0 eb)) (ev_bin (ev_var rfl) (ev_var rfl) (ix_ref at0 ea)) (mk_tup (by simp)))
          (g_len rfl (g_cons (sub_at (ev_var rfl) (ev_var rfl) at0 (by rw [ll]; omega) (.inr (Nat.le_refl _))) (g_cons (by rw [se, last_set]; exact sub_at (ev_var rfl) (ev_var rfl) at0 (by rw [ll, List.length_set]; omega) (.inr (Nat.le_refl _))) g_nil))) ?_
        rw [se, last_set]
        refine ⟨.inl rfl, _, _, settle_le (by simp), swapL ln c.2.1 c.2.2, _, _, _, rfl, rfl, ?_, by rw [swapL_len]; exact tm⟩
        rw [Nat.zero_add, nextT, if_pos hp, hT]
      · rw [decide_eq_false (by omega : ¬ (c.1 : Int) ≤ (p : Int)), if_neg (by decide)]
        refine .here ⟨.inl rfl, _, _, settle_le (by simp), ln, _, _, _, rfl, rfl, ?_, tm⟩
        rw [Nat.zero_add, nextT, if_neg hp, hT]
    · rintro σ M' ⟨ln, w4, w5, w6, rfl, rfl, hT, tm⟩
      rw [List.length_map, Nat.zero_add, List.take_length] at hT
      subst hT
      exact ⟨rfl, rfl, st_ret (ev_app1 (ev_var rfl) (tuple_ref last_at)) ⟨_, rfl, _, low_frz (low_tln _), rfl, by simp⟩⟩
  obtain ⟨d, M', e', rfl, rfl⟩ := ok_iff.mp fin
  exact e'
theorem does_ok {m l : Nat} {r : List Cut} {M : Hep} (hf : Flat M) (hm : 1 ≤ m) (hm' : m ≤ 5) (h1 : 1 ≤ l) (h2 : l ≤ 12) (hr : r.length < 1000) (hg : ∀ c ∈ r, CutOk m l c) : F_does [frD m l, rowD r] M = .ok (doesD m l (foldR (begun m l) r)) M := by
  rw [doesD_eq hg]
  refine ret_eq rfl (lows_map (fun _ => low_tln _) _) ?_
  show Ok (B_does M.length [some (frD m l), some (rowD r), none, none, none] M) _
  unfold B_does
  refine st_drop (ev_app1 (ev_var rfl) (need_frame_ok hm hm' h1 h2 M)) (st_drop (ev_app2 (ev_var rfl) (ev_var rfl) (need_row_ok hf hr hg)) ?_)
  have s1 : sAsg (eVar 0) (gLen 2 (gCons (gVar 2) (gCons (gVar 3) gNil))) M.length [some (frD m l), some (rowD r), none, none, none] M = .ok (.nx, [some (frD m l), some (rowD r), some (.int m), some (.int l), none]) M := rfl
  refine sq s1 ?_
  have lc := lc_flat (fi := iRng (lCons (eVar 3) lNil)) (vs := [4]) (g := gVar 4) (tt := fun _ _ M => .ok true M) (te := eApp F__line_behind (lCons (eVar 2) (lCons (eVar 1) (lCons (eVar 4) lNil)))) (fun p => .tup (lnD (lineT m r p)))
    (rng_eval (σ := [some (frD m l), some (rowD r), some (.int m), some (.int l), none]) (n0 := M.length) (M := M) (l := l) (ls_cons (ev_var rfl) ls_nil) (by omega)) (Nat.le_refl _) hf (by rw [rng_len]; omega) (fun _ _ => low_tln _) fun p d acc hd hfl => by
      obtain ⟨hp, rfl⟩ := rng_get hd
      exact ⟨[some (frD m l), some (rowD r), some (.int m), some (.int l), some (.int (p : Nat))], rfl, rfl, ev_app3 (ev_var rfl) (ev_var rfl) (ev_var rfl) (line_ok (by omega) hg)⟩
  rw [rng_len] at lc
  exact st_ret (ev_app1 lc (tuple_fz _)) ⟨rfl, rfl⟩
end PR

namespace LW
open DL
open PySem (PyData)
theorem pys_ln : ∀ ln : List Nat, pys (lnD ln) = some (ln.map fun (k : Nat) => PyData.int (k : Nat))
  | [] => rfl
  | k :: ln => by
    have := pys_ln ln
    unfold lnD at this ⊢
    rw [List.map_cons, pys, this]
    rfl
theorem lay_ln : ∀ ln : List Nat, PyData.canLayAll0 (ln.map fun (k : Nat) => PyData.int (k : Nat)) = true
  | [] => rfl
  | k :: ln => by
    rw [List.map_cons, PyData.canLayAll0, lay_ln ln]
    rfl
theorem deep_ln : ∀ ln : List Nat, PyData.depthAll (ln.map fun (k : Nat) => PyData.int (k : Nat)) = 0
  | [] => by simp [PyData.depthAll]
  | k :: ln => by
    have := deep_ln ln
    simp [PyData.depthAll, PyData.depth] at this ⊢
    exact this
theorem eq_self {d : D} {p : PyData} {M : Hep} (h : d.low 0 = true) (hp : d.py = some p) (hs : PySem.SeqAt.shaped p = true) (hn : pEqS id d d M = none) : opEq d d M = .ok (.bl true) M := by
  rw [eq_py (by rw [py_low h]; exact hp) (by rw [py_low h]; exact hp) hs hs hn, PySem.SeqAt.eqv_refl p (PySem.SeqAt.canLay_of_shaped hs)]
theorem eq_ln (ln : List Nat) (M : Hep) : opEq (.fz (lnD ln)) (.fz (lnD ln)) M = .ok (.bl true) M := by
  refine eq_self (p := .list (ln.map fun (k : Nat) => PyData.int (k : Nat))) (low_ln ln) (by rw [D.py, pys_ln]; rfl) ?_ rfl
  have h4 : PyData.depth (.list (ln.map fun (k : Nat) => PyData.int (k : Nat))) = PyData.depthAll (ln.map fun (k : Nat) => PyData.int (k : Nat)) + 1 := by simp only [PyData.depth]
  have h5 : PyData.canLay0 (.list (ln.map fun (k : Nat) => PyData.int (k : Nat))) = true := by simp only [PyData.canLay0, lay_ln]
  unfold PySem.SeqAt.shaped
  rw [h5, h4, deep_ln]
  rfl
theorem sort_ln {m : Nat} {ln : List Nat} {M : Hep} (hm : m < 100) (h : LnOk m ln) : (pSortedA false).op [.tup (lnD ln)] M = .ok (.fz (lnD (List.range m))) M := by
  have hi : intsOf (lnD ln) = some (ln.map fun (k : Nat) => (k : Int)) := ints_map _ ln
  have hs : (List.range m).map (fun (k : Nat) => (k : Int)) = sortI (ln.map fun (k : Nat) => (k : Int)) := by
    refine sorted_same ((h.symm.map _).trans (sortI_perm _).symm) ?_ (sortI_sorted _)
    rw [List.pairwise_map]
    exact List.pairwise_le_range.imp fun h => by omega
  have e : pSortedA false [.tup (lnD ln)] M = some (mkLst false ((sortI (ln.map fun (k : Nat) => (k : Int))).map .int) M) := by
    show (intsOf (lnD ln)).map (fun ns => mkLst false ((sortI ns).map D.int) M) = _
    rw [hi]; rfl
  unfold PL.op
  rw [e, ← hs, List.map_map]
  show mkLst false (lnD (List.range m)) M = _
  rw [mk_fz (by simp [lnD]; omega)]
end LW
namespace PR
open DL LW
theorem is_line_ok {m : Nat} {ln : List Nat} {M : Hep} (hf : Flat M) (hm : m < 100) (h : LnOk m ln) : F_is_line [.int m, .tup (lnD ln)] M = .ok (.bl true) M := by
  have hl := (ln_lt h).1
  refine ret_eq rfl rfl ?_
  show Ok (B_is_line M.length [some (.int m), some (.tup (lnD ln)), none] M) _
  unfold B_is_line
  have lc := lc_flat (fi := iSeq (eVar 1)) (vs := [2]) (g := gVar 2) (tt := fun _ _ M => .ok true M) (te := eApp F_is_whole (lCons (eVar 2) lNil)) (n0 := M.length) (σ := [some (.int m), some (.tup (lnD ln)), none]) (M := M) (M1 := M) (ds := lnD ln)
    (fun _ => .bl true) rfl (Nat.le_refl _) hf (by simp [lnD]; omega) (fun _ _ => rfl) fun i d acc hd _ => by
      unfold lnD at hd
      rw [List.getElem?_map, Option.map_eq_some_iff] at hd
      obtain ⟨k, hk, rfl⟩ := hd
      exact ⟨[some (.int m), some (.tup (lnD ln)), some (.int (k : Nat))], rfl, rfl, ev_app1 (ev_var rfl) (is_whole_int _ _)⟩
  refine st_skip (t_or (t_not (t_of (ev_app2 (ev_var rfl) ev_c (isi_tup _)))) (t_not (k := true) (t_of (ev_app1 lc all_true)))) ?_
  exact st_ret (ev_bin (ev_app1 (ev_var rfl) (sort_ln hm h)) (ev_app1 (ev_var rfl) (by rw [lst_rg (by omega), mk_fz (by simp [lnD]; omega)])) (eq_ln _ _)) ⟨rfl, rfl⟩
theorem need_effect_ok {m l : Nat} {e : List (List Nat)} {M : Hep} (hf : Flat M) (h1 : 1 ≤ m) (h2 : m ≤ 5) (h3 : 1 ≤ l) (h4 : l ≤ 12) (he : EffOk m l e) : F_need_effect [frD m l, effD e] M = .ok .non M := by
  have is : F_is_effect [frD m l, effD e] M = .ok (.bl true) M := by
    refine ret_eq rfl rfl ?_
    show Ok (B_is_effect M.length [some (frD m l), some (effD e), none, none, none] M) _
    unfold B_is_effect
    refine st_drop (ev_app1 (ev_var rfl) (need_frame_ok h1 h2 h3 h4 M)) ?_
    have s1 : sAsg (eVar 0) (gLen 2 (gCons (gVar 2) (gCons (gVar 3) gNil))) M.length [some (frD m l), some (effD e), none, none, none] M = .ok (.nx, [some (frD m l), some (effD e), some (.int m), some (.int l), none]) M := rfl
    refine sq s1 ?_
    have ne : opNe (.int ((e.map fun ln => D.tup (lnD ln)).length : Nat)) (.int l) M = .ok (.bl false) M := by
      rw [ne_int, List.length_map, he.1, decide_eq_true rfl]
      rfl
    refine st_skip (t_or (t_not (t_of (ev_app2 (ev_var rfl) ev_c (isi_tup _)))) (t_of (ev_bin (ev_app1 (ev_var rfl) (len_tup _)) (ev_var rfl) ne))) ?_
    have lc := lc_flat (fi := iSeq (eVar 1)) (vs := [4]) (g := gVar 4) (tt := fun _ _ M => .ok true M) (te := eApp F_is_line (lCons (eVar 2) (lCons (eVar 4) lNil))) (n0 := M.length) (σ := [some (frD m l), some (effD e), some (.int m), some (.int l), none]) (M := M) (M1 := M) (ds := e.map fun ln => D.tup (lnD ln))
      (fun _ => .bl true) rfl (Nat.le_refl _) hf (by rw [List.length_map, he.1]; omega) (fun _ _ => rfl) fun i d acc hd hfl => by
        rw [List.getElem?_map, Option.map_eq_some_iff] at hd
        obtain ⟨ln, hln, rfl⟩ := hd
        exact ⟨[some (frD m l), some (effD e), some (.int m), some (.int l), some (.tup (lnD ln))], rfl, rfl, ev_app2 (ev_var rfl) (ev_var rfl) (is_line_ok hfl (by omega) (he.2 ln (List.mem_of_getElem? hln)))⟩
    exact st_ret (ev_app1 lc all_true) ⟨rfl, rfl⟩
  refine runF_nx (σ := [some (frD m l), some (effD e)]) rfl ?_
  show B_need_effect M.length [some (frD m l), some (effD e)] M = _
  unfold B_need_effect
  rw [st_if_no (t_not (k := true) (t_of (ev_app2 (ev_var rfl) (ev_var rfl) is)))]
  rfl
theorem led_ok {m l : Nat} {bs e : List (List Nat)} {M : Hep} (hf : Flat M) (h1 : 1 ≤ m) (h2 : m ≤ 5) (h3 : 1 ≤ l) (h4 : l ≤ 12) (hb : BdOk m l bs) (he : EffOk m l e) : F_led [bdD bs, effD e] M = .ok (bdD (ledT m l bs e)) M := by
  have fin : Ok (F_led [bdD bs, effD e] M) fun d M' => d = bdD (ledT m l bs e) ∧ M' = M := by
    refine ok_runF rfl ?_
    show Ok (B_led M.length [some (bdD bs), some (effD e), none, none, none, none, none, none, none] M) _
    unfold B_led
    refine sq (σ1 := [some (bdD bs), some (effD e), some (frD m l), none, none, none, none, none, none]) (M1 := M) (aV (ev_app1 (ev_var rfl) (frame_of_ok hf h1 h2 h3 h4 hb)) (by simp) rfl) ?_
    refine st_drop (ev_app2 (ev_var rfl) (ev_var rfl) (need_effect_ok hf h1 h2 h3 h4 he)) ?_
    have s1 : sAsg (eVar 2) (gLen 2 (gCons (gVar 3) (gCons (gVar 4) gNil))) M.length [some (bdD bs), some (effD e), some (frD m l), none, none, none, none, none, none] M = .ok (.nx, [some (bdD bs), some (effD e), some (frD m l), some (.int m), some (.int l), none, none, none, none]) M := rfl
    refine sq s1 ?_
    refine sq (σ1 := [some (bdD bs), some (effD e), some (frD m l), some (.int m), some (.int l), some (.ref M.length), none, none, none]) (M1 := M ++ [.lst []]) (aV (ev_app ls_nil (mk_ref (by simp))) (by simp) rfl) ?_
    refine st_for (rng_eval (l := m) (ls_cons (ev_var rfl) ls_nil) (by omega)) ?_
    refine ok_forL (fun i σ M' => ∃ w6 w7 : Option D, σ = [some (bdD bs), some (effD e), some (frD m l), some (.int m), some (.int l), some (.ref M.length), w6, w7, none] ∧ M' = M ++ [.lst (((List.range i).map fun k => (List.range l).map fun p => (bs.getD ((e.getD p []).getD k 0) []).getD p 0).map D.str)]) _ 0 _ _ ⟨none, none, rfl, rfl⟩ ?_ ?_
    · rintro i d σ M' hd ⟨w6, w7, rfl, rfl⟩
      obtain ⟨hi, rfl⟩ := rng_get hd
      rw [Nat.zero_add]
      generalize hacc : ((List.range i).map fun k => (List.range l).map fun p => (bs.getD ((e.getD p []).getD k 0) []).getD p 0) = acc
      have lacc : acc.length = i := by rw [← hacc]; simp
      have at0 : (M ++ [Ob.lst (acc.map D.str)])[M.length]? = some (.lst (acc.map D.str)) := last_at
      refine ⟨rfl, ?_⟩
      rw [g_var (by simp), ok_ok]
      simp only [List.set_cons_succ, List.set_cons_zero]
      have inner := lc_flat (fi := iRng (lCons (eVar 4) lNil)) (vs := [8]) (g := gVar 8) (tt := fun _ _ M => .ok true M) (te := eBin opIx (eBin opIx (eVar 0) (eBin opIx (eBin opIx (eVar 1) (eVar 8)) (eVar 6))) (eVar 8)) (fun p => D.str [(bs.getD ((e.getD p []).getD i 0) []).getD p 0])
        (rng_eval (σ := [some (bdD bs), some (effD e), some (frD m l), some (.int m), some (.int l), some (.ref M.length), some (.int (i : Nat)), w7, none]) (n0 := M.length) (M := M ++ [.lst (acc.map D.str)]) (l := l) (ls_cons (ev_var rfl) ls_nil) (by omega)) (by simp) (flat_app hf (lows_map (fun _ => rfl) _)) (by rw [rng_len]; omega) (fun _ _ => rfl) fun p d acc2 hd2 _ => by
          obtain ⟨hp, rfl⟩ := rng_get hd2
          obtain ⟨s1, s2, s3, s4⟩ := led_sign (M := (M ++ [.lst (acc.map D.str)]) ++ [.lst acc2]) hb he (by omega) (by omega) hi hp
          exact ⟨[some (bdD bs), some (effD e), some (frD m l), some (.int m), some (.int l), some (.ref M.length), some (.int (i : Nat)), w7, some (.int (p : Nat))], rfl, rfl, ev_bin (ev_bin (ev_var rfl) (ev_bin (ev_bin (ev_var rfl) (ev_var rfl) (ix_tup s1)) (ev_var rfl) s2) s3) (ev_var rfl) s4⟩
      rw [rng_len] at inner
      have jn : mJoin M.length (.str []) [.fz ((List.range l).map fun p => D.str [(bs.getD ((e.getD p []).getD i 0) []).getD p 0])] (M ++ [.lst (acc.map D.str)]) = .ok (.str ((List.range l).map fun p => (bs.getD ((e.getD p []).getD i 0) []).getD p 0)) (M ++ [.lst (acc.map D.str)]) := by
        have := join_fz (n := M.length) (M := M ++ [.lst (acc.map D.str)]) (f := fun c => [c]) (xs := (List.range l).map fun p => (bs.getD ((e.getD p []).getD i 0) []).getD p 0) (by rw [sum_one, List.length_map, List.length_range]; omega)
        rw [List.map_map, flatten_one] at this
        exact this
      have app := app_at (n := M.length) (d := .str ((List.range l).map fun p => (bs.getD ((e.getD p []).getD i 0) []).getD p 0)) at0 (by have := line_of (n := acc.length + 1) (by omega); rw [List.length_map]; omega) (.inl (Nat.le_refl _))
      rw [last_set] at app
      refine sq (σ1 := [some (bdD bs), some (effD e), some (frD m l), some (.int m), some (.int l), some (.ref M.length), some (.int (i : Nat)), some (.fz ((List.range l).map fun p => D.str [(bs.getD ((e.getD p []).getD i 0) []).getD p 0])), none]) (M1 := M ++ [.lst (acc.map D.str)]) (aV inner (by simp) rfl) ?_
      refine st_lastD (ev_mt (ev_var rfl) (lst_ref at0) (ls_cons (ev_mt ev_c rfl (ls_cons (ev_var rfl) ls_nil) jn) ls_nil) app) ?_
      refine ⟨.inl rfl, _, _, settle_le (by simp), _, _, rfl, ?_⟩
      rw [List.range_succ, List.map_append, hacc, List.map_append]
      rfl
    · rintro σ M' ⟨w6, w7, rfl, rfl⟩
      rw [rng_len, Nat.zero_add]
      exact ⟨rfl, rfl, st_ret (ev_app1 (ev_var rfl) (tuple_ref last_at)) ⟨_, rfl, _, low_frz (d := bdD (ledT m l bs e)) (lows_map (fun _ => rfl) _), rfl, by simp⟩⟩
  obtain ⟨d, M', e', rfl, rfl⟩ := ok_iff.mp fin
  exact e'
end PR

namespace LW
open DL
open PySem (PyData)
mutual
def plainP : PyData → Bool
  | .none => true
  | .bool _ => true
  | .int i => decide (i.natAbs < 10 ^ 12)
  | .str x => PyData.strOk x
  | .list xs => plainPs xs
  | .tuple xs => plainPs xs
  | .dict _ => false
def plainPs : List PyData → Bool
  | [] => true
  | x :: xs => plainP x && plainPs xs
end
mutual
theorem plain_lay : ∀ d, plainP d = true → PyData.canLay0 d = true ∧ PyData.showable d = true ∧ PyData.hasDict d = false ∧ PyData.intsShort 13 d = true
  | .none, _ => ⟨rfl, rfl, rfl, rfl⟩
  | .bool _, _ => ⟨rfl, rfl, rfl, rfl⟩
  | .int i, h => by
    simp only [plainP, decide_eq_true_eq] at h
    have h2 : i.natAbs.log2 < 1920 := by
      by_cases z : i.natAbs = 0
      · rw [z]; decide
      · have : i.natAbs.log2 < 40 := (Nat.log2_lt z).mpr (Nat.lt_of_lt_of_le h (by decide))
        omega
    refine ⟨rfl, ?_, rfl, ?_⟩
    · simp only [PyData.showable, h2, decide_true]
    · simp only [PyData.intsShort, decide_eq_true_eq]
      exact PyData.shown_int_le h
  | .str x, h => by
    simp only [plainP] at h
    exact ⟨by simpa [PyData.canLay0] using h, rfl, rfl, rfl⟩
  | .list xs, h => by
    simp only [plainP] at h
    obtain ⟨h1, h2, h3, h4⟩ := plains_lay xs h
    exact ⟨by simpa [PyData.canLay0] using h1, by simpa [PyData.showable] using h2, by simpa [PyData.hasDict] using h3, by simpa [PyData.intsShort] using h4⟩
  | .tuple xs, h => by
    simp only [plainP] at h
    obtain ⟨h1, h2, h3, h4⟩ := plains_lay xs h
    exact ⟨by simpa [PyData.canLay0] using h1, by simpa [PyData.showable] using h2, by simpa [PyData.hasDict] using h3, by simpa [PyData.intsShort] using h4⟩
  | .dict _, h => by simp [plainP] at h
theorem plains_lay : ∀ xs, plainPs xs = true → PyData.canLayAll0 xs = true ∧ PyData.showableAll xs = true ∧ PyData.hasDictAll xs = false ∧ PyData.intsShortAll 13 xs = true
  | [], _ => ⟨rfl, rfl, rfl, rfl⟩
  | x :: xs, h => by
    simp only [plainPs, Bool.and_eq_true] at h
    obtain ⟨h1, h2, h3, h4⟩ := plain_lay x h.1
    obtain ⟨k1, k2, k3, k4⟩ := plains_lay xs h.2
    exact ⟨by simp [PyData.canLayAll0, h1, k1], by simp [PyData.showableAll, h2, k2], by simp [PyData.hasDictAll, h3, k3], by simp [PyData.intsShortAll, h4, k4]⟩
end
structure Small (B d : Nat) (p : PyData) : Prop where
  pl : plainP p = true
  wt : PyData.weight p ≤ B
  dp : PyData.depth p ≤ d
theorem Small.mono {B d B' d' : Nat} {p : PyData} (h : Small B d p) (hb : B ≤ B') (hd : d ≤ d') : Small B' d' p := ⟨h.pl, Nat.le_trans h.wt hb, Nat.le_trans h.dp hd⟩
theorem Small.repr {B d : Nat} {p : PyData} (h : Small B d p) (hB : B ≤ 1000000) (hd : d ≤ 60) : reprOk p = true := by
  obtain ⟨h1, h2, h3, h4⟩ := plain_lay p h.pl
  have h5 : PyData.layable0 p = true := by
    unfold PyData.layable0
    simp only [h1, Bool.true_and, Bool.and_eq_true, decide_eq_true_eq]
    have e : (2 : Nat) ^ 20 = 1048576 := by decide
    have := h.wt
    have := h.dp
    omega
  have h6 := PyData.shown_le_of_layable0 h5 h4
  unfold reprOk
  simp only [h2, h3, Bool.not_false, Bool.true_and, Bool.and_eq_true, decide_eq_true_eq]
  refine ⟨Nat.le_trans h.dp hd, Nat.le_trans h6 ?_⟩
  unfold PySem.sizeLine
  omega
theorem small_all {B d : Nat} : ∀ xs : List PyData, (∀ x ∈ xs, Small B d x) → plainPs xs = true ∧ PyData.weightAll xs ≤ xs.length * (B + 1) ∧ PyData.depthAll xs ≤ d
  | [], _ => ⟨rfl, by simp [PyData.weightAll], by simp [PyData.depthAll]⟩
  | x :: xs, h => by
    have h1 := h x List.mem_cons_self
    obtain ⟨k1, k2, k3⟩ := small_all xs fun y hy => h y (List.mem_cons_of_mem _ hy)
    refine ⟨by simp [plainPs, h1.pl, k1], ?_, ?_⟩
    · have := h1.wt
      simp only [PyData.weightAll, List.length_cons, Nat.succ_mul]
      omega
    · have := h1.dp
      simp only [PyData.depthAll]
      omega
theorem small_tup {B d : Nat} {xs : List PyData} (h : ∀ x ∈ xs, Small B d x) : Small (xs.length * (B + 1)) (d + 1) (.tuple xs) := by
  obtain ⟨k1, k2, k3⟩ := small_all xs h
  exact ⟨by simpa [plainP] using k1, by simpa [PyData.weight] using k2, by simpa [PyData.depth] using k3⟩
theorem small_lst {B d : Nat} {xs : List PyData} (h : ∀ x ∈ xs, Small B d x) : Small (xs.length * (B + 1)) (d + 1) (.list xs) := by
  obtain ⟨k1, k2, k3⟩ := small_all xs h
  exact ⟨by simpa [plainP] using k1, by simpa [PyData.weight] using k2, by simpa [PyData.depth] using k3⟩
theorem small_int {k : Nat} (h : k < 1000) : Small 1001 0 (.int (k : Nat)) := by
  refine ⟨?_, ?_, by simp [PyData.depth]⟩
  · simp only [plainP, decide_eq_true_eq, Int.natAbs_natCast]
    have : (1000 : Nat) < 10 ^ 12 := by decide
    omega
  · simp only [PyData.weight, Int.natAbs_natCast]
    split
    · omega
    · rename_i hz
      have : k.log2 < 10 := (Nat.log2_lt (by intro z; subst z; simp at hz)).mpr (Nat.lt_of_lt_of_le h (by decide))
      omega
theorem small_str {t : List Nat} (h : t.length < 1000) (hg : ∀ c ∈ t, c < 1114112) : Small 1001 0 (.str ⟨t.toArray⟩) := by
  refine ⟨?_, ?_, by simp [PyData.depth]⟩
  · simp only [plainP, PyData.strOk]
    simpa using hg
  · simp only [PyData.weight, List.size_toArray]
    omega
theorem pys_map {α : Type} {f : α → D} {g : α → PyData} : ∀ {xs : List α}, (∀ x ∈ xs, (f x).py = some (g x)) → pys (xs.map f) = some (xs.map g)
  | [], _ => rfl
  | x :: xs, h => by
    rw [List.map_cons, pys, h x List.mem_cons_self, pys_map fun y hy => h y (List.mem_cons_of_mem _ hy)]
    rfl
/-- what may be shown, with what it is as data -/
structure Shows (B d : Nat) (x : D) (p : PyData) : Prop where
  low : x.low 0 = true
  py : x.py = some p
  sm : Small B d p
theorem Shows.repr {B d : Nat} {x : D} {p : PyData} {M : Hep} (h : Shows B d x p) (hB : B ≤ 1000000) (hd : d ≤ 60) : pRepr.op [x] M = .ok (.str p.shown.cps.toList) M := by
  have e : pyOf M x = some p := by rw [py_low h.low]; exact h.py
  unfold PL.op
  simp only [pRepr, e, Option.bind_some, h.sm.repr hB hd, if_true, Option.getD_some]
end LW

namespace LW
open DL
open PySem (PyData)
theorem shows_int {k : Nat} (h : k < 1000) : Shows 1001 0 (.int (k : Nat)) (.int (k : Nat)) := ⟨rfl, rfl, small_int h⟩
theorem shows_str {t : List Nat} (h : t.length < 1000) (hg : ∀ c ∈ t, c < 1114112) : Shows 1001 0 (.str t) (.str ⟨t.toArray⟩) := ⟨rfl, rfl, small_str h hg⟩
theorem lows_of {α : Type} {f : α → D} : ∀ {xs : List α}, (∀ x ∈ xs, (f x).low 0 = true) → lows 0 (xs.map f) = true
  | [], _ => rfl
  | x :: xs, h => by simp [lows, h x List.mem_cons_self, lows_of fun y hy => h y (List.mem_cons_of_mem _ hy)]
theorem shows_tup {α : Type} {B d : Nat} {f : α → D} {g : α → PyData} {xs : List α} (h : ∀ x ∈ xs, Shows B d (f x) (g x)) : Shows (xs.length * (B + 1)) (d + 1) (.tup (xs.map f)) (.tuple (xs.map g)) := by
  refine ⟨lows_of fun x hx => (h x hx).low, by rw [D.py, pys_map fun x hx => (h x hx).py]; rfl, ?_⟩
  have := small_tup (xs := xs.map g) (B := B) (d := d) fun y hy => by
    obtain ⟨x, hx, rfl⟩ := List.mem_map.mp hy
    exact (h x hx).sm
  rwa [List.length_map] at this
theorem Shows.mono {B d B' d' : Nat} {x : D} {p : PyData} (h : Shows B d x p) (hb : B ≤ B') (hd : d ≤ d') : Shows B' d' x p := ⟨h.low, h.py, h.sm.mono hb hd⟩
theorem shows_fr {m l : Nat} (hm : m < 1000) (hl : l < 1000) : Shows 100000 9 (frD m l) (.tuple [.int m, .int l]) := by
  have := shows_tup (xs := [m, l]) (f := fun (k : Nat) => D.int (k : Nat)) (g := fun (k : Nat) => PyData.int (k : Nat)) (B := 1001) (d := 0) fun x hx => by
    rcases List.mem_cons.mp hx with z | hx
    · rw [z]; exact shows_int hm
    · rw [List.mem_singleton.mp hx]; exact shows_int hl
  exact this.mono (by simp) (by omega)
theorem shows_bd {m l : Nat} {bs : List (List Nat)} (hb : bs.length = m) (hm : m ≤ 5) (hl : l ≤ 12) (hg : ∀ t ∈ bs, t.length = l ∧ ∀ c ∈ t, c < 1114112) : ∃ p, Shows 100000 9 (bdD bs) p := by
  have := shows_tup (xs := bs) (f := D.str) (g := fun t => PyData.str ⟨t.toArray⟩) (B := 1001) (d := 0) fun t ht => shows_str (by have := (hg t ht).1; omega) (hg t ht).2
  exact ⟨_, this.mono (by rw [hb]; omega) (by omega)⟩
theorem shows_cut {m l : Nat} {c : Cut} (h : CutOk m l c) (hm : m ≤ 5) (hl : l ≤ 12) : Shows 3006 1 (cutD c) (cutP c) := by
  obtain ⟨c1, c2, c3⟩ := h
  have := shows_tup (xs := [c.1, c.2.1, c.2.2]) (f := fun (k : Nat) => D.int (k : Nat)) (g := fun (k : Nat) => PyData.int (k : Nat)) (B := 1001) (d := 0) fun x hx => by
    rcases List.mem_cons.mp hx with z | hx
    · rw [z]; exact shows_int (by omega)
    rcases List.mem_cons.mp hx with z | hx
    · rw [z]; exact shows_int (by omega)
    · rw [List.mem_singleton.mp hx]; exact shows_int (by omega)
  exact this
theorem shows_row {m l : Nat} {r : List Cut} (hg : ∀ c ∈ r, CutOk m l c) (hm : m ≤ 5) (hl : l ≤ 12) (hr : r.length ≤ 60) : ∃ p, Shows 200000 9 (rowD r) p := by
  have := shows_tup (xs := r) (f := LW.cutD) (g := cutP) (B := 3006) (d := 1) fun c hc => shows_cut (hg c hc) hm hl
  exact ⟨_, this.mono (by omega) (by omega)⟩
theorem shows_lines {m l : Nat} {e : List (List Nat)} (he : e.length = l) (hm : m ≤ 5) (hl : l ≤ 12) (hg : ∀ ln ∈ e, ln.length = m ∧ ∀ k ∈ ln, k < 1000) : ∃ p, Shows 200000 9 (effD e) p := by
  have one : ∀ ln ∈ e, Shows 5010 1 (.tup (lnD ln)) (.tuple (ln.map fun (k : Nat) => PyData.int (k : Nat))) := fun ln hln => by
    obtain ⟨h1, h2⟩ := hg ln hln
    have := shows_tup (xs := ln) (f := fun (k : Nat) => D.int (k : Nat)) (g := fun (k : Nat) => PyData.int (k : Nat)) (B := 1001) (d := 0) fun k hk => shows_int (h2 k hk)
    exact this.mono (by rw [h1]; omega) (by omega)
  have := shows_tup (xs := e) (f := fun ln => D.tup (lnD ln)) (g := fun ln => PyData.tuple (ln.map fun (k : Nat) => PyData.int (k : Nat))) (B := 5010) (d := 1) one
  exact ⟨_, this.mono (by rw [he]; omega) (by omega)⟩
theorem shows_four {a b c e : D} {p q r s : PyData} (h1 : Shows 200000 9 a p) (h2 : Shows 200000 9 b q) (h3 : Shows 200000 9 c r) (h4 : Shows 200000 9 e s) : Shows 900000 10 (.tup [a, b, c, e]) (.tuple [p, q, r, s]) ∧ Shows 900000 10 (.fz [a, b, c, e]) (.list [p, q, r, s]) := by
  have hl : lows 0 [a, b, c, e] = true := by simp [lows, h1.low, h2.low, h3.low, h4.low]
  have hp : pys [a, b, c, e] = some [p, q, r, s] := by simp [pys, h1.py, h2.py, h3.py, h4.py]
  have hs : ∀ x ∈ [p, q, r, s], Small 200000 9 x := fun x hx => by
    rcases List.mem_cons.mp hx with z | hx
    · rw [z]; exact h1.sm
    rcases List.mem_cons.mp hx with z | hx
    · rw [z]; exact h2.sm
    rcases List.mem_cons.mp hx with z | hx
    · rw [z]; exact h3.sm
    · rw [List.mem_singleton.mp hx]; exact h4.sm
  exact ⟨⟨hl, by rw [D.py, hp]; rfl, (small_tup hs).mono (by simp) (by omega)⟩, ⟨hl, by rw [D.py, hp]; rfl, (small_lst hs).mono (by simp) (by omega)⟩⟩
end LW

namespace DL
open PySem LW
/-! ### to run what is written, by simp -/
section
variable {n : Nat} {σ : Sl} {M : Hep} {d : D}
@[simp] theorem r_seq {a b : SemS} : sSeq a b n σ M = (a n σ M).bind fun p M1 => match p.1 with | .nx => b n p.2 M1 | _ => .ok p M1 := rfl
@[simp] theorem r_nil : sNil n σ M = .ok (.nx, σ) M := rfl
@[simp] theorem r_asg {a : SemE} {g : SemG} : sAsg a g n σ M = (a n σ M).bind fun d M1 => (g n d σ M1).bind fun σ2 M2 => .ok (.nx, σ2) M2 := rfl
@[simp] theorem r_drop {a : SemE} : sDrop a n σ M = (a n σ M).bind fun _ M1 => .ok (.nx, σ) M1 := rfl
@[simp] theorem r_ret {a : SemE} : sRet a n σ M = (a n σ M).bind fun d M1 => .ok (.rt d, σ) M1 := rfl
@[simp] theorem r_retN : sRetN n σ M = .ok (.rt .non, σ) M := rfl
@[simp] theorem r_pass : sPass n σ M = .ok (.nx, σ) M := rfl
@[simp] theorem r_break : sBreak n σ M = .ok (.bk, σ) M := rfl
@[simp] theorem r_cont : sCont n σ M = .ok (.ct, σ) M := rfl
@[simp] theorem r_if {c : SemT} {a b : SemS} : sIf c a b n σ M = (c n σ M).bind fun x M1 => if x then a n σ M1 else b n σ M1 := rfl
@[simp] theorem r_raise {c : Str} : sRaise c n σ M = .err c M := rfl
@[simp] theorem r_aug {i : Nat} {f : Int → Int → Int} {a : SemE} {x : Int} (h : σ[i]? = some (some (.int x))) : sAug i f a n σ M = (a n σ M).bind fun y M1 => match y with | .int z => .ok (.nx, σ.set i (some (.int (f x z)))) M1 | _ => .stuck := by unfold sAug; simp only [h] <;> rfl
@[simp] theorem r_par {i j : Nat} {r : SemL} : sPar i j r n σ M = (r n σ M).bind fun ds M1 => match ds with | [a, b] => if i < σ.length ∧ j < σ.length then .ok (.nx, (σ.set i (some a)).set j (some b)) M1 else .stuck | _ => .stuck := rfl
@[simp] theorem r_par3 {i j l : Nat} {r : SemL} : sPar3 i j l r n σ M = (r n σ M).bind fun ds M1 => match ds with | [a, b, c] => if i < σ.length ∧ j < σ.length ∧ l < σ.length then .ok (.nx, ((σ.set i (some a)).set j (some b)).set l (some c)) M1 else .stuck | _ => .stuck := rfl
@[simp] theorem r_c : eC d n σ M = .ok d M := rfl
@[simp] theorem r_var {i : Nat} : eVar i n σ M = match σ[i]? with | some (some d) => .ok d M | _ => .stuck := rfl
@[simp] theorem r_bin {op : Op2} {a b : SemE} : eBin op a b n σ M = (a n σ M).bind fun x M1 => (b n σ M1).bind fun y M2 => op x y M2 := rfl
@[simp] theorem r_un {op : Op1} {a : SemE} : eUn op a n σ M = (a n σ M).bind fun x M1 => op x M1 := rfl
@[simp] theorem r_lnil : lNil n σ M = .ok [] M := rfl
@[simp] theorem r_lcons {a : SemE} {r : SemL} : lCons a r n σ M = (a n σ M).bind fun x M1 => (r n σ M1).bind fun xs M2 => .ok (x :: xs) M2 := rfl
@[simp] theorem r_app {op : OpL} {r : SemL} : eApp op r n σ M = (r n σ M).bind fun xs M1 => op xs M1 := rfl
@[simp] theorem r_and {a b : SemE} : eAnd a b n σ M = (a n σ M).bind fun x M1 => match x with | .bl true => b n σ M1 | .bl false => .ok (.bl false) M1 | _ => .stuck := rfl
@[simp] theorem r_or {a b : SemE} : eOr a b n σ M = (a n σ M).bind fun x M1 => match x with | .bl true => .ok (.bl true) M1 | .bl false => b n σ M1 | _ => .stuck := rfl
@[simp] theorem r_not {a : SemE} : eNot a n σ M = (a n σ M).bind fun x M1 => match x with | .bl c => .ok (.bl (!c)) M1 | _ => .stuck := rfl
@[simp] theorem r_eif {c : SemT} {a b : SemE} : eIf c a b n σ M = (c n σ M).bind fun x M1 => if x then a n σ M1 else b n σ M1 := rfl
@[simp] theorem r_tof {a : SemE} : tOf a n σ M = (a n σ M).bind fun x M1 => match x with | .bl c => .ok c M1 | _ => .stuck := rfl
@[simp] theorem r_ttr {a : SemE} : tTr a n σ M = (a n σ M).bind fun x M1 => .of (truD x M1) M1 := rfl
@[simp] theorem tru_bl {c : Bool} : truD (.bl c) M = some c := rfl
@[simp] theorem tru_tup {ds : List D} : truD (.tup ds) M = some (!ds.isEmpty) := rfl
@[simp] theorem tru_fz {ds : List D} : truD (.fz ds) M = some (!ds.isEmpty) := rfl
theorem tru_ref {m : Nat} {ds : List D} (h : M[m]? = some (.lst ds)) : truD (.ref m) M = some (!ds.isEmpty) := by simp [truD, lst?, h]
@[simp] theorem r_tand {a b : SemT} : tAnd a b n σ M = (a n σ M).bind fun x M1 => if x then b n σ M1 else .ok false M1 := rfl
@[simp] theorem r_tor {a b : SemT} : tOr a b n σ M = (a n σ M).bind fun x M1 => if x then .ok true M1 else b n σ M1 := rfl
@[simp] theorem r_tnot {a : SemT} : tNot a n σ M = (a n σ M).bind fun x M1 => .ok (!x) M1 := rfl
@[simp] theorem r_chain {o o' : DL.Ord} {a b c : SemE} : eChain o o' a b c n σ M = (a n σ M).bind fun x M1 => (b n σ M1).bind fun y M2 => (o.op x y M2).bind fun r M3 => match r with | .bl true => (c n σ M3).bind fun z M4 => o'.op y z M4 | .bl false => .ok (.bl false) M3 | _ => .stuck := rfl
@[simp] theorem r_onone : oNone n σ M = .ok none M := rfl
@[simp] theorem r_osome {a : SemE} : oSome a n σ M = (a n σ M).bind fun x M1 => match x with | .int i => .ok (some i) M1 | _ => .stuck := rfl
@[simp] theorem r_sl {op : OpS} {a : SemE} {l h : SemO} : eSl op a l h n σ M = (a n σ M).bind fun x M1 => (l n σ M1).bind fun lo M2 => (h n σ M2).bind fun hi M3 => op x lo hi M3 := rfl
@[simp] theorem r_mt {ok : D → Hep → Bool} {op : OpM} {o : SemE} {l : SemL} : eMt ok op o l n σ M = (o n σ M).bind fun x M1 => if ok x M1 then (l n σ M1).bind fun xs M2 => op n x xs M2 else .stuck := rfl
@[simp] theorem r_gvar {i : Nat} : DL.gVar i n d σ M = if i < σ.length then .ok (σ.set i (some d)) M else .stuck := rfl
@[simp] theorem r_glen {k : Nat} {g : SemGs} {ds : List D} : gLen k g n (.tup ds) σ M = if ds.length = k then g n ds σ M else .stuck := rfl
@[simp] theorem r_gnil : DL.gNil n [] σ M = .ok σ M := rfl
@[simp] theorem r_gcons {g : SemG} {r : SemGs} {ds : List D} : DL.gCons g r n (d :: ds) σ M = (g n d σ M).bind fun σ1 M1 => r n ds σ1 M1 := rfl
@[simp] theorem r_olt : DL.Ord.lt.op = opLtI := rfl
@[simp] theorem r_ole : DL.Ord.le.op = opLe := rfl
@[simp] theorem r_ogt : DL.Ord.gt.op = opGt := rfl
@[simp] theorem r_oge : DL.Ord.ge.op = opGe := rfl
@[simp] theorem r_mktup {ds : List D} (h : ds.length ≤ sizeLine) : mkTup ds M = .ok (.tup ds) M := if_pos h
@[simp] theorem r_mkfz {ds : List D} (h : ds.length ≤ sizeLine) : mkLst false ds M = .ok (.fz ds) M := if_pos h
@[simp] theorem r_mkref {ds : List D} (h : ds.length ≤ sizeLine) : mkLst true ds M = .ok (.ref M.length) (M ++ [.lst ds]) := if_pos h
theorem small_line {k : Nat} (h : k ≤ 1000000) : k ≤ sizeLine := by unfold sizeLine; omega
@[simp] theorem told_ret {σ : Sl} : told (.ok (.rt d, σ) M) = .ok d M := rfl
@[simp] theorem told_nx {σ : Sl} : told (.ok (.nx, σ) M) = .ok .non M := rfl
@[simp] theorem told_err {c : Str} : told (.err c M) = .err c M := rfl
end
/-- a def, run -/
theorem run_eq {gc : Bool} {N np : Nat} {b : SemS} {ds : List D} {M : Hep} {r : Res D} (hl : ds.length = np) (h : finish gc M.length (told (b M.length (ds.map some ++ List.replicate (N - np) none) M)) = r) : runF gc N np b ds M = r := by
  unfold runF; rw [if_pos hl]; exact h
@[simp] theorem fin_low {d : D} {M M' : Hep} (h : d.low 0 = true) : DL.finish true M.length (.ok d M') = .ok d (M'.take M.length) := by
  unfold DL.finish
  simp only [if_true, low_frz h]
@[simp] theorem fin_err {c : Str} {M M' : Hep} : DL.finish true M.length (.err c M') = .err c (M'.take M.length) := rfl
end DL

namespace DL
open PySem LW L2
section
variable {M : Hep}
@[simp] theorem line_iff {k : Nat} (h : k ≤ 1000000) : (k ≤ sizeLine) = True := eq_true (small_line h)
theorem ixN_nn {n : Nat} {i : Int} (h : 0 ≤ i) : ixN n i = if i.toNat < n then some i.toNat else none := by
  unfold ixN
  rw [if_pos h]
  by_cases z : i < n
  · rw [if_pos z, if_pos (by omega)]
  · rw [if_neg z, if_neg (by omega)]
theorem atD_nn {α : Type} {xs : List α} {i : Int} (h : 0 ≤ i) : atD xs i = xs[i.toNat]? := by
  unfold atD
  rw [ixN_nn h]
  by_cases z : i.toNat < xs.length
  · rw [if_pos z]; rfl
  · rw [if_neg z, List.getElem?_eq_none (by omega)]; rfl
theorem opt_get {o : Option D} : (o.map fun d => Res.ok d M).getD .stuck = Res.of o M := by cases o <;> rfl
@[simp] theorem x_tup {ds : List D} {i : Int} (h : 0 ≤ i) : opIx (.tup ds) (.int i) M = Res.of ds[i.toNat]? M := by
  show (((pIxL.or (pIxT.or (pIxS.or pIxD))) (.tup ds) (.int i) M).getD .stuck) = _
  have : (pIxL.or (pIxT.or (pIxS.or pIxD))) (.tup ds) (.int i) M = (atD ds i).map fun d => .ok d M := by
    unfold P2.or pIxL pIxT
    simp only [lst?]
    cases (atD ds i) <;> simp [P2.or, pIxS, pIxD, dct?]
  rw [this, atD_nn h, opt_get]
@[simp] theorem x_fz {ds : List D} {i : Int} (h : 0 ≤ i) : opIx (.fz ds) (.int i) M = Res.of ds[i.toNat]? M := by
  show (((pIxL.or (pIxT.or (pIxS.or pIxD))) (.fz ds) (.int i) M).getD .stuck) = _
  have : (pIxL.or (pIxT.or (pIxS.or pIxD))) (.fz ds) (.int i) M = (atD ds i).map fun d => .ok d M := by
    unfold P2.or pIxL
    simp only [lst?]
    cases (atD ds i) <;> simp [P2.or, pIxS, pIxT, pIxD, dct?]
  rw [this, atD_nn h, opt_get]
@[simp] theorem x_ro {ds : List D} {i : Int} (h : 0 ≤ i) : opIx (.ro ds) (.int i) M = Res.of ds[i.toNat]? M := by
  show (((pIxL.or (pIxT.or (pIxS.or pIxD))) (.ro ds) (.int i) M).getD .stuck) = _
  have : (pIxL.or (pIxT.or (pIxS.or pIxD))) (.ro ds) (.int i) M = (atD ds i).map fun d => .ok d M := by
    unfold P2.or pIxL
    simp only [lst?]
    cases (atD ds i) <;> simp [P2.or, pIxS, pIxT, pIxD, dct?]
  rw [this, atD_nn h, opt_get]
theorem x_ref {m : Nat} {ds : List D} {i : Int} (hm : M[m]? = some (.lst ds)) (h : 0 ≤ i) : opIx (.ref m) (.int i) M = Res.of ds[i.toNat]? M := by
  show (((pIxL.or (pIxT.or (pIxS.or pIxD))) (.ref m) (.int i) M).getD .stuck) = _
  have : (pIxL.or (pIxT.or (pIxS.or pIxD))) (.ref m) (.int i) M = (atD ds i).map fun d => .ok d M := by
    unfold P2.or pIxL
    simp only [lst?, hm]
    cases (atD ds i) <;> simp [P2.or, pIxS, pIxT, pIxD, dct?, hm]
  rw [this, atD_nn h, opt_get]
@[simp] theorem x_str {cs : List Nat} {i : Int} (h : 0 ≤ i) (hz : cs.length ≤ 1000000) : opIx (.str cs) (.int i) M = Res.of (cs[i.toNat]?.map fun c => .str [c]) M := by
  show (((pIxL.or (pIxT.or (pIxS.or pIxD))) (.str cs) (.int i) M).getD .stuck) = _
  have : (pIxL.or (pIxT.or (pIxS.or pIxD))) (.str cs) (.int i) M = (atD cs i).map fun c => .ok (.str [c]) M := by
    unfold P2.or pIxL
    simp only [lst?]
    simp [P2.or, pIxS, pIxT, strFits, small_line hz]
    cases atD cs i <;> simp [pIxD, dct?]
  rw [this, atD_nn h]
  cases cs[i.toNat]? <;> rfl
theorem sIx_nn {n d : Nat} {i : Int} (h : 0 ≤ i) : HT.sIx n d (some i) = min i.toNat n := by
  obtain ⟨k, rfl⟩ := Int.eq_ofNat_of_zero_le h
  rw [HT.sIx_nat]; rfl
theorem take_min {α : Type} (xs : List α) (k : Nat) : xs.take (min k xs.length) = xs.take k := by
  by_cases h : k ≤ xs.length
  · rw [Nat.min_eq_left h]
  · rw [Nat.min_eq_right (by omega), List.take_of_length_le (Nat.le_refl _), List.take_of_length_le (by omega)]
theorem drop_min {α : Type} (xs : List α) (k : Nat) : xs.drop (min k xs.length) = xs.drop k := by
  by_cases h : k ≤ xs.length
  · rw [Nat.min_eq_left h]
  · rw [Nat.min_eq_right (by omega), List.drop_of_length_le (Nat.le_refl _), List.drop_of_length_le (by omega)]
@[simp] theorem cut_none {α : Type} (xs : List α) : DL.cutD xs none none = xs := by
  unfold DL.cutD; rw [HT.sIx_none, HT.sIx_none]; simp
@[simp] theorem cut_to {α : Type} (xs : List α) {i : Int} (h : 0 ≤ i) : DL.cutD xs none (some i) = xs.take i.toNat := by
  unfold DL.cutD; rw [HT.sIx_none, sIx_nn h, List.drop_zero, Nat.sub_zero, take_min]
@[simp] theorem cut_from {α : Type} (xs : List α) {i : Int} (h : 0 ≤ i) : DL.cutD xs (some i) none = xs.drop i.toNat := by
  unfold DL.cutD; rw [HT.sIx_none, sIx_nn h, drop_min, List.take_of_length_le (by rw [List.length_drop]; omega)]
@[simp] theorem cut_of {α : Type} (xs : List α) {i j : Int} (h : 0 ≤ i) (h' : 0 ≤ j) : DL.cutD xs (some i) (some j) = (xs.take j.toNat).drop i.toNat := by
  unfold DL.cutD; rw [sIx_nn h, sIx_nn h', drop_min, List.drop_take]
  by_cases z : i.toNat ≤ xs.length
  · rw [Nat.min_eq_left z]
    by_cases y : j.toNat ≤ xs.length
    · rw [Nat.min_eq_left y]
    · rw [Nat.min_eq_right (by omega), List.take_of_length_le (by rw [List.length_drop]; omega), List.take_of_length_le (by rw [List.length_drop]; omega)]
  · rw [List.drop_of_length_le (by omega)]; simp
@[simp] theorem s_tup {m : Bool} {ds : List D} {a b : Option Int} : opSl m (.tup ds) a b M = .ok (.tup (DL.cutD ds a b)) M := rfl
@[simp] theorem s_fz {m : Bool} {ds : List D} {a b : Option Int} : opSl m (.fz ds) a b M = mkLst m (DL.cutD ds a b) M := rfl
@[simp] theorem s_str {m : Bool} {cs : List Nat} {a b : Option Int} (h : cs.length ≤ 1000000) : opSl m (.str cs) a b M = .ok (.str (DL.cutD cs a b)) M := by
  show (if strFits cs.length then _ else _) = _
  rw [if_pos (by simp [strFits, small_line h])]
@[simp] theorem a_tup {m : Bool} {a b : List D} (h : a.length + b.length ≤ 1000000) : opAdd m (.tup a) (.tup b) M = .ok (.tup (a ++ b)) M := by
  simp [opAdd, P2.op, P2.or, pI, pAddS, pAddT, strFits, small_line h]
@[simp] theorem a_fz {a b : List D} (h : a.length + b.length ≤ 1000000) : opAdd false (.fz a) (.fz b) M = .ok (.fz (a ++ b)) M := by
  simp [opAdd, P2.op, P2.or, pI, pAddS, pAddT, pAddL, lstM?, mkLst, small_line h]
@[simp] theorem a_str {m : Bool} {a b : List Nat} (h : a.length + b.length ≤ 1000000) : opAdd m (.str a) (.str b) M = .ok (.str (a ++ b)) M := add_str m (small_line h)
@[simp] theorem l_str {cs : List Nat} (h : cs.length ≤ 1000000) : pLen.op [.str cs] M = .ok (.int cs.length) M := len_str (small_line h)
theorem l_ref {m : Nat} {ds : List D} (h : M[m]? = some (.lst ds)) : pLen.op [.ref m] M = .ok (.int ds.length) M := len_ref h
@[simp] theorem rev_tup {m : Bool} {ds : List D} : opRev m (.tup ds) M = .ok (.tup ds.reverse) M := rfl
@[simp] theorem n_int {i : Int} : opNeg (.int i) M = .ok (.int (-i)) M := rfl
/-- sorted, of ints -/
@[simp] theorem sort_fz {m : Bool} {ks : List Int} : (pSortedA m).op [.fz (ks.map .int)] M = mkLst m ((sortI ks).map .int) M := by
  have := ints_map (fun i : Int => i) ks
  rw [List.map_id'] at this
  simp [PL.op, pSortedA, pSorted, lst?, this]
@[simp] theorem sort_tup {m : Bool} {ks : List Int} : (pSortedA m).op [.tup (ks.map .int)] M = mkLst m ((sortI ks).map .int) M := by
  have := ints_map (fun i : Int => i) ks
  rw [List.map_id'] at this
  simp [PL.op, pSortedA, this]
end
end DL

namespace DL
open PySem LW L2
section
variable {M : Hep} {n : Nat} {σ : Sl}
/-! lists that change -/
@[simp] theorem r_setOb {m : Nat} {ds : List D} {r : D} (h : n ≤ m) : setOb n m ds r M = .ok r (M.set m (.lst ds)) := by
  unfold setOb; rw [decide_eq_true h]; rfl
theorem r_setOb0 {m : Nat} {ds : List D} {r : D} (h : lows 0 ds = true) : setOb n m ds r M = .ok r (M.set m (.lst ds)) := by
  unfold setOb; rw [h, Bool.or_true]; rfl
@[simp] theorem line_lt {k : Nat} (h : k < 1000000) : (k < sizeLine) = True := eq_true (by unfold sizeLine; omega)
@[simp] theorem r_mapp {m : Nat} {d : D} : mApp n (.ref m) [d] M = match M[m]? with | some (.lst es) => if es.length < sizeLine then setOb n m (es ++ [d]) .non M else .stuck | _ => .stuck := rfl
@[simp] theorem r_mext {m : Nat} {d : D} : mExt n (.ref m) [d] M = match M[m]?, lstM? d M with | some (.lst es), some fs => if strFits (es.length + fs.length) then setOb n m (es ++ fs) .non M else .stuck | _, _ => .stuck := rfl
@[simp] theorem r_fits {k : Nat} (h : k ≤ 1000000) : strFits k = true := by simp [strFits, small_line h]
@[simp] theorem r_lfz {ds : List D} : lst? (.fz ds) M = some ds := rfl
@[simp] theorem r_lro {ds : List D} : lst? (.ro ds) M = some ds := rfl
@[simp] theorem r_lmfz {ds : List D} : lstM? (.fz ds) M = some ds := rfl
@[simp] theorem r_lref {m : Nat} : lst? (.ref m) M = match M[m]? with | some (.lst ds) => some ds | _ => none := rfl
@[simp] theorem r_lmref {m : Nat} : lstM? (.ref m) M = match M[m]? with | some (.lst ds) => some ds | _ => none := rfl
@[simp] theorem r_isl {d : D} : isLst d M = (lst? d M).isSome := rfl
@[simp] theorem r_iss {cs : List Nat} : isStr (.str cs) M = true := rfl
@[simp] theorem r_gsub {fo fi : SemE} {d : D} : DL.gSub fo fi n d σ M = (fo n σ M).bind fun x M1 => (fi n σ M1).bind fun i M2 => match x with
  | .ref m => match M2[m]? with
    | some (.lst es) => match i with
      | .int k => match ixN es.length k with
        | some j => (setOb n m (es.set j d) .non M2).bind fun _ M3 => .ok σ M3
        | none => .stuck
      | _ => .stuck
    | some (.dct ks vs) => if keyD i && decide (ks.length < sizeLine) then (setDc n m (putD ks vs i d) M2).bind fun _ M3 => .ok σ M3 else .stuck
    | none => .stuck
  | _ => .stuck := rfl
theorem ixN_lt {k : Nat} {i : Int} (h : 0 ≤ i) (h' : i.toNat < k) : ixN k i = some i.toNat := by rw [ixN_nn h, if_pos h']
@[simp] theorem h_two0 {a b : Ob} : (M ++ [a, b])[M.length]? = some a := by simp
@[simp] theorem h_two1 {a b : Ob} : (M ++ [a, b])[M.length + 1]? = some b := by simp
@[simp] theorem h_set {a b : Ob} : (M ++ [a]).set M.length b = M ++ [b] := by simp
@[simp] theorem h_set0 {a b c : Ob} : (M ++ [a, b]).set M.length c = M ++ [c, b] := by simp
@[simp] theorem h_set1 {a b c : Ob} : (M ++ [a, b]).set (M.length + 1) c = M ++ [a, c] := by
  rw [List.set_append_right _ _ (by omega), Nat.add_sub_cancel_left]; rfl
/-! what is walked -/
@[simp] theorem r_iseq {a : SemE} : iSeq a n σ M = (a n σ M).bind fun d M1 => .of (itmOf d M1) M1 := rfl
@[simp] theorem i_fz {ds : List D} : itmOf (.fz ds) M = some ⟨ds, none⟩ := rfl
@[simp] theorem i_ro {ds : List D} : itmOf (.ro ds) M = some ⟨ds, none⟩ := rfl
@[simp] theorem i_tup {ds : List D} : itmOf (.tup ds) M = some ⟨ds, none⟩ := rfl
@[simp] theorem i_str {cs : List Nat} : itmOf (.str cs) M = some ⟨charsOf cs, none⟩ := rfl
/-- numbers -/
def natsD (n : Nat) : List D := (List.range n).map fun (i : Nat) => .int (i : Nat)
@[simp] theorem r_rng1 {f : SemL} : iRng f n σ M = (f n σ M).bind fun ds M1 => .of (rngOf ds) M1 := rfl
theorem rng_i {i : Int} (h : i ≤ 100000) : rngOf [.int i] = some ⟨natsD i.toNat, none⟩ ∨ i < -(2 ^ 62) := by
  by_cases z : -(2 ^ 62) ≤ i
  · left
    have : inRg i = true := by unfold inRg; simp only [Bool.and_eq_true, decide_eq_true_eq]; constructor <;> omega
    unfold rngOf
    simp only [this, if_true]
    congr 2
    unfold intsFrom natsD
    exact List.map_congr_left fun k _ => by rw [Int.zero_add]
  · right; omega
@[simp] theorem rng_n {i : Int} (h0 : -1000 ≤ i) (h : i ≤ 100000) : rngOf [.int i] = some ⟨natsD i.toNat, none⟩ := by
  rcases rng_i h with z | z
  · exact z
  · omega
@[simp] theorem rng_ij {i j : Int} (h0 : -1000 ≤ i) (h : i ≤ 100000) (h0' : -1000 ≤ j) (h' : j ≤ 100000) : rngOf [.int i, .int j] = some ⟨intsFrom i (j - i).toNat, none⟩ := by
  have a : inRg i = true := by unfold inRg; simp only [Bool.and_eq_true, decide_eq_true_eq]; constructor <;> omega
  have b : inRg j = true := by unfold inRg; simp only [Bool.and_eq_true, decide_eq_true_eq]; constructor <;> omega
  unfold rngOf
  simp only [a, b, Bool.and_self, if_true]
@[simp] theorem lrg_n {m : Bool} {i : Int} (h0 : -1000 ≤ i) (h : i ≤ 100000) : lstRg m [.int i] M = mkLst m (natsD i.toNat) M := by
  have : rgOkB 0 i = true := by
    unfold rgOkB
    simp only [Bool.and_eq_true, decide_eq_true_eq]
    refine ⟨⟨⟨⟨by omega, by omega⟩, by omega⟩, by omega⟩, by omega⟩
  unfold lstRg
  simp only [this, if_true]
  congr 1
  unfold rgD natsD
  rw [Int.sub_zero]
  exact List.map_congr_left fun k _ => by rw [Int.zero_add]
@[simp] theorem nats_len (k : Nat) : (natsD k).length = k := by simp [natsD]
@[simp] theorem nats_low (k : Nat) : lows 0 (natsD k) = true := LW.lows_map (fun _ => rfl) _
/-! loops -/
@[simp] theorem r_for {fi : SemI} {g : SemG} {b : SemS} : sFor fi g b n σ M = (fi n σ M).bind fun it M1 => forL g b it M1.length n it.ds σ M1 := rfl
@[simp] theorem r_while {c : SemT} {b : SemS} : sWhile c b n σ M = whileL c b M.length n wFuel σ M := rfl
/-- one turn -/
def turnF (g : SemG) (b : SemS) (n1 n0 : Nat) (d : D) (σ : Sl) (M : Hep) : Res Sl := (g n0 d σ M).bind fun σ1 M1 => (b n0 σ1 M1).bind fun p M2 => match p.1 with
  | .rt _ => .stuck
  | .bk => .stuck
  | _ => match settle n0 n1 p.2 M2 with
    | some (σ3, M3) => .ok σ3 M3
    | none => .stuck
@[simp] theorem settle_in {n0 n1 : Nat} (h : M.length ≤ n1) : settle n0 n1 σ M = some (σ, M) := settle_le h
theorem forL_turn {g : SemG} {b : SemS} {it : Itm} {n1 n0 : Nat} {d : D} {ds : List D} {σ σ3 : Sl} {M3 : Hep} (hc : it.chk M = true) (h : turnF g b n1 n0 d σ M = .ok σ3 M3) : forL g b it n1 n0 (d :: ds) σ M = forL g b it n1 n0 ds σ3 M3 := by
  unfold turnF at h
  rw [forL, if_pos hc]
  cases hg : g n0 d σ M with
  | stuck => rw [hg] at h; cases h
  | err c M1 => rw [hg] at h; cases h
  | ok σ1 M1 =>
    rw [hg] at h
    simp only [Res.bind_ok] at h ⊢
    cases hb : b n0 σ1 M1 with
    | stuck => rw [hb] at h; cases h
    | err c M1 => rw [hb] at h; cases h
    | ok p M2 =>
      rw [hb] at h
      simp only [Res.bind_ok] at h ⊢
      obtain ⟨f, σ2⟩ := p
      cases f with
      | nx =>
        simp only at h ⊢
        cases hs : settle n0 n1 σ2 M2 with
        | none => rw [hs] at h; cases h
        | some r =>
          rw [hs] at h; obtain ⟨a, c⟩ := r; cases h; rfl
      | ct =>
        simp only at h ⊢
        cases hs : settle n0 n1 σ2 M2 with
        | none => rw [hs] at h; cases h
        | some r =>
          rw [hs] at h; obtain ⟨a, c⟩ := r; cases h; rfl
      | bk => cases h
      | rt d => cases h
theorem chk_none (all : List D) (M : Hep) : (Itm.mk all none).chk M = true := rfl
theorem lows_mem {α : Type} {f : α → D} : ∀ {xs : List α}, (∀ x ∈ xs, (f x).low 0 = true) → lows 0 (xs.map f) = true
  | [], _ => rfl
  | x :: xs, h => by simp [lows, h x List.mem_cons_self, lows_mem fun y hy => h y (List.mem_cons_of_mem _ hy)]
/-- a loop by what stands at each turn -/
theorem for_inv {g : SemG} {b : SemS} {n1 n0 : Nat} (Inv : Nat → Sl → Hep → Prop) : ∀ (ds all : List D) (k : Nat) (σ : Sl) (M : Hep), Inv k σ M →
    (∀ i d σ M, ds[i]? = some d → Inv (k + i) σ M → ∃ σ3 M3, turnF g b n1 n0 d σ M = .ok σ3 M3 ∧ Inv (k + i + 1) σ3 M3) →
    ∃ σ' M', forL g b ⟨all, none⟩ n1 n0 ds σ M = .ok (.nx, σ') M' ∧ Inv (k + ds.length) σ' M'
  | [], all, k, σ, M, h0, hs => ⟨σ, M, by rw [forL, if_pos (chk_none _ _)], h0⟩
  | d :: ds, all, k, σ, M, h0, hs => by
    obtain ⟨σ3, M3, e, i3⟩ := hs 0 d σ M rfl h0
    obtain ⟨σ', M', e', i'⟩ := for_inv Inv ds all (k + 1) σ3 M3 i3 fun i d σ M h iv => by
      have := hs (i + 1) d σ M (by simpa using h) (by rw [show k + (i + 1) = k + 1 + i by omega]; exact iv)
      rw [show k + (i + 1) = k + 1 + i by omega] at this
      exact this
    exact ⟨σ', M', by rw [forL_turn rfl e]; exact e', by rw [List.length_cons, show k + (ds.length + 1) = k + 1 + ds.length by omega]; exact i'⟩
/-- .. over items of one kind: what stands is a fold -/
theorem for_fold {g : SemG} {b : SemS} {n1 n0 : Nat} {α β : Type} {en : α → D} (st : β → α → β) (S : β → Option D → Sl) (H : β → Hep) (P : β → Prop) : ∀ (xs : List α) (all : List D) (x : β) (w : Option D), P x →
    (∀ x w a, a ∈ xs → P x → P (st x a) ∧ ∃ w', turnF g b n1 n0 (en a) (S x w) (H x) = .ok (S (st x a) w') (H (st x a))) →
    ∃ w', forL g b ⟨all, none⟩ n1 n0 (xs.map en) (S x w) (H x) = .ok (.nx, S (xs.foldl st x) w') (H (xs.foldl st x)) ∧ P (xs.foldl st x)
  | [], all, x, w, h0, hs => ⟨w, by rw [List.map_nil, forL, if_pos (chk_none _ _)]; rfl, h0⟩
  | a :: xs, all, x, w, h0, hs => by
    obtain ⟨h1, w1, e1⟩ := hs x w a List.mem_cons_self h0
    obtain ⟨w', e', h'⟩ := for_fold st S H P xs all (st x a) w1 h1 fun x w b hb hx => hs x w b (List.mem_cons_of_mem _ hb) hx
    exact ⟨w', by rw [List.map_cons, forL_turn rfl e1]; exact e', h'⟩
theorem low_D {n : Nat} {d : D} (h : d.low 0 = true) : d.low n = true := LW.finish_low.low_mono' h
theorem lows_filter {α : Type} {p : α → Bool} {f : α → D} {xs : List α} (h : ∀ x ∈ xs, (f x).low 0 = true) : lows 0 ((xs.filter p).map f) = true := lows_mem fun x hx => h x (List.mem_filter.mp hx).1
/-- [f x for x in xs if p x] -/
theorem lc_map {vs : List Nat} {fi : SemI} {g : SemG} {tt : SemT} {te : SemE} {n0 : Nat} {σ : Sl} {M M1 : Hep} {α : Type} (xs : List α) (en f : α → D) (p : α → Bool) (hi : fi n0 σ M = .ok ⟨xs.map en, none⟩ M1) (hn : n0 ≤ M1.length) (hf : Flat M1) (hz : xs.length ≤ 1000000)
    (hlow : ∀ x ∈ xs, p x = true → (f x).low 0 = true)
    (hs : ∀ x acc, x ∈ xs → Flat (M1 ++ [.lst acc]) → ∃ σ1, g n0 (en x) (wipeD σ vs) (M1 ++ [.lst acc]) = .ok σ1 (M1 ++ [.lst acc]) ∧ tt n0 σ1 (M1 ++ [.lst acc]) = .ok (p x) (M1 ++ [.lst acc]) ∧ (p x = true → te n0 σ1 (M1 ++ [.lst acc]) = .ok (f x) (M1 ++ [.lst acc]))) :
    eLc false false vs fi g tt te n0 σ M = .ok (.fz ((xs.filter p).map f)) M1 := by
  have main : ∀ (ys : List α) (acc : List D), (∀ y ∈ ys, y ∈ xs) → lows 0 acc = true → acc.length + ys.length ≤ 1000000 → compL g tt te ⟨xs.map en, none⟩ false M1.length n0 (wipeD σ vs) (ys.map en) (M1 ++ [.lst acc]) = .ok () (M1 ++ [.lst (acc ++ (ys.filter p).map f)]) := by
    intro ys
    induction ys with
    | nil => intro acc _ _ _; simp [compL, Itm.chk]
    | cons y ys ih =>
      intro acc hy ha hl
      obtain ⟨σ1, e1, e2, e3⟩ := hs y acc (hy y List.mem_cons_self) (flat_app hf ha)
      rw [List.map_cons, compL, if_pos (chk_none _ _), e1]
      simp only [Res.safe_ok, Res.bind_ok, e2]
      have rest := fun acc ha hl => ih acc (fun z hz => hy z (List.mem_cons_of_mem _ hz)) ha hl
      cases hp : p y with
      | false =>
        rw [if_neg Bool.false_ne_true]
        simp only [Res.bind_ok, Bool.false_eq_true, if_false]
        rw [settle_le (by simp)]
        simp only
        rw [rest acc ha (by simp only [List.length_cons] at hl; omega), List.filter_cons, hp]
        rfl
      | true =>
        rw [if_pos rfl, e3 hp]
        have at1 : (M1 ++ [Ob.lst acc])[M1.length]? = some (.lst acc) := by simp
        have push : pushAt M1.length (f y) (M1 ++ [.lst acc]) = .ok () (M1 ++ [.lst (acc ++ [f y])]) := by
          unfold pushAt
          rw [at1]
          simp only
          simp only [List.length_cons] at hl
          rw [if_pos (by unfold PySem.sizeLine; omega)]
          simp
        simp only [Res.safe_ok, Res.bind_ok, push, Bool.false_eq_true, if_false]
        rw [settle_le (by simp)]
        simp only
        rw [rest (acc ++ [f y]) (LW.lows_app ha (by simp [lows, hlow y (hy y List.mem_cons_self) hp])) (by simp only [List.length_cons, List.length_append, List.length_nil] at hl ⊢; omega), List.filter_cons, hp]
        simp
  have lowA : lows 0 ((xs.filter p).map f) = true := lows_mem fun x hx => hlow x (List.mem_filter.mp hx).1 (List.mem_filter.mp hx).2
  unfold eLc
  rw [hi]
  simp only [Res.bind_ok]
  rw [main xs [] (fun _ h => h) rfl (by simpa using hz)]
  simp only [Res.bind_ok, List.nil_append, Bool.false_eq_true, if_false]
  have fr : frz M1.length (M1 ++ [.lst ((xs.filter p).map f)]) (.ref M1.length) = some (.fz ((xs.filter p).map f)) := by
    have : look M1.length (M1 ++ [.lst ((xs.filter p).map f)]) 8 M1.length = some (.fz ((xs.filter p).map f)) := by
      show (if M1.length < M1.length then some (D.ref M1.length) else match (M1 ++ [Ob.lst ((xs.filter p).map f)])[M1.length]? with | some (Ob.lst ds) => (frzDs (look M1.length (M1 ++ [Ob.lst ((xs.filter p).map f)]) 7) ds).map D.fz | _ => none) = _
      rw [if_neg (Nat.lt_irrefl _), List.getElem?_append_right (Nat.le_refl _), Nat.sub_self]
      simp [frzDs_low (look_low (n := M1.length)) _ (lows_mono (Nat.zero_le _) _ lowA)]
    unfold frz
    simp only [frzD, this]
  have st : settle n0 M1.length [] (M1 ++ [.lst ((xs.filter p).map f)]) = some ([], M1) := by
    have tk : (M1 ++ [Ob.lst ((xs.filter p).map f)]).take M1.length = M1 := by simp
    rw [settle_flat hn (by rw [tk]; exact hf) (by simp), tk]
    rfl
  rw [fr, st]
theorem filter_all {α : Type} (xs : List α) : xs.filter (fun _ => true) = xs := by simp
/-- [f x for x in xs] -/
theorem lc_all {vs : List Nat} {fi : SemI} {g : SemG} {te : SemE} {n0 : Nat} {σ : Sl} {M M1 : Hep} {α : Type} (xs : List α) (en f : α → D) (hi : fi n0 σ M = .ok ⟨xs.map en, none⟩ M1) (hn : n0 ≤ M1.length) (hf : Flat M1) (hz : xs.length ≤ 1000000)
    (hlow : ∀ x ∈ xs, (f x).low 0 = true)
    (hs : ∀ x acc, x ∈ xs → Flat (M1 ++ [.lst acc]) → ∃ σ1, g n0 (en x) (wipeD σ vs) (M1 ++ [.lst acc]) = .ok σ1 (M1 ++ [.lst acc]) ∧ te n0 σ1 (M1 ++ [.lst acc]) = .ok (f x) (M1 ++ [.lst acc])) :
    eLc false false vs fi g (fun _ _ M => .ok true M) te n0 σ M = .ok (.fz (xs.map f)) M1 := by
  have := lc_map (tt := fun _ _ M => .ok true M) xs en f (fun _ => true) hi hn hf hz (fun x hx _ => hlow x hx) fun x acc hx h => by
    obtain ⟨σ1, a, b⟩ := hs x acc hx h
    exact ⟨σ1, a, rfl, fun _ => b⟩
  rwa [filter_all] at this
@[simp] theorem fin_ref {M T : Hep} {ds : List D} (h : lows 0 ds = true) : DL.finish true M.length (.ok (.ref M.length) (M ++ (.lst ds :: T))) = .ok (.fz ds) M := by
  have fr : frz M.length (M ++ (.lst ds :: T)) (.ref M.length) = some (.fz ds) := by
    unfold frz
    simp only [frzD]
    unfold look
    simp [frzDs_low (look_low (n := M.length)) _ (lows_mono (Nat.zero_le _) _ h)]
  unfold DL.finish
  simp [fr]
@[simp] theorem fin_ref1 {M T : Hep} {o : Ob} {ds : List D} (h : lows 0 ds = true) : DL.finish true M.length (.ok (.ref (M.length + 1)) (M ++ (o :: .lst ds :: T))) = .ok (.fz ds) M := by
  have e : (M ++ (o :: .lst ds :: T))[M.length + 1]? = some (.lst ds) := by simp
  have fr : frz M.length (M ++ (o :: .lst ds :: T)) (.ref (M.length + 1)) = some (.fz ds) := by
    unfold frz
    simp only [frzD]
    unfold look
    simp [e, frzDs_low (look_low (n := M.length)) _ (lows_mono (Nat.zero_le _) _ h)]
  unfold DL.finish
  simp [fr]
@[simp] theorem r_low_tup {ds : List D} : (D.tup ds).low 0 = lows 0 ds := by simp only [D.low]
@[simp] theorem r_low_fz {ds : List D} : (D.fz ds).low 0 = lows 0 ds := by simp only [D.low]
@[simp] theorem r_low_int {i : Int} : (D.int i).low 0 = true := by simp only [D.low]
@[simp] theorem r_low_bl {i : Bool} : (D.bl i).low 0 = true := by simp only [D.low]
@[simp] theorem r_low_non : D.non.low 0 = true := by simp only [D.low]
@[simp] theorem r_low_str {i : List Nat} : (D.str i).low 0 = true := by simp only [D.low]
@[simp] theorem r_lows_nil : lows 0 [] = true := by simp only [lows]
@[simp] theorem r_lows_cons {d : D} {ds : List D} : lows 0 (d :: ds) = (d.low 0 && lows 0 ds) := by simp only [lows]
@[simp] theorem r_lows_app {a b : List D} : lows 0 (a ++ b) = (lows 0 a && lows 0 b) := by
  induction a with
  | nil => simp
  | cons x xs ih => simp [ih, Bool.and_assoc]
end
end DL

namespace PR
open DL LW
/-- the two ribbons of a cut by other names, the lesser ahead -/
def calledC (c : Cut) (f : Nat → Nat) : Cut := (c.1, min (f c.2.1) (f c.2.2), max (f c.2.1) (f c.2.2))
theorem sort2 (a b : Nat) : sortI [(a : Int), (b : Int)] = [((min a b : Nat) : Int), ((max a b : Nat) : Int)] := by
  simp only [sortI, insI]
  by_cases h : a ≤ b
  · rw [if_pos (by omega), Nat.min_eq_left h, Nat.max_eq_right h]
  · rw [if_neg (by omega), Nat.min_eq_right (by omega), Nat.max_eq_left (by omega)]
theorem called_ok {c : Cut} {names : List Nat} {M : Hep} (h1 : c.2.1 < names.length) (h2 : c.2.2 < names.length) : F__called [LW.cutD c, .fz (lnD names)] M = .ok (LW.cutD (calledC c fun k => names.getD k 0)) M := by
  refine run_eq rfl ?_
  have a1 : (lnD names)[c.2.1]? = some (.int ((names.getD c.2.1 0 : Nat) : Int)) := by rw [lnD, List.getElem?_map, get_D (x := 0) h1]; rfl
  have a2 : (lnD names)[c.2.2]? = some (.int ((names.getD c.2.2 0 : Nat) : Int)) := by rw [lnD, List.getElem?_map, get_D (x := 0) h2]; rfl
  have s := sort_fz (M := M) (m := false) (ks := [((names.getD c.2.1 0 : Nat) : Int), ((names.getD c.2.2 0 : Nat) : Int)])
  rw [sort2] at s
  simp only [List.map_cons, List.map_nil] at s
  simp [-List.getD_eq_getElem?_getD, B__called, LW.cutD, a1, a2, s, D.low, lows, calledC]
/-- a, b exchanged -/
def swapN (a b k : Nat) : Nat := if k = a then b else if k = b then a else k
theorem lnD_get {ln : List Nat} {k : Nat} (h : k < ln.length) : (lnD ln)[k]? = some (.int ((ln.getD k 0 : Nat) : Int)) := by rw [lnD, List.getElem?_map, get_D (x := 0) h]; rfl
theorem natsD_ln (k : Nat) : natsD k = lnD (List.range k) := rfl
theorem lnD_set {ln : List Nat} {k v : Nat} : (lnD ln).set k (.int (v : Int)) = lnD (ln.set k v) := by simp [lnD, List.map_set]
theorem swap_range {m a b : Nat} (ha : a < m) (hb : b < m) : ((List.range m).set a b).set b a = (List.range m).map (swapN a b) := by
  refine List.ext_getElem (by simp) fun k h1 h2 => ?_
  simp only [List.getElem_set, List.getElem_map, List.getElem_range, swapN]
  by_cases h : b = k
  · rw [if_pos h]
    by_cases h' : k = a
    · rw [if_pos h']; omega
    · rw [if_neg h', if_pos h.symm]
  · rw [if_neg h]
    by_cases h' : a = k
    · rw [if_pos h', if_pos h'.symm]
    · rw [if_neg h', if_neg (fun z => h' z.symm), if_neg (fun z => h z.symm)]
theorem range_getD {m k : Nat} (h : k < m) : (List.range m).getD k 0 = k := by simp [h]
@[simp] theorem lnD_len (ln : List Nat) : (lnD ln).length = ln.length := by simp [lnD]
@[simp] theorem low_lnD (ln : List Nat) : lows 0 (lnD ln) = true := low_ln ln
@[simp] theorem low_cutD (c : Cut) : (LW.cutD c).low 0 = true := rfl
@[simp] theorem low_rowD (r : List Cut) : (rowD r).low 0 = true := lows_map low_cut r
theorem names_by_ok {m : Nat} {c : Cut} {M : Hep} (hm : m ≤ 1000) (h1 : c.2.1 < m) (h2 : c.2.2 < m) : F__names_by [.int (m : Int), LW.cutD c] M = .ok (.fz (lnD ((List.range m).map (swapN c.2.1 c.2.2)))) M := by
  refine run_eq rfl ?_
  have l1 := ixN_lt (k := m) (i := (c.2.1 : Int)) (by omega) (by omega)
  have l2 := ixN_lt (k := m) (i := (c.2.2 : Int)) (by omega) (by omega)
  have b1 : (m : Int) ≤ 100000 := by omega
  have b2 : m ≤ 1000000 := by omega
  have b3 : -1000 ≤ (m : Int) := by omega
  simp -implicitDefEqProofs [-List.getD_eq_getElem?_getD, B__names_by, LW.cutD, b1, b2, b3, natsD_ln, l1, l2, lnD_set, swap_range h1 h2]
def twoX (a b : Cut) : List Cut := if a.1 < b.1 then [calledC b (swapN a.2.1 a.2.2), a] else [b, calledC a (swapN b.2.1 b.2.2)]
theorem swap_getD {m a b k : Nat} (h : k < m) : ((List.range m).map (swapN a b)).getD k 0 = swapN a b k := by simp [h]
theorem called_range {m : Nat} {c : Cut} {f : Nat → Nat} (h1 : c.2.1 < m) (h2 : c.2.2 < m) : (calledC c fun k => ((List.range m).map f).getD k 0) = calledC c f := by
  unfold calledC
  simp [h1, h2]
theorem two_ok {m l : Nat} {a b : Cut} {M : Hep} (hm : m ≤ 1000) (ha : CutOk m l a) (hb : CutOk m l b) : F__two_exchanged [.int (m : Int), LW.cutD a, LW.cutD b] M = .ok (rowD (twoX a b)) M := by
  obtain ⟨a1, a2, a3⟩ := ha
  obtain ⟨b1, b2, b3⟩ := hb
  refine run_eq rfl ?_
  have na := names_by_ok (m := m) (c := a) (M := M) hm (by omega) a3
  have nb := names_by_ok (m := m) (c := b) (M := M) hm (by omega) b3
  have ca := called_ok (c := a) (names := (List.range m).map (swapN b.2.1 b.2.2)) (M := M) (by simp; omega) (by simp; omega)
  have cb := called_ok (c := b) (names := (List.range m).map (swapN a.2.1 a.2.2)) (M := M) (by simp; omega) (by simp; omega)
  rw [called_range (by omega) (by omega)] at ca cb
  have x : ∀ c : Cut, opIx (LW.cutD c) (.int 0) M = .ok (.int (c.1 : Int)) M := fun c => ix_tup (k := 0) rfl
  by_cases h : a.1 < b.1
  · have h' : (a.1 : Int) < b.1 := by omega
    simp -implicitDefEqProofs [-List.getD_eq_getElem?_getD, B__two_exchanged, x, na, cb, h', twoX, h, rowD]
  · have h' : ¬ (a.1 : Int) < b.1 := by omega
    simp -implicitDefEqProofs [-List.getD_eq_getElem?_getD, B__two_exchanged, x, nb, ca, h', twoX, h, rowD]
def exchT (r : List Cut) (k : Nat) : List Cut := r.take k ++ twoX (r.getD k (0, 0, 0)) (r.getD (k + 1) (0, 0, 0)) ++ r.drop (k + 2)
theorem rowD_get {r : List Cut} {k : Nat} (h : k < r.length) : (r.map LW.cutD)[k]? = some (LW.cutD (r.getD k (0, 0, 0))) := by rw [List.getElem?_map, get_D (x := (0, 0, 0)) h]; rfl
theorem exchanged_ok {m l k : Nat} {r : List Cut} {M : Hep} (hf : Flat M) (h1 : 1 ≤ m) (h2 : m ≤ 5) (h3 : 1 ≤ l) (h4 : l ≤ 12) (hr : r.length < 1000) (hg : ∀ c ∈ r, CutOk m l c) (hk : k + 1 < r.length) :
    F_exchanged [frD m l, rowD r, .int (k : Int)] M = .ok (rowD (exchT r k)) M := by
  refine run_eq rfl ?_
  have nf := need_frame_ok h1 h2 h3 h4 M
  have nr : F_need_row [frD m l, D.tup (r.map LW.cutD)] M = .ok .non M := need_row_ok hf hr hg
  have fi := from_int (i := (k : Int)) (a := 0) (b := (r.length : Int) - 2) (by omega) (by omega) M
  have g : ∀ j, j < r.length → CutOk m l (r.getD j (0, 0, 0)) := fun j hj => hg _ (List.mem_of_getElem? (get_D (x := (0, 0, 0)) hj))
  have tw : F__two_exchanged _ M = .ok (.tup ((twoX (r.getD k (0, 0, 0)) (r.getD (k + 1) (0, 0, 0))).map LW.cutD)) M := two_ok (M := M) (m := m) (l := l) (by omega) (g k (by omega)) (g (k + 1) hk)
  have tl : (twoX (r.getD k (0, 0, 0)) (r.getD (k + 1) (0, 0, 0))).length = 2 := by unfold twoX; split <;> rfl
  have x0 : opIx (frD m l) (.int 0) M = .ok (.int (m : Int)) M := ix_tup (k := 0) rfl
  have x1 := rowD_get (r := r) (k := k) (by omega)
  have x2 := rowD_get (r := r) (k := k + 1) hk
  have t1 : ((k : Int) + 1).toNat = k + 1 := by omega
  have t2 : ((k : Int) + 2).toNat = k + 2 := by omega
  have p1 : 0 ≤ (k : Int) + 1 := by omega
  have p2 : 0 ≤ (k : Int) + 2 := by omega
  simp -implicitDefEqProofs [-List.getD_eq_getElem?_getD, B_exchanged, nf, nr, fi, tw, x0, x1, x2, t1, t2, p1, p2, rowD, exchT, tl]
  have lr : lows 0 (r.map LW.cutD) = true := lows_map low_cut r
  rw [a_tup (by simp [-List.getD_eq_getElem?_getD, tl]; omega)]
  simp only [Res.bind_ok]
  rw [a_tup (by simp [-List.getD_eq_getElem?_getD, tl]; omega)]
  simp -implicitDefEqProofs [-List.getD_eq_getElem?_getD, lows_take lr, lows_drop lr, lows_mem]
end PR

namespace LX
open L2 (ixN)
open DL LW
/-! ### pens that count their draws -/
def PenOb (N : Nat) (ob : Ob) : Prop := ∃ a b c : Int, ob = .lst [.int a, .int b, .int c] ∧ 0 ≤ b ∧ b < 2147483648 ∧ 0 ≤ c ∧ c ≤ N
def PenAt (N p : Nat) (M : Hep) : Prop := ∃ ob, M[p]? = some ob ∧ PenOb N ob
def Drew (N p : Nat) (M M' : Hep) : Prop := ∃ ob, PenOb N ob ∧ M' = M.set p ob
section
variable {N N' p : Nat} {M M' M'' : Hep}
theorem PenOb.mono {ob : Ob} (h : PenOb N ob) (hn : N ≤ N') : PenOb N' ob := by
  obtain ⟨a, b, c, e, h1, h2, h3, h4⟩ := h
  exact ⟨a, b, c, e, h1, h2, h3, by omega⟩
theorem PenAt.lt (h : PenAt N p M) : p < M.length := by
  obtain ⟨ob, e, _⟩ := h
  exact (List.getElem?_eq_some_iff.mp e).1
theorem PenAt.mono (h : PenAt N p M) (hn : N ≤ N') : PenAt N' p M := by
  obtain ⟨ob, e, q⟩ := h
  exact ⟨ob, e, q.mono hn⟩
theorem Drew.mono (h : Drew N p M M') (hn : N ≤ N') : Drew N' p M M' := by
  obtain ⟨ob, q, e⟩ := h
  exact ⟨ob, q.mono hn, e⟩
theorem PenAt.refl (h : PenAt N p M) : Drew N p M M := by
  obtain ⟨ob, e, q⟩ := h
  refine ⟨ob, q, ?_⟩
  obtain ⟨hl, e⟩ := List.getElem?_eq_some_iff.mp e
  rw [← e, List.set_getElem_self]
theorem Drew.trans (h : Drew N p M M') (h' : Drew N' p M' M'') : Drew N' p M M'' := by
  obtain ⟨o, q, rfl⟩ := h
  obtain ⟨o', q', rfl⟩ := h'
  exact ⟨o', q', by rw [List.set_set]⟩
theorem Drew.len (h : Drew N p M M') : M'.length = M.length := by
  obtain ⟨o, q, rfl⟩ := h
  simp
theorem Drew.pen (h : Drew N' p M M') (hp : PenAt N p M) : PenAt N' p M' := by
  obtain ⟨o, q, rfl⟩ := h
  exact ⟨o, by rw [List.getElem?_set_self hp.lt], q⟩
theorem Drew.flat (h : Drew N p M M') (hf : Flat M) : Flat M' := by
  obtain ⟨o, ⟨a, b, c, rfl, _⟩, rfl⟩ := h
  intro ob hb
  rcases List.mem_or_eq_of_mem_set hb with z | z
  · exact hf ob z
  · rw [z]; rfl
theorem Drew.other (h : Drew N p M M') {m : Nat} (hm : m ≠ p) : M'[m]? = M[m]? := by
  obtain ⟨o, q, rfl⟩ := h
  rw [List.getElem?_set_ne hm.symm]
theorem PenAt.app (h : PenAt N p M) (T : Hep) : PenAt N p (M ++ T) := by
  obtain ⟨o, e, q⟩ := h
  exact ⟨o, by rw [List.getElem?_append_left (PenAt.lt ⟨o, e, q⟩)]; exact e, q⟩
theorem Drew.app {T : Hep} (hp : p < M.length) (h : Drew N p (M ++ T) M') : ∃ M1, M' = M1 ++ T ∧ Drew N p M M1 := by
  obtain ⟨o, q, rfl⟩ := h
  exact ⟨M.set p o, by rw [List.set_append_left _ _ hp], o, q, rfl⟩
end
theorem draw_ok {N p : Nat} {M : Hep} {n : Int} (hp : PenAt N p M) (hN : N < 1000000000) (h0 : 0 < n) (h1 : n < 1073741824) : ∃ (k : Nat) (M' : Hep), F__law_draw [.ref p, .int n] M = .ok (.int (k : Int)) M' ∧ (k : Int) < n ∧ Drew (N + 1) p M M' := by
  have hl := hp.lt
  obtain ⟨ob, e, a, b, c, rfl, hb, hb', hc, hc'⟩ := hp
  have nz : n ≠ 0 := by omega
  suffices ∃ (k : Int) (M' : Hep), F__law_draw [.ref p, .int n] M = .ok (.int k) M' ∧ 0 ≤ k ∧ k < n ∧ Drew (N + 1) p M M' by
    obtain ⟨k, M', h2, h3, h4, h5⟩ := this
    obtain ⟨j, rfl⟩ := Int.eq_ofNat_of_zero_le h3
    exact ⟨j, M', h2, h4, h5⟩
  by_cases ha : a > 0
  · refine ⟨a.fmod n, M.set p (.lst [.int (a.fdiv n), .int b, .int c]), ?_, (fmod_lt h0).1, (fmod_lt h0).2, _, ⟨_, _, _, rfl, hb, hb', hc, by omega⟩, rfl⟩
    have hs : ∀ σ : Sl, σ[0]? = some (some (.ref p)) → DL.gSub (eVar 0) (eC (.int 0)) M.length (.int (a.fdiv n)) σ M = .ok σ (M.set p (.lst [.int (a.fdiv n), .int b, .int c])) := fun σ hσ => sub_at (k := 0) (M1 := M) (by unfold eVar; rw [hσ]) rfl e (by simp) (.inl rfl)
    simp [-r_gsub, F__law_draw, B__law_draw, runF, told, DL.finish, sSeq, sIf, tOf, eBin, eVar, eC, sAsg, gVar, sRet, pen_ix0 e, ha, mod_int nz, div_int nz (by omega : n.natAbs < 1073741824), hs, frz, frzD, take_set]
  · generalize hs1 : ((b + 17 * (c + 1)) * (69621 + 2 * (c + 1))).fmod 2147483647 = s1
    obtain ⟨p1, p2⟩ : 0 ≤ s1 ∧ s1 < 2147483647 := by rw [← hs1]; exact fmod_lt (by decide)
    have m1 : mulFits 17 (c + 1) = true := by rw [mulFits, small_const (i := 17) (by decide) (by decide), Bool.true_or]
    have m2 : mulFits 2 (c + 1) = true := by rw [mulFits, small_const (i := 2) (by decide) (by decide), Bool.true_or]
    have m3 : mulFits (b + 17 * (c + 1)) (69621 + 2 * (c + 1)) = true := by rw [mulFits, small_const (i := b + 17 * (c + 1)) (by omega) (by omega), Bool.true_or]
    have m4 : mulFits s1 s1 = true := by rw [mulFits, small_const (i := s1) (by omega) (by omega), Bool.true_or]
    have m5 : mulFits 40503 (c + 1) = true := by rw [mulFits, small_const (i := 40503) (by decide) (by decide), Bool.true_or]
    generalize hs2 : (s1 * s1 + 40503 * (c + 1) + 5).fmod 2147483629 = st
    have m6 : mulFits st 48271 = true := by rw [mulFits, small_const (i := 48271) (by decide) (by decide), Bool.or_true]
    have at1 : (M.set p (.lst [.int a, .int b, .int (c + 1)]))[p]? = some (.lst [.int a, .int b, .int (c + 1)]) := List.getElem?_set_self hl
    have g1 : ∀ σ : Sl, σ[0]? = some (some (.ref p)) → DL.gSub (eVar 0) (eC (.int 2)) M.length (.int (c + 1)) σ M = .ok σ (M.set p (.lst [.int a, .int b, .int (c + 1)])) := fun σ hσ => sub_at (k := 2) (M1 := M) (by unfold eVar; rw [hσ]) rfl e (by simp) (.inl rfl)
    refine ⟨(((st * 48271).fmod 2147483647).fdiv 32).fmod n, M.set p (.lst [.int a, .int b, .int (c + 1)]), ?_, (fmod_lt h0).1, (fmod_lt h0).2, _, ⟨_, _, _, rfl, hb, hb', by omega, by omega⟩, rfl⟩
    simp [-r_gsub, F__law_draw, B__law_draw, runF, told, DL.finish, sSeq, sIf, tOf, eBin, eVar, eC, sAsg, gVar, sRet, sNil, pen_ix0 e, pen_ix1 e, pen_ix2 e, pen_ix0 at1, pen_ix1 at1, pen_ix2 at1, ha, mod_int nz, mod_int, div_int, mul_int, m1, m2, m3, m4, m5, m6, hs1, hs2, g1, frz, frzD, take_set]
end LX

namespace LX
open L2 (ixN)
open DL LW
theorem pen_new (c : Int) (M : Hep) : ∃ ob, PenOb 0 ob ∧ F__law_pen [.int c] M = .ok (.ref M.length) (M ++ [ob]) := by
  refine ⟨.lst [.int (if c - 10 ^ 18 > 0 then c - 10 ^ 18 else 0), .int (c.fmod 1000000007), .int 0], ⟨_, _, _, rfl, (fmod_lt (by decide)).1, by have := (fmod_lt (a := c) (n := 1000000007) (by decide)).2; omega, by omega, by omega⟩, run_eq rfl ?_⟩
  have pw : opPow (.int 10) (.int 18) M = .ok (.int (10 ^ 18)) M := rfl
  simp -implicitDefEqProofs [B__law_pen, pw, mod_int, DL.finish]
theorem pick_tup {N p : Nat} {M : Hep} {ds : List D} (hp : PenAt N p M) (hN : N < 1000000000) (h0 : 0 < ds.length) (h1 : ds.length < 100000) (hlow : lows 0 ds = true) : ∃ (k : Nat) (d : D) (M' : Hep), ds[k]? = some d ∧ F__law_pick [.ref p, .tup ds] M = .ok d M' ∧ Drew (N + 1) p M M' := by
  obtain ⟨k, M', e, hk, hd⟩ := draw_ok (n := ds.length) hp hN (by omega) (by omega)
  have x : ds[k]? = some (ds.getD k .non) := get_D (by omega)
  refine ⟨k, _, M', x, run_eq rfl ?_, hd⟩
  have lx := low_getD hlow k
  rw [← hd.len]
  simp -implicitDefEqProofs [-List.getD_eq_getElem?_getD, B__law_pick, e, x, lx]
theorem pick_fz {N p : Nat} {M : Hep} {ds : List D} (hp : PenAt N p M) (hN : N < 1000000000) (h0 : 0 < ds.length) (h1 : ds.length < 100000) (hlow : lows 0 ds = true) : ∃ (k : Nat) (d : D) (M' : Hep), ds[k]? = some d ∧ F__law_pick [.ref p, .fz ds] M = .ok d M' ∧ Drew (N + 1) p M M' := by
  obtain ⟨k, M', e, hk, hd⟩ := draw_ok (n := ds.length) hp hN (by omega) (by omega)
  have x : ds[k]? = some (ds.getD k .non) := get_D (by omega)
  refine ⟨k, _, M', x, run_eq rfl ?_, hd⟩
  have lx := low_getD hlow k
  rw [← hd.len]
  simp -implicitDefEqProofs [-List.getD_eq_getElem?_getD, B__law_pick, e, x, lx]
theorem frame_ok {N p : Nat} {M : Hep} (a b : Nat) (hp : PenAt N p M) (hN : N < 100000000) (ha : 0 < a) (ha' : a < 1000) (hb : 0 < b) (hb' : b < 1000) : ∃ m l M', F__law_frame [.ref p, .int a, .int b] M = .ok (frD m l) M' ∧ 1 ≤ m ∧ m ≤ a ∧ 1 ≤ l ∧ l ≤ b ∧ Drew (N + 2) p M M' := by
  obtain ⟨k, M1, e1, hk, d1⟩ := draw_ok (n := a) hp (by omega) (by omega) (by omega)
  obtain ⟨j, M2, e2, hj, d2⟩ := draw_ok (n := b) (d1.pen hp) (by omega) (by omega) (by omega)
  refine ⟨k + 1, j + 1, M2, run_eq rfl ?_, by omega, by omega, by omega, by omega, d1.trans d2⟩
  have c1 : 1 + (k : Int) = ((k + 1 : Nat) : Int) := by omega
  have c2 : 1 + (j : Int) = ((j + 1 : Nat) : Int) := by omega
  rw [← (d1.trans d2).len]
  simp -implicitDefEqProofs [B__law_frame, e1, e2, frD, c1, c2, -Int.natCast_add]
end LX

namespace LX
open L2 (ixN)
open DL LW
theorem nats_get {t i : Nat} {d : D} (h : (natsD t)[i]? = some d) : i < t ∧ d = .int (i : Int) := by
  unfold natsD at h
  rw [List.getElem?_map, Option.map_eq_some_iff] at h
  obtain ⟨j, h1, rfl⟩ := h
  have := (List.getElem?_eq_some_iff.mp h1).1
  simp at this
  rw [List.getElem?_range this] at h1
  cases h1
  exact ⟨this, rfl⟩
@[simp] theorem fr_0 {m l : Nat} {M : Hep} : opIx (frD m l) (.int 0) M = .ok (.int (m : Int)) M := ix_tup (k := 0) rfl
@[simp] theorem fr_1 {m l : Nat} {M : Hep} : opIx (frD m l) (.int 1) M = .ok (.int (l : Int)) M := ix_tup (k := 1) rfl
@[simp] theorem row_low (r : List Cut) : (rowD r).low 0 = true := lows_map low_cut r
theorem row_cat {r : List Cut} {c : Cut} {M : Hep} (h : r.length < 100000) : opAdd false (rowD r) (.tup [LW.cutD c]) M = .ok (rowD (r ++ [c])) M := by
  unfold rowD
  rw [a_tup (by simp; omega), List.map_append]
  rfl
theorem row_ok {N p m l most : Nat} {M : Hep} (hp : PenAt N p M) (hN : N < 10000000) (hm : 1 ≤ m) (hm' : m ≤ 5) (hl : 1 ≤ l) (hl' : l ≤ 12) (hk : most ≤ 60) :
    ∃ (r : List Cut) (M' : Hep), F__law_row [.ref p, frD m l, .int (most : Int)] M = .ok (rowD r) M' ∧ Drew (N + 1000) p M M' ∧ (∀ c ∈ r, CutOk m l c) ∧ r.length ≤ most := by
  obtain ⟨s, M1, e1, hs, d1⟩ := draw_ok (n := (l : Int)) hp (by omega) (by omega) (by omega)
  obtain ⟨t, M2, e2, ht, d2⟩ := draw_ok (n := ((most + 1 : Nat) : Int)) (d1.pen hp) (by omega) (by omega) (by omega)
  have d12 := d1.trans d2
  have p2 := d12.pen hp
  have hlen := d12.len
  let u : Nat := if 1 < m then t else 0
  have hu : u ≤ most := by show (if 1 < m then t else 0) ≤ most; split <;> omega
  let sp : List D := [.int 0, .int ((l - 1 : Nat) : Int), .int (s : Int)]
  let S : D → Option D → Option D → Option D → Option D → Sl := fun f w5 w6 w7 w8 => [some (.ref p), some (frD m l), some (.int (most : Int)), some f, some (.fz sp), w5, w6, w7, w8]
  have loop := for_inv (n1 := M2.length) (n0 := M.length) (g := DL.gVar 5) (b := sSeq (sAsg (eApp F__law_draw (lCons (eVar 0) (lCons (eBin opSub (eBin opIx (eVar 1) (eC (.int 0))) (eC (.int 1))) lNil))) (DL.gVar 6)) (sSeq (sAsg (eBin (opAdd false) (eBin (opAdd false) (eVar 6) (eC (.int 1))) (eApp F__law_draw (lCons (eVar 0) (lCons (eBin opSub (eBin opSub (eBin opIx (eVar 1) (eC (.int 0))) (eC (.int 1))) (eVar 6)) lNil)))) (DL.gVar 7)) (sSeq (sAsg (eBin opIx (eApp (mkLst false) (lCons (eApp F__law_pick (lCons (eVar 0) (lCons (eVar 4) lNil))) (lCons (eApp F__law_draw (lCons (eVar 0) (lCons (eBin opIx (eVar 1) (eC (.int 1))) lNil))) lNil))) (eApp F__law_draw (lCons (eVar 0) (lCons (eC (.int 2)) lNil)))) (DL.gVar 8)) (sAsg (eBin (opAdd false) (eVar 3) (eApp mkTup (lCons (eApp mkTup (lCons (eVar 8) (lCons (eVar 6) (lCons (eVar 7) lNil)))) lNil))) (DL.gVar 3)))))
    (fun i σ M' => ∃ r w5 w6 w7 w8, σ = S (rowD r) w5 w6 w7 w8 ∧ Drew (N + 2 + 5 * i) p M2 M' ∧ (∀ c ∈ r, CutOk m l c) ∧ r.length = i) (natsD u) (natsD u) 0 (S (rowD []) none none none none) M2 ⟨[], none, none, none, none, rfl, p2.refl, by simp, rfl⟩ ?_
  · obtain ⟨σ', M', e3, r, w5, w6, w7, w8, rfl, d3, hr, hl3⟩ := loop
    rw [nats_len, Nat.zero_add] at hl3 d3
    refine ⟨r, M', run_eq rfl ?_, (d12.trans d3).mono (by omega), hr, by omega⟩
    have c1 : ((most : Int) + 1) = ((most + 1 : Nat) : Int) := by omega
    have c2 : ((l : Int) - 1) = ((l - 1 : Nat) : Int) := by omega
    have mu : opMul false (.int (t : Int)) (.int (if 1 < (m : Int) then 1 else 0)) M2 = .ok (.int (u : Int)) M2 := by
      rw [mul_int _ (by rw [mulFits, small_const (i := (t : Int)) (by omega) (by omega), Bool.true_or])]
      show _ = Res.ok (D.int ((if 1 < m then t else 0 : Nat) : Int)) M2
      by_cases h : 1 < m
      · rw [if_pos h, if_pos (by omega), Int.mul_one]
      · rw [if_neg h, if_neg (by omega), Int.mul_zero]; rfl
    have bu : (u : Int) ≤ 100000 := by omega
    have bu' : -1000 ≤ (u : Int) := by omega
    have e3' : forL _ _ ⟨natsD u, none⟩ M2.length M.length (natsD u) [some (.ref p), some (frD m l), some (.int (most : Int)), some (.tup []), some (.fz [.int 0, .int ((l - 1 : Nat) : Int), .int (s : Int)]), none, none, none, none] M2 = .ok (.nx, [some (.ref p), some (frD m l), some (.int (most : Int)), some (rowD r), some (.fz sp), w5, w6, w7, w8]) M' := e3
    have lenM : M'.length = M.length := by rw [d3.len, hlen]
    have tk : M'.take M.length = M' := by rw [← lenM, List.take_length]
    simp -implicitDefEqProofs [B__law_row, e1, e2, c1, c2, mu, bu, bu', e3', tk, -Int.natCast_add]
  · rintro i d σ M' hd ⟨r, w5, w6, w7, w8, rfl, dr, hr, hl3⟩
    obtain ⟨hi, rfl⟩ := nats_get hd
    rw [Nat.zero_add] at dr hl3 ⊢
    have m1 : 1 < m := by
      by_cases h : 1 < m
      · exact h
      · have : u = 0 := if_neg h
        omega
    have pp := dr.pen p2
    obtain ⟨a, K1, f1, ha, g1⟩ := draw_ok (n := ((m - 1 : Nat) : Int)) pp (by omega) (by omega) (by omega)
    obtain ⟨b, K2, f2, hb, g2⟩ := draw_ok (n := ((m - 1 - a : Nat) : Int)) (g1.pen pp) (by omega) (by omega) (by omega)
    obtain ⟨j, x, K3, hx, f3, g3⟩ := pick_fz (ds := sp) (g2.pen (g1.pen pp)) (by omega) (by show 0 < 3; decide) (by show 3 < 100000; decide) rfl
    obtain ⟨y, K4, f4, hy, g4⟩ := draw_ok (n := (l : Int)) (g3.pen (g2.pen (g1.pen pp))) (by omega) (by omega) (by omega)
    obtain ⟨z, K5, f5, hz, g5⟩ := draw_ok (n := 2) (g4.pen (g3.pen (g2.pen (g1.pen pp)))) (by omega) (by omega) (by omega)
    have hxv : ∃ v : Nat, x = .int (v : Int) ∧ v < l := by
      match j, hx with
      | 0, hx => cases hx; exact ⟨0, rfl, by omega⟩
      | 1, hx => cases hx; exact ⟨l - 1, rfl, by omega⟩
      | 2, hx => cases hx; exact ⟨s, rfl, by omega⟩
      | n + 3, hx => cases hx
    obtain ⟨v, rfl, hv⟩ := hxv
    have hq : ∃ q : Nat, [D.int (v : Int), D.int (y : Int)][z]? = some (.int (q : Int)) ∧ q < l := by
      match z, hz with
      | 0, _ => exact ⟨v, rfl, hv⟩
      | 1, _ => exact ⟨y, rfl, by omega⟩
      | n + 2, hz => exact absurd hz (by omega)
    obtain ⟨q, eq, hq⟩ := hq
    have c1 : ((m : Int) - 1) = ((m - 1 : Nat) : Int) := by omega
    have c2 : (((m - 1 : Nat) : Int) - (a : Int)) = ((m - 1 - a : Nat) : Int) := by omega
    have c3 : (a : Int) + 1 + (b : Int) = ((a + 1 + b : Nat) : Int) := by omega
    have cat := row_cat (r := r) (c := (q, a, a + 1 + b)) (M := K5) (by omega)
    simp only [LW.cutD] at cat
    have lenK : K5.length = M2.length := by rw [g5.len, g4.len, g3.len, g2.len, g1.len, dr.len]
    have se : ∀ σ : Sl, settle M.length M2.length σ K5 = some (σ, K5) := fun σ => settle_le (by omega)
    refine ⟨S (rowD (r ++ [(q, a, a + 1 + b)])) (some (.int (i : Int))) (some (.int (a : Int))) (some (.int ((a + 1 + b : Nat) : Int))) (some (.int (q : Int))), K5, ?_, _, _, _, _, _, rfl, ((((((dr.trans g1).trans g2).trans g3).trans g4).trans g5)).mono (by omega), ?_, by simp [hl3]⟩
    · have f3' : F__law_pick [.ref p, .fz [.int 0, .int ((l - 1 : Nat) : Int), .int (s : Int)]] K2 = .ok (.int (v : Int)) K3 := f3
      simp -implicitDefEqProofs [turnF, S, sp, f1, f2, f3', f4, f5, c1, c2, c3, eq, cat, se, -Int.natCast_add]
    · intro c hc
      rcases List.mem_append.mp hc with h | h
      · exact hr c h
      · rw [List.mem_singleton.mp h]
        exact ⟨hq, by show a < a + 1 + b; omega, by show a + 1 + b < m; omega⟩
end LX

namespace LX
open L2 (ixN)
open DL LW PR
theorem cut_1 {c : Cut} {M : Hep} : opIx (LW.cutD c) (.int 1) M = .ok (.int (c.2.1 : Int)) M := ix_tup (k := 1) rfl
theorem cut_2 {c : Cut} {M : Hep} : opIx (LW.cutD c) (.int 2) M = .ok (.int (c.2.2 : Int)) M := ix_tup (k := 2) rfl
theorem cut_0 {c : Cut} {M : Hep} : opIx (LW.cutD c) (.int 0) M = .ok (.int (c.1 : Int)) M := ix_tup (k := 0) rfl
theorem cast_eq (a b : Nat) : ((a : Int) = (b : Int)) = (a = b) := propext ⟨fun h => by omega, fun h => by omega⟩
def calE : SemE := eIf (tOf (eBin opEq (eVar 3) (eBin opIx (eVar 1) (eC (.int 1))))) (eBin opIx (eVar 1) (eC (.int 2))) (eIf (tOf (eBin opEq (eVar 3) (eBin opIx (eVar 1) (eC (.int 2))))) (eBin opIx (eVar 1) (eC (.int 1))) (eVar 3))
theorem cal_ok {c : Cut} {n a : Nat} {w0 w2 : Option D} {M : Hep} : calE n [w0, some (LW.cutD c), w2, some (.int (a : Int))] M = .ok (.int ((swapN c.2.1 c.2.2 a : Nat) : Int)) M := by
  have i1 := cast_eq a c.2.1
  have i2 := cast_eq a c.2.2
  by_cases h1 : a = c.2.1
  · simp -implicitDefEqProofs [calE, cut_1, cut_2, swapN, h1]
  · by_cases h2 : a = c.2.2
    · have h3 : ¬ c.2.2 = c.2.1 := fun z => h1 (h2.trans z)
      simp -implicitDefEqProofs [calE, cut_1, cut_2, swapN, h2, h3, cast_eq]
    · simp -implicitDefEqProofs [calE, cut_1, cut_2, swapN, i1, i2, h1, h2]
theorem called_ok {c : Cut} {a b : Nat} {M : Hep} : F__law_called [.tup [.int (a : Int), .int (b : Int)], LW.cutD c] M = .ok (.tup [.int ((min (swapN c.2.1 c.2.2 a) (swapN c.2.1 c.2.2 b) : Nat) : Int), .int ((max (swapN c.2.1 c.2.2 a) (swapN c.2.1 c.2.2 b) : Nat) : Int)]) M := by
  refine run_eq rfl ?_
  have turn : ∀ (x : Nat) (acc : List D) (w : Option D), acc.length < 10 → turnF (DL.gVar 3) (sDrop (eMt isLst mApp (eVar 2) (lCons calE lNil))) (M.length + 1) M.length (.int (x : Int)) [some (.tup [.int (a : Int), .int (b : Int)]), some (LW.cutD c), some (.ref M.length), w] (M ++ [.lst acc]) =
      .ok [some (.tup [.int (a : Int), .int (b : Int)]), some (LW.cutD c), some (.ref M.length), some (.int (x : Int))] (M ++ [.lst (acc ++ [.int ((swapN c.2.1 c.2.2 x : Nat) : Int)])]) := fun x acc w hl => by
    have l1 : acc.length < 1000000 := by omega
    simp -implicitDefEqProofs [turnF, cal_ok, l1]
  have e1 := forL_turn (ds := [.int (b : Int)]) (it := ⟨[.int (a : Int), .int (b : Int)], none⟩) rfl (turn a [] none (by decide))
  have e2 := forL_turn (ds := []) (it := ⟨[.int (a : Int), .int (b : Int)], none⟩) rfl (turn b [.int ((swapN c.2.1 c.2.2 a : Nat) : Int)] (some (.int (a : Int))) (by simp))
  have e3 := e1.trans e2
  have srt : (pSortedA false).op [.ref M.length] (M ++ [.lst [.int ((swapN c.2.1 c.2.2 a : Nat) : Int), .int ((swapN c.2.1 c.2.2 b : Nat) : Int)]]) = .ok (.fz [.int ((min (swapN c.2.1 c.2.2 a) (swapN c.2.1 c.2.2 b) : Nat) : Int), .int ((max (swapN c.2.1 c.2.2 a) (swapN c.2.1 c.2.2 b) : Nat) : Int)]) (M ++ [.lst [.int ((swapN c.2.1 c.2.2 a : Nat) : Int), .int ((swapN c.2.1 c.2.2 b : Nat) : Int)]]) := by
    have s := sort2 (swapN c.2.1 c.2.2 a) (swapN c.2.1 c.2.2 b)
    simp -implicitDefEqProofs [PL.op, pSortedA, pSorted, intsOf, s]
  have fe : forL (DL.gVar 3) (sDrop (eMt isLst mApp (eVar 2) (lCons calE lNil))) ⟨[.int (a : Int), .int (b : Int)], none⟩ (M.length + 1) M.length [.int (a : Int), .int (b : Int)] [some (.tup [.int (a : Int), .int (b : Int)]), some (LW.cutD c), some (.ref M.length), none] (M ++ [.lst []]) = _ := e3
  unfold calE at fe
  rw [forL, if_pos (chk_none _ _)] at fe
  simp only [List.nil_append, List.cons_append] at fe
  simp -implicitDefEqProofs [B__law_called, fe, srt]
theorem law_exch_ok {r : List Cut} {k : Nat} {M : Hep} (hk : k + 1 < r.length) (hr : r.length < 1000) : F__law_exchanged [rowD r, .int (k : Int)] M = .ok (rowD (exchT r k)) M := by
  refine run_eq rfl ?_
  have x1 := rowD_get (r := r) (k := k) (by omega)
  have x2 := rowD_get (r := r) (k := k + 1) hk
  generalize ha : r.getD k (0, 0, 0) = a at x1
  generalize hb : r.getD (k + 1) (0, 0, 0) = b at x2
  have t1 : ((k : Int) + 1).toNat = k + 1 := by omega
  have t2 : ((k : Int) + 2).toNat = k + 2 := by omega
  have p1 : 0 ≤ (k : Int) + 1 := by omega
  have p2 : 0 ≤ (k : Int) + 2 := by omega
  have sl : ∀ c : Cut, opSl false (LW.cutD c) (some 1) none M = .ok (.tup [.int (c.2.1 : Int), .int (c.2.2 : Int)]) M := fun c => by
    unfold LW.cutD
    simp -implicitDefEqProofs
  have lr : lows 0 (r.map LW.cutD) = true := lows_map low_cut r
  have fin : ∀ T : List Cut, T.length = 2 → opAdd false (.tup (List.take k (r.map LW.cutD))) (.tup (T.map LW.cutD)) M = .ok (.tup (List.take k (r.map LW.cutD) ++ T.map LW.cutD)) M ∧ opAdd false (.tup (List.take k (r.map LW.cutD) ++ T.map LW.cutD)) (.tup (List.drop (k + 2) (r.map LW.cutD))) M = .ok (.tup (List.take k (r.map LW.cutD) ++ T.map LW.cutD ++ List.drop (k + 2) (r.map LW.cutD))) M := fun T hT => by
    constructor
    · rw [a_tup (by simp [hT]; omega)]
    · rw [a_tup (by simp [hT]; omega)]
  by_cases h : a.1 < b.1
  · have h' : (a.1 : Int) < b.1 := by omega
    obtain ⟨f1, f2⟩ := fin [calledC b (swapN a.2.1 a.2.2), a] rfl
    have sq : opAdd false (.tup [.int (b.1 : Int)]) (.tup [.int ((min (swapN a.2.1 a.2.2 b.2.1) (swapN a.2.1 a.2.2 b.2.2) : Nat) : Int), .int ((max (swapN a.2.1 a.2.2 b.2.1) (swapN a.2.1 a.2.2 b.2.2) : Nat) : Int)]) M = .ok (LW.cutD (calledC b (swapN a.2.1 a.2.2))) M := a_tup (by simp)
    simp only [List.map_cons, List.map_nil] at f1 f2
    simp -implicitDefEqProofs [-List.getD_eq_getElem?_getD, -a_tup, B__law_exchanged, rowD, x1, x2, t1, t2, p1, p2, cut_0, h', sl, called_ok, sq, f1, f2, exchT, ha, hb, twoX, h, lows_take lr, lows_drop lr]
  · have h' : ¬ (a.1 : Int) < b.1 := by omega
    obtain ⟨f1, f2⟩ := fin [b, calledC a (swapN b.2.1 b.2.2)] rfl
    have sq : opAdd false (.tup [.int (a.1 : Int)]) (.tup [.int ((min (swapN b.2.1 b.2.2 a.2.1) (swapN b.2.1 b.2.2 a.2.2) : Nat) : Int), .int ((max (swapN b.2.1 b.2.2 a.2.1) (swapN b.2.1 b.2.2 a.2.2) : Nat) : Int)]) M = .ok (LW.cutD (calledC a (swapN b.2.1 b.2.2))) M := a_tup (by simp)
    simp only [List.map_cons, List.map_nil] at f1 f2
    simp -implicitDefEqProofs [-List.getD_eq_getElem?_getD, -a_tup, B__law_exchanged, rowD, x1, x2, t1, t2, p1, p2, cut_0, h', sl, called_ok, sq, f1, f2, exchT, ha, hb, twoX, h, lows_take lr, lows_drop lr]
end LX

namespace LW
open DL
open PySem (PyData)
/-! ### what may be shown -/
def Showy (B d : Nat) (x : D) : Prop := ∃ p, Shows B d x p
theorem Showy.mono {B d B' d' : Nat} {x : D} (h : Showy B d x) (hb : B ≤ B') (hd : d ≤ d') : Showy B' d' x := by
  obtain ⟨p, h⟩ := h
  exact ⟨p, h.mono hb hd⟩
theorem Showy.repr {B d : Nat} {x : D} (h : Showy B d x) (hB : B ≤ 1000000) (hd : d ≤ 60) : ∃ s, ∀ M, pRepr.op [x] M = .ok (.str s) M := by
  obtain ⟨p, h⟩ := h
  exact ⟨_, fun M => h.repr hB hd⟩
theorem showy_all {B d : Nat} : ∀ xs : List D, (∀ x ∈ xs, Showy B d x) → ∃ ps : List PyData, lows 0 xs = true ∧ pys xs = some ps ∧ ps.length = xs.length ∧ ∀ p ∈ ps, Small B d p
  | [], _ => ⟨[], rfl, rfl, rfl, fun _ h => by cases h⟩
  | x :: xs, h => by
    obtain ⟨p, hp⟩ := h x List.mem_cons_self
    obtain ⟨ps, h1, h2, h3, h4⟩ := showy_all xs fun y hy => h y (List.mem_cons_of_mem _ hy)
    refine ⟨p :: ps, by simp only [lows, hp.low, h1, Bool.and_self], by rw [pys, hp.py, h2]; rfl, by rw [List.length_cons, h3, List.length_cons], fun q hq => ?_⟩
    rcases List.mem_cons.mp hq with z | z
    · rw [z]; exact hp.sm
    · exact h4 q z
theorem showy_tup {B d : Nat} {xs : List D} (h : ∀ x ∈ xs, Showy B d x) : Showy (xs.length * (B + 1)) (d + 1) (.tup xs) := by
  obtain ⟨ps, h1, h2, h3, h4⟩ := showy_all xs h
  refine ⟨.tuple ps, by simp only [D.low]; exact h1, by rw [D.py, h2]; rfl, ?_⟩
  rw [← h3]; exact small_tup h4
theorem showy_fz {B d : Nat} {xs : List D} (h : ∀ x ∈ xs, Showy B d x) : Showy (xs.length * (B + 1)) (d + 1) (.fz xs) := by
  obtain ⟨ps, h1, h2, h3, h4⟩ := showy_all xs h
  refine ⟨.list ps, by simp only [D.low]; exact h1, by rw [D.py, h2]; rfl, ?_⟩
  rw [← h3]; exact small_lst h4
theorem showy_bl (b : Bool) : Showy 1001 0 (.bl b) := ⟨.bool b, rfl, rfl, rfl, by simp [PyData.weight], by simp [PyData.depth]⟩
theorem showy_non : Showy 1001 0 .non := ⟨.none, rfl, rfl, rfl, by simp [PyData.weight], by simp [PyData.depth]⟩
theorem showy_nat {k : Nat} (h : k < 1000) : Showy 1001 0 (.int (k : Int)) := ⟨_, shows_int h⟩
theorem showy_fr {m l : Nat} (hm : m < 1000) (hl : l < 1000) : Showy 2004 1 (frD m l) := by
  have := showy_tup (B := 1001) (d := 0) (xs := [.int (m : Int), .int (l : Int)]) fun x hx => by
    rcases List.mem_cons.mp hx with z | hx
    · rw [z]; exact showy_nat hm
    · rw [List.mem_singleton.mp hx]; exact showy_nat hl
  exact this.mono (by simp) (by simp)
theorem showy_cut {m l : Nat} {c : Cut} (h : CutOk m l c) (hm : m ≤ 5) (hl : l ≤ 12) : Showy 3006 1 (LW.cutD c) := ⟨_, shows_cut h hm hl⟩
theorem showy_row {m l : Nat} {r : List Cut} (hg : ∀ c ∈ r, CutOk m l c) (hm : m ≤ 5) (hl : l ≤ 12) : Showy (r.length * 3007) 2 (rowD r) := by
  have := showy_tup (xs := r.map LW.cutD) (B := 3006) (d := 1) fun x hx => by
    obtain ⟨c, hc, rfl⟩ := List.mem_map.mp hx
    exact showy_cut (hg c hc) hm hl
  rwa [List.length_map] at this
end LW
namespace SK
open DL LW
theorem ints_nats (t : Nat) : intsFrom 0 t = natsD t := by
  unfold intsFrom natsD
  exact List.map_congr_left fun k _ => by rw [Int.zero_add]
theorem rng_nat {f : SemL} {n0 l : Nat} {σ : Sl} {M M1 : Hep} (h : f n0 σ M = .ok [.int (l : Int)] M1) (hl : l < 1000) : iRng f n0 σ M = .ok ⟨natsD l, none⟩ M1 := by
  rw [← ints_nats]; exact rng_eval h hl
/-- the turns of a law: max(1, min(len(script), cap)) -/
theorem turns (ns : List Int) (cap : Nat) (hc : cap < 100) (σ : Sl) (M : Hep) (h0 : σ[0]? = some (some (.ro (ns.map .int)))) : ∃ t : Nat, t < 1000 ∧ eApp pMax.op (lCons (eC (.int 1)) (lCons (eApp pMin.op (lCons (eApp pLen.op (lCons (eVar 0) lNil)) (lCons (eC (.int (cap : Int))) lNil))) lNil)) 0 σ M = .ok (.int (t : Nat)) M := by
  have e := ev_app2 (op := pMax.op) (n := 0) (σ := σ) (M := M) (a := eC (.int 1)) (b := eApp pMin.op (lCons (eApp pLen.op (lCons (eVar 0) lNil)) (lCons (eC (.int (cap : Int))) lNil))) ev_c (ev_app2 (ev_app1 (ev_var h0) (len_ro _)) ev_c (min_int _ _)) (max_int _ _)
  generalize hv : (if (if (cap : Int) < ((ns.map D.int).length : Nat) then (cap : Int) else ((ns.map D.int).length : Nat)) > 1 then (if (cap : Int) < ((ns.map D.int).length : Nat) then (cap : Int) else ((ns.map D.int).length : Nat)) else (1 : Int)) = v at e
  have v0 : 0 ≤ v ∧ v < 1000 := by
    rw [List.length_map] at hv
    split at hv <;> split at hv <;> omega
  obtain ⟨t, rfl⟩ := Int.eq_ofNat_of_zero_le v0.1
  exact ⟨t, by omega, e⟩
/-- a law of pens: each turn a pen, then its rest -/
theorem law_pens {N cap : Nat} {PO : Ob → Prop} {penF cellF : DFun} {REST : SemS} (ns : List Int) (hc : cap < 100)
    (cell : ∀ (k : Nat) (M : Hep), ∃ c : Int, cellF [.ro (ns.map .int), .int (k : Int)] M = .ok (.int c) M)
    (pen : ∀ c : Int, ∃ ob, PO ob ∧ penF [.int c] [] = .ok (.ref 0) [ob])
    (rest : ∀ (ob : Ob) (k : Nat) (ws : Sl), PO ob → ws.length = N → ∃ d1 d2 ws' M', REST 0 (some (.ro (ns.map .int)) :: some (.int (k : Int)) :: some (.ref 0) :: ws) [ob] = .ok (.nx, some (.ro (ns.map .int)) :: d1 :: d2 :: ws') M' ∧ ws'.length = N ∧ 0 < M'.length) :
    ∃ M, runF true (N + 3) 1 (sSeq (sFor (iRng (lCons (eApp pMax.op (lCons (eC (.int 1)) (lCons (eApp pMin.op (lCons (eApp pLen.op (lCons (eVar 0) lNil)) (lCons (eC (.int (cap : Int))) lNil))) lNil))) lNil)) (DL.gVar 1)
      (sSeq (sAsg (eApp penF (lCons (eApp cellF (lCons (eVar 0) (lCons (eVar 1) lNil))) lNil)) (DL.gVar 2)) REST)) (sRet (eC (.bl true)))) [.ro (ns.map .int)] [] = .ok (.bl true) M := by
  have lowN : lows 0 (ns.map D.int) = true := lows_map (fun _ => rfl) ns
  let σ0 : Sl := some (.ro (ns.map .int)) :: List.replicate (N + 2) none
  obtain ⟨t, ht, et⟩ := turns ns cap hc σ0 [] rfl
  have loop := for_inv (n1 := 0) (n0 := 0) (g := DL.gVar 1) (b := sSeq (sAsg (eApp penF (lCons (eApp cellF (lCons (eVar 0) (lCons (eVar 1) lNil))) lNil)) (DL.gVar 2)) REST)
    (fun i σ M => M = [] ∧ ∃ d1 d2 ws, σ = some (.ro (ns.map .int)) :: d1 :: d2 :: ws ∧ ws.length = N) (natsD t) (natsD t) 0 σ0 [] ⟨rfl, none, none, List.replicate N none, rfl, by simp⟩ ?_
  · obtain ⟨σ', M', e3, rfl, d1, d2, ws, rfl, hw⟩ := loop
    refine ⟨[], run_eq rfl ?_⟩
    have hr : iRng (lCons (eApp pMax.op (lCons (eC (.int 1)) (lCons (eApp pMin.op (lCons (eApp pLen.op (lCons (eVar 0) lNil)) (lCons (eC (.int (cap : Int))) lNil))) lNil))) lNil) 0 σ0 [] = .ok ⟨natsD t, none⟩ [] := by
      rw [← ints_nats]
      exact rng_eval (l := t) (ls_cons et ls_nil) ht
    have s0 : [D.ro (ns.map .int)].map some ++ List.replicate (N + 3 - 1) none = σ0 := rfl
    rw [s0]
    show DL.finish true 0 (told (sSeq _ _ 0 σ0 [])) = _
    rw [r_seq, r_for, hr]
    rw [Res.bind_ok, List.length_nil, e3, Res.bind_ok]
    rfl
  · rintro i d σ M hd ⟨rfl, d1, d2, ws, rfl, hw⟩
    obtain ⟨hi, rfl⟩ := LX.nats_get hd
    obtain ⟨c, ec⟩ := cell i []
    obtain ⟨ob, hob, ep⟩ := pen c
    obtain ⟨e1, e2, ws', M', er, hw', hM⟩ := rest ob i ws hob hw
    have fr : frz 0 M' (.ro (ns.map .int)) = some (.ro (ns.map .int)) := low_frz (d := .ro (ns.map .int)) lowN
    refine ⟨_, [], ?_, rfl, e1.bind (frz 0 M'), e2.bind (frz 0 M'), ws'.map fun o => o.bind (frz 0 M'), rfl, by simpa using hw'⟩
    unfold turnF
    have st : settle 0 0 (some (.ro (ns.map .int)) :: e1 :: e2 :: ws') M' = some ((some (.ro (ns.map .int)) :: e1 :: e2 :: ws').map fun o => o.bind (frz 0 M'), []) := settle_flat (n1 := 0) (Nat.le_refl _) (by intro o ho; simp at ho) (by omega)
    rw [g_var (by simp)]
    simp only [Res.bind_ok, List.set_cons_succ, List.set_cons_zero]
    rw [show sSeq (sAsg (eApp penF (lCons (eApp cellF (lCons (eVar 0) (lCons (eVar 1) lNil))) lNil)) (DL.gVar 2)) REST 0 (some (.ro (ns.map .int)) :: some (.int (i : Int)) :: d2 :: ws) [] = .ok (.nx, some (.ro (ns.map .int)) :: e1 :: e2 :: ws') M' from by
      unfold sSeq sAsg
      rw [ev_app1 (ev_app2 (ev_var rfl) (ev_var rfl) ec) ep, Res.bind_ok, g_var (by simp)]
      simp only [Res.bind_ok, List.set_cons_succ, List.set_cons_zero]
      exact er]
    simp only [Res.bind_ok, st]
    simp [fr]
end SK

namespace DL
open PySem (PyData)
open LW
/-! ### plain data: numbers, texts, None, tuples and lists of these -/
mutual
def D.pl : D → Bool
  | .non => true
  | .int _ => true
  | .str cs => cs.all fun c => decide (c < 1114112)
  | .tup ds => pls ds
  | .fz ds => pls ds
  | _ => false
def pls : List D → Bool
  | [] => true
  | d :: ds => d.pl && pls ds
end
mutual
def D.dep : D → Nat
  | .tup ds => deps ds + 1
  | .fz ds => deps ds + 1
  | _ => 0
def deps : List D → Nat
  | [] => 0
  | d :: ds => max d.dep (deps ds)
end
mutual
theorem pl_py : ∀ x : D, x.pl = true → ∃ p, x.py = some p ∧ PyData.canLay0 p = true ∧ PyData.depth p ≤ x.dep ∧ x.low 0 = true
  | .non, _ => ⟨_, rfl, rfl, by simp [PyData.depth], rfl⟩
  | .int i, _ => ⟨_, rfl, rfl, by simp [PyData.depth], rfl⟩
  | .str cs, h => ⟨_, rfl, by simpa [D.pl, PyData.canLay0, PyData.strOk] using h, by simp [PyData.depth], rfl⟩
  | .tup ds, h => by
    obtain ⟨ps, h1, h2, h3, h4⟩ := pls_py ds (by simpa only [D.pl] using h)
    refine ⟨.tuple ps, by simp only [D.py, h1]; rfl, by simpa [PyData.canLay0] using h2, ?_, by simpa only [D.low] using h4⟩
    simp only [PyData.depth, D.dep]; omega
  | .fz ds, h => by
    obtain ⟨ps, h1, h2, h3, h4⟩ := pls_py ds (by simpa only [D.pl] using h)
    refine ⟨.list ps, by simp only [D.py, h1]; rfl, by simpa [PyData.canLay0] using h2, ?_, by simpa only [D.low] using h4⟩
    simp only [PyData.depth, D.dep]; omega
  | .bl _, h => by simp [D.pl] at h
  | .ro _, h => by simp [D.pl] at h
  | .ref _, h => by simp [D.pl] at h
  | .ty _, h => by simp [D.pl] at h
theorem pls_py : ∀ xs : List D, pls xs = true → ∃ ps, pys xs = some ps ∧ PyData.canLayAll0 ps = true ∧ PyData.depthAll ps ≤ deps xs ∧ lows 0 xs = true
  | [], _ => ⟨[], rfl, rfl, by simp [PyData.depthAll], rfl⟩
  | x :: xs, h => by
    simp only [pls, Bool.and_eq_true] at h
    obtain ⟨p, h1, h2, h3, h4⟩ := pl_py x h.1
    obtain ⟨ps, k1, k2, k3, k4⟩ := pls_py xs h.2
    refine ⟨p :: ps, by simp only [pys, h1, k1]; rfl, by simp [PyData.canLayAll0, h2, k2], ?_, by simp only [lows, h4, k4, Bool.and_self]⟩
    simp only [PyData.depthAll, deps]; omega
end
mutual
theorem pl_eqv : ∀ (x y : D) (p q : PyData), x.pl = true → y.pl = true → x.py = some p → y.py = some q → PyData.eqv p q = D.eq x y
  | x, y, p, q, hx, hy, ex, ey => by
    cases x <;> (first | (simp [D.pl] at hx; done) | skip) <;> cases y <;> (first | (simp [D.pl] at hy; done) | skip) <;>
      (simp only [D.py, Option.some.injEq, Option.map_eq_some_iff] at ex ey) <;>
      (try obtain ⟨ps, e1, rfl⟩ := ex) <;> (try obtain ⟨qs, e2, rfl⟩ := ey) <;> (try subst ex) <;> (try subst ey) <;> (first | rfl | skip)
    · simp only [PyData.eqv, D.eq, str_eq]
    · simp only [D.pl] at hx hy
      simp only [PyData.eqv, D.eq]; exact pls_eqv _ _ _ _ hx hy e1 e2
    · simp only [D.pl] at hx hy
      simp only [PyData.eqv, D.eq]; exact pls_eqv _ _ _ _ hx hy e1 e2
theorem pls_eqv : ∀ (xs ys : List D) (ps qs : List PyData), pls xs = true → pls ys = true → pys xs = some ps → pys ys = some qs → PyData.eqvAll ps qs = D.eqs xs ys
  | [], [], ps, qs, _, _, e1, e2 => by simp only [pys, Option.some.injEq] at e1 e2; subst e1 e2; rfl
  | [], y :: ys, ps, qs, _, hy, e1, e2 => by
    simp only [pys, Option.some.injEq, Option.bind_eq_some_iff, Option.map_eq_some_iff] at e1 e2
    obtain ⟨q, _, qs', _, rfl⟩ := e2
    subst e1; rfl
  | x :: xs, [], ps, qs, _, hy, e1, e2 => by
    simp only [pys, Option.some.injEq, Option.bind_eq_some_iff, Option.map_eq_some_iff] at e1 e2
    obtain ⟨q, _, qs', _, rfl⟩ := e1
    subst e2; rfl
  | x :: xs, y :: ys, ps, qs, hx, hy, e1, e2 => by
    simp only [pys, Option.bind_eq_some_iff, Option.map_eq_some_iff] at e1 e2
    obtain ⟨p, a1, ps', a2, rfl⟩ := e1
    obtain ⟨q, b1, qs', b2, rfl⟩ := e2
    simp only [pls, Bool.and_eq_true] at hx hy
    simp only [PyData.eqvAll, D.eqs, pl_eqv x y p q hx.1 hy.1 a1 b1, pls_eqv xs ys ps' qs' hx.2 hy.2 a2 b2]
end
theorem shaped_of {x : D} {p : PyData} (h : PyData.canLay0 p = true) (hd : PyData.depth p ≤ x.dep) (hx : x.dep ≤ 60) : PySem.SeqAt.shaped p = true := by
  unfold PySem.SeqAt.shaped
  simp only [h, Bool.true_and, decide_eq_true_eq]; omega
theorem eqS_pl {x y : D} {f : Bool → Bool} {M : Hep} : pEqS f x y M = none ∨ pEqS f x y M = some (.ok (.bl (f (D.eq x y))) M) := by
  cases x <;> cases y <;> first | exact .inl rfl | (right; simp [pEqS, D.eq])
/-- == of plain data -/
theorem eq_pl {x y : D} {M : Hep} (hx : x.pl = true) (hy : y.pl = true) (dx : x.dep ≤ 60) (dy : y.dep ≤ 60) : opEq x y M = .ok (.bl (D.eq x y)) M := by
  rcases eqS_pl (x := x) (y := y) (f := id) (M := M) with h | h
  · obtain ⟨p, a1, a2, a3, a4⟩ := pl_py x hx
    obtain ⟨q, b1, b2, b3, b4⟩ := pl_py y hy
    rw [eq_py (by rw [py_low a4]; exact a1) (by rw [py_low b4]; exact b1) (shaped_of a2 a3 dx) (shaped_of b2 b3 dy) h, pl_eqv x y p q hx hy a1 b1]
  · simp [opEq, PySem.W.Frag, P2.op, P2.or, h]
theorem ne_pl {x y : D} {M : Hep} (hx : x.pl = true) (hy : y.pl = true) (dx : x.dep ≤ 60) (dy : y.dep ≤ 60) : opNe x y M = .ok (.bl (!D.eq x y)) M := by
  rcases eqS_pl (x := x) (y := y) (f := not) (M := M) with h | h
  · obtain ⟨p, a1, a2, a3, a4⟩ := pl_py x hx
    obtain ⟨q, b1, b2, b3, b4⟩ := pl_py y hy
    rw [ne_py (by rw [py_low a4]; exact a1) (by rw [py_low b4]; exact b1) (shaped_of a2 a3 dx) (shaped_of b2 b3 dy) h, pl_eqv x y p q hx hy a1 b1]
  · simp [opNe, P2.op, P2.or, h]
theorem D.eq_iff (x y : D) : D.eq x y = true ↔ x = y := ⟨D.eq_of x y, fun h => by rw [h]; exact D.eq_self y⟩
theorem D.eq_dec {α : Type} {f : α → D} [DecidableEq α] (inj : ∀ a b, f a = f b → a = b) (a b : α) : D.eq (f a) (f b) = decide (a = b) := by
  rw [Bool.eq_iff_iff, D.eq_iff, decide_eq_true_eq]
  exact ⟨inj a b, fun h => by rw [h]⟩
/-! ### texts that are valid -/
def Val (x : PySem.Str) : Prop := ∀ c ∈ x.cps.toList, c < 1114112
theorem val_app {x y : PySem.Str} (hx : Val x) (hy : Val y) : Val (x ++ y) := by
  have e : (x ++ y).cps.toList = x.cps.toList ++ y.cps.toList := by
    show (PySem.Str.append x y).cps.toList = _
    unfold PySem.Str.append
    simp
  intro c hc
  rw [e] at hc
  rcases List.mem_append.mp hc with h | h
  · exact hx c h
  · exact hy c h
theorem char_lt (c : Char) : c.toNat < 1114112 := by
  have := c.valid
  rcases this with h | h
  · show c.val.toNat < _; omega
  · exact h.2
theorem val_of (s : String) : Val (PySem.Str.ofString s) := by
  rw [PySem.Str.ofString_eq_toList]
  intro c hc
  simp only [List.mem_map] at hc
  obtain ⟨d, _, rfl⟩ := hc
  exact char_lt d
theorem reprChar_lt {q c : Nat} (hq : q < 1114112) (hc : c < 1114112) : ∀ d ∈ PySem.Builtin.Str.reprChar q c, d < 1114112 := by
  have hex : ∀ w, ∀ d ∈ (List.replicate (w - ((Nat.toDigits 16 c).map Char.toNat).length) 48 ++ (Nat.toDigits 16 c).map Char.toNat), d < 1114112 := fun w d hd => by
    rcases List.mem_append.mp hd with h | h
    · rw [(List.mem_replicate.mp h).2]; decide
    · obtain ⟨x, _, rfl⟩ := List.mem_map.mp h
      exact char_lt x
  intro d hd
  unfold PySem.Builtin.Str.reprChar at hd
  simp only at hd
  have two : ∀ a b : Nat, a < 1114112 → b < 1114112 → d ∈ [a, b] → d < 1114112 := fun a b ha hb h => by
    rcases List.mem_cons.mp h with z | z
    · omega
    · rw [List.mem_singleton.mp z]; exact hb
  split at hd
  · exact two _ _ (by decide) hc hd
  split at hd
  · exact two _ _ (by decide) (by decide) hd
  split at hd
  · exact two _ _ (by decide) (by decide) hd
  split at hd
  · exact two _ _ (by decide) (by decide) hd
  split at hd
  · rw [List.mem_singleton.mp hd]; exact hc
  split at hd
  · rcases List.mem_append.mp hd with h | h
    · exact two _ _ (by decide) (by decide) h
    · exact hex 2 d h
  split at hd
  · rcases List.mem_append.mp hd with h | h
    · exact two _ _ (by decide) (by decide) h
    · exact hex 4 d h
  · rcases List.mem_append.mp hd with h | h
    · exact two _ _ (by decide) (by decide) h
    · exact hex 8 d h
theorem val_reprText {x : PySem.Str} (h : Val x) : Val (PySem.reprText x) := by
  have hq : PySem.reprQuote x < 1114112 := by unfold PySem.reprQuote; split <;> decide
  have main : ∀ (l : List Nat) (acc : Array Nat), (∀ c ∈ l, c < 1114112) → (∀ c ∈ acc.toList, c < 1114112) → ∀ c ∈ (l.foldl (fun out c => out ++ (PySem.Builtin.Str.reprChar (PySem.reprQuote x) c).toArray) acc).toList, c < 1114112 := by
    intro l
    induction l with
    | nil => intro acc _ h; exact h
    | cons a l ih =>
      intro acc hl ha
      refine ih _ (fun c hc => hl c (List.mem_cons_of_mem _ hc)) fun c hc => ?_
      simp only [Array.toList_append, List.mem_append] at hc
      rcases hc with z | z
      · exact ha c z
      · exact reprChar_lt hq (hl a List.mem_cons_self) c z
  intro c hc
  unfold PySem.reprText at hc
  simp only [Array.toList_push, List.mem_append, List.mem_singleton] at hc
  rcases hc with z | z
  · rw [← Array.foldl_toList] at z
    refine main x.cps.toList #[PySem.reprQuote x] h (fun c hc => ?_) c z
    simp at hc; omega
  · omega
theorem val_textFrom : ∀ (ts : List PySem.Str) (k : Nat) (acc : PySem.Str), (∀ t ∈ ts, Val t) → Val acc → Val (PySem.textFrom k acc ts)
  | [], k, acc, _, h => h
  | t :: ts, k, acc, ht, h => by
    unfold PySem.textFrom
    refine val_textFrom ts (k + 1) _ (fun x hx => ht x (List.mem_cons_of_mem _ hx)) (val_app (val_app h ?_) (ht t List.mem_cons_self))
    exact val_of _
theorem val_join {sep : PySem.Str} (hs : Val sep) : ∀ ts : List PySem.Str, (∀ t ∈ ts, Val t) → Val (PySem.Str.join sep ts)
  | [], _ => by intro c hc; cases hc
  | [x], h => h x List.mem_cons_self
  | x :: y :: r, h => by
    show Val (x ++ sep ++ PySem.Str.join sep (y :: r))
    exact val_app (val_app (h x List.mem_cons_self) hs) (val_join hs (y :: r) fun t ht => h t (List.mem_cons_of_mem _ ht))
mutual
theorem val_shown : ∀ p : PyData, plainP p = true → Val (PyData.shown p)
  | .none, _ => val_of _
  | .bool b, _ => by
    unfold PyData.shown
    split
    · exact val_of _
    · exact val_of _
  | .int i, _ => val_of _
  | .str x, h => by
    simp only [plainP, PyData.strOk] at h
    refine val_reprText fun c hc => ?_
    have := Array.all_eq_true_iff_forall_mem.mp h c (by simpa using hc)
    simpa using this
  | .list xs, h => by
    simp only [plainP] at h
    unfold PyData.shown PySem.listText
    exact val_app (val_textFrom _ _ _ (val_shownAll xs h) (val_of _)) (val_of _)
  | .tuple xs, h => by
    simp only [plainP] at h
    unfold PyData.shown PySem.tupleText
    exact val_app (val_app (val_of _) (val_join (val_of _) _ (val_shownAll xs h))) (val_of _)
  | .dict _, h => by simp [plainP] at h
theorem val_shownAll : ∀ xs : List PyData, plainPs xs = true → ∀ t ∈ PyData.shownAll xs, Val t
  | [], _, t, ht => by cases ht
  | x :: xs, h, t, ht => by
    simp only [plainPs, Bool.and_eq_true] at h
    unfold PyData.shownAll at ht
    rcases List.mem_cons.mp ht with z | z
    · rw [z]; exact val_shown x h.1
    · exact val_shownAll xs h.2 t z
end
end DL
namespace LW
open DL
theorem Showy.text {B d : Nat} {x : D} (h : Showy B d x) (hB : B ≤ 1000000) (hd : d ≤ 60) : ∃ s : List Nat, (∀ M, pRepr.op [x] M = .ok (.str s) M) ∧ (D.str s).pl = true := by
  obtain ⟨p, h⟩ := h
  refine ⟨p.shown.cps.toList, fun M => h.repr hB hd, ?_⟩
  have := val_shown p h.sm.pl
  simp only [D.pl, List.all_eq_true]
  exact fun c hc => decide_eq_true (this c hc)
end LW

namespace PR
open DL LW
/-! ### what a row does, as functions of ribbons -/
def actC (c : Cut) (p k : Nat) : Nat := if c.1 ≤ p then swapN c.2.1 c.2.2 k else k
def lineF : List Cut → Nat → Nat → Nat
  | [], _, k => k
  | c :: r, p, k => actC c p (lineF r p k)
theorem lineF_app (p k : Nat) : ∀ r s : List Cut, lineF (r ++ s) p k = lineF r p (lineF s p k)
  | [], s => rfl
  | c :: r, s => by rw [List.cons_append, lineF, lineF_app p k r s, lineF]
theorem swapN_inv (a b k : Nat) : swapN a b (swapN a b k) = k := by
  unfold swapN
  split
  · rename_i h; subst h
    by_cases h2 : b = k
    · rw [if_pos h2]; exact h2
    · rw [if_neg h2, if_pos rfl]
  · rename_i h
    by_cases h2 : k = b
    · rw [if_pos h2, if_pos rfl]; exact h2.symm
    · rw [if_neg h2, if_neg h, if_neg h2]
theorem swapN_comm (a b k : Nat) : swapN a b k = swapN b a k := by
  unfold swapN
  by_cases h : k = a
  · rw [if_pos h]
    by_cases h2 : k = b
    · rw [if_pos h2]; omega
    · rw [if_neg h2, if_pos h]
  · rw [if_neg h]
    by_cases h2 : k = b
    · rw [if_pos h2, if_pos h2]
    · rw [if_neg h2, if_neg h2, if_neg h]
theorem swapN_mm (a b k : Nat) : swapN (min a b) (max a b) k = swapN a b k := by
  by_cases h : a ≤ b
  · rw [Nat.min_eq_left h, Nat.max_eq_right h]
  · rw [Nat.min_eq_right (by omega), Nat.max_eq_left (by omega), swapN_comm]
theorem swapN_lt {a b k m : Nat} (ha : a < m) (hb : b < m) (hk : k < m) : swapN a b k < m := by
  unfold swapN
  split
  · exact hb
  · split
    · exact ha
    · exact hk
theorem swapN_conj {s : Nat → Nat} (hs : ∀ x y, s x = s y → x = y) (a b k : Nat) : swapN (s a) (s b) (s k) = s (swapN a b k) := by
  unfold swapN
  by_cases h : k = a
  · rw [if_pos h, if_pos (by rw [h])]
  · rw [if_neg h, if_neg (fun z => h (hs _ _ z))]
    by_cases h2 : k = b
    · rw [if_pos h2, if_pos (by rw [h2])]
    · rw [if_neg h2, if_neg (fun z => h2 (hs _ _ z))]
theorem inv_inj {f g : Nat → Nat} (h : ∀ k, g (f k) = k) {x y : Nat} (e : f x = f y) : x = y := by rw [← h x, e, h y]
theorem swapN_inj (a b : Nat) {x y : Nat} (e : swapN a b x = swapN a b y) : x = y := inv_inj (g := swapN a b) (swapN_inv a b) e
theorem actC_inv (c : Cut) (p k : Nat) : actC c p (actC c p k) = k := by
  unfold actC
  split
  · exact swapN_inv _ _ _
  · rfl
theorem actC_lt {m l k : Nat} {c : Cut} (p : Nat) (h : CutOk m l c) (hk : k < m) : actC c p k < m := by
  obtain ⟨h1, h2, h3⟩ := h
  unfold actC
  split
  · exact swapN_lt (by omega) h3 hk
  · exact hk
theorem lineF_lt {m l : Nat} (p : Nat) : ∀ {r : List Cut} {k : Nat}, (∀ c ∈ r, CutOk m l c) → k < m → lineF r p k < m
  | [], k, _, hk => hk
  | c :: r, k, h, hk => actC_lt p (h c List.mem_cons_self) (lineF_lt p (fun c hc => h c (List.mem_cons_of_mem _ hc)) hk)
theorem lineF_rev (p k : Nat) : ∀ r : List Cut, lineF r.reverse p (lineF r p k) = k
  | [] => rfl
  | c :: r => by rw [List.reverse_cons, lineF_app, lineF, lineF, lineF, actC_inv, lineF_rev p k r]
theorem lineF_rev' (p k : Nat) (r : List Cut) : lineF r p (lineF r.reverse p k) = k := by
  have := lineF_rev p k r.reverse
  rwa [List.reverse_reverse] at this
theorem lineF_inj (r : List Cut) (p : Nat) {x y : Nat} (e : lineF r p x = lineF r p y) : x = y := inv_inj (g := lineF r.reverse p) (fun k => lineF_rev p k r) e
theorem swapL_get {m a b j : Nat} {ln : List Nat} (hl : ln.length = m) (ha : a < m) (hb : b < m) (hj : j < m) : (swapL ln a b).getD j 0 = ln.getD (swapN a b j) 0 := by
  have hx := get_D (x := 0) (r := swapL ln a b) (p := j) (by rw [swapL_len]; omega)
  unfold swapL at hx ⊢
  unfold swapN
  rw [List.getElem?_set] at hx
  by_cases h : b = j
  · subst h
    rw [if_pos rfl, if_pos (by simp; omega)] at hx
    rw [← Option.some.inj hx]
    by_cases h2 : b = a
    · rw [if_pos h2, h2]
    · rw [if_neg h2, if_pos rfl]
  · rw [if_neg h, List.getElem?_set] at hx
    by_cases h2 : a = j
    · subst h2
      rw [if_pos rfl, if_pos (by omega)] at hx
      rw [← Option.some.inj hx, if_pos rfl]
    · rw [if_neg h2] at hx
      rw [if_neg (fun z => h2 z.symm), if_neg (fun z => h z.symm)]
      have hy := get_D (x := 0) (r := ln) (p := j) (by omega)
      rw [hy] at hx
      exact (Option.some.inj hx).symm
theorem lineT_gen {m l p : Nat} : ∀ (r : List Cut) (ln : List Nat), ln.length = m → (∀ c ∈ r, CutOk m l c) → r.foldl (fun ln c => if c.1 ≤ p then swapL ln c.2.1 c.2.2 else ln) ln = (List.range m).map fun k => ln.getD (lineF r p k) 0
  | [], ln, hl, _ => by
    rw [List.foldl_nil]
    refine List.ext_getElem (by simp [hl]) fun i h1 h2 => ?_
    simp [lineF, h1]
  | c :: r, ln, hl, h => by
    obtain ⟨h1, h2, h3⟩ := h c List.mem_cons_self
    rw [List.foldl_cons, lineT_gen r _ (by split; exact swapL_len.trans hl; exact hl) fun c hc => h c (List.mem_cons_of_mem _ hc)]
    refine List.map_congr_left fun k hk => ?_
    have hk := List.mem_range.mp hk
    have hf := lineF_lt p (fun c hc => h c (List.mem_cons_of_mem _ hc)) hk
    show _ = ln.getD (actC c p (lineF r p k)) 0
    unfold actC
    by_cases z : c.1 ≤ p
    · rw [if_pos z, if_pos z, swapL_get hl (by omega) h3 hf]
    · rw [if_neg z, if_neg z]
theorem lineT_F {m l p : Nat} {r : List Cut} (h : ∀ c ∈ r, CutOk m l c) : lineT m r p = (List.range m).map (lineF r p) := by
  unfold lineT
  rw [lineT_gen r _ (by simp) h]
  refine List.map_congr_left fun k hk => ?_
  have := lineF_lt p h (List.mem_range.mp hk)
  simp [this]
def doesT (m l : Nat) (r : List Cut) : List (List Nat) := (List.range l).map fun p => (List.range m).map (lineF r p)
theorem does_T {m l : Nat} {r : List Cut} {M : Hep} (hf : Flat M) (hm : 1 ≤ m) (hm' : m ≤ 5) (h1 : 1 ≤ l) (h2 : l ≤ 12) (hr : r.length < 1000) (hg : ∀ c ∈ r, CutOk m l c) : F_does [frD m l, rowD r] M = .ok (effD (doesT m l r)) M := by
  rw [PR.does_ok hf hm hm' h1 h2 hr hg, doesD_eq hg]
  unfold effD doesT
  rw [List.map_map]
  congr 3
  funext p
  show D.tup (lnD (lineT m r p)) = D.tup (lnD _)
  rw [lineT_F hg]
theorem map_range_inj {α : Type} {f g : Nat → α} : ∀ {n : Nat}, (List.range n).map f = (List.range n).map g ↔ ∀ k, k < n → f k = g k := by
  intro n
  constructor
  · intro h k hk
    have := congrArg (fun l => l[k]?) h
    simpa [hk] using this
  · intro h
    exact List.map_congr_left fun k hk => h k (List.mem_range.mp hk)
theorem doesT_eq {m l : Nat} {r s : List Cut} : doesT m l r = doesT m l s ↔ ∀ p, p < l → ∀ k, k < m → lineF r p k = lineF s p k := by
  unfold doesT
  rw [map_range_inj]
  constructor
  · intro h p hp; exact map_range_inj.mp (h p hp)
  · intro h p hp; exact map_range_inj.mpr (h p hp)
/-! ### exchanges keep what is done -/
theorem actC_called (c : Cut) (f : Nat → Nat) (p k : Nat) : actC (calledC c f) p k = if c.1 ≤ p then swapN (f c.2.1) (f c.2.2) k else k := by
  unfold actC calledC
  simp only [swapN_mm]
theorem twoX_F (a b : Cut) (p k : Nat) : lineF (twoX a b) p k = actC a p (actC b p k) := by
  have cj := fun x y : Nat => swapN_conj (s := swapN x y) (fun _ _ e => swapN_inj x y e)
  unfold twoX
  by_cases h : a.1 < b.1
  · rw [if_pos h]
    show actC (calledC b _) p (actC a p k) = _
    rw [actC_called]
    by_cases hb : b.1 ≤ p
    · rw [if_pos hb]
      unfold actC
      rw [if_pos (by omega), if_pos hb, if_pos (by omega), cj]
    · rw [if_neg hb]
      unfold actC
      rw [if_neg hb]
  · rw [if_neg h]
    show actC b p (actC (calledC a _) p k) = _
    rw [actC_called]
    by_cases ha : a.1 ≤ p
    · rw [if_pos ha]
      unfold actC
      rw [if_pos (by omega), if_pos ha, if_pos (by omega)]
      have := cj b.2.1 b.2.2 a.2.1 a.2.2 (swapN b.2.1 b.2.2 k)
      rw [swapN_inv] at this
      rw [this, swapN_inv]
    · rw [if_neg ha]
      unfold actC
      rw [if_neg ha]
theorem split_two {r : List Cut} {k : Nat} (hk : k + 1 < r.length) : r = r.take k ++ [r.getD k (0, 0, 0), r.getD (k + 1) (0, 0, 0)] ++ r.drop (k + 2) := by
  have h1 : r.drop k = r.getD k (0, 0, 0) :: r.drop (k + 1) := by
    rw [List.drop_eq_getElem_cons (by omega)]
    congr 1
    simp [show k < r.length by omega]
  have h2 : r.drop (k + 1) = r.getD (k + 1) (0, 0, 0) :: r.drop (k + 2) := by
    rw [List.drop_eq_getElem_cons hk]
    congr 1
    simp [hk]
  rw [List.append_assoc]
  show r = r.take k ++ (r.getD k (0, 0, 0) :: r.getD (k + 1) (0, 0, 0) :: r.drop (k + 2))
  rw [← h2, ← h1, List.take_append_drop]
theorem exch_F {r : List Cut} {k : Nat} (hk : k + 1 < r.length) (p j : Nat) : lineF (exchT r k) p j = lineF r p j := by
  have e : lineF r p j = lineF (r.take k ++ [r.getD k (0, 0, 0), r.getD (k + 1) (0, 0, 0)] ++ r.drop (k + 2)) p j := by rw [← split_two hk]
  rw [e]
  unfold exchT
  rw [lineF_app, lineF_app, twoX_F, lineF_app, lineF_app]
  rfl
theorem exch_len {k : Nat} {r : List Cut} (hk : k + 1 < r.length) : (exchT r k).length = r.length := by
  have : (twoX (r.getD k (0, 0, 0)) (r.getD (k + 1) (0, 0, 0))).length = 2 := by unfold twoX; split <;> rfl
  unfold exchT
  rw [List.length_append, List.length_append, this, List.length_take, List.length_drop]
  omega
theorem called_ok' {m l : Nat} {x : Cut} {f : Nat → Nat} (hx : CutOk m l x) (hf : ∀ a b, f a = f b → a = b) (hm : ∀ k, k < m → f k < m) : CutOk m l (calledC x f) := by
  obtain ⟨x1, x2, x3⟩ := hx
  have h1 := hm x.2.1 (by omega)
  have h2 := hm x.2.2 x3
  refine ⟨x1, ?_, ?_⟩
  · show min _ _ < max _ _
    have : f x.2.1 ≠ f x.2.2 := fun z => by have := hf _ _ z; omega
    omega
  · show max _ _ < m
    omega
theorem twoX_ok {m l : Nat} {a b : Cut} (ha : CutOk m l a) (hb : CutOk m l b) : ∀ c ∈ twoX a b, CutOk m l c := by
  have cal : ∀ x y : Cut, CutOk m l x → CutOk m l y → CutOk m l (calledC x (swapN y.2.1 y.2.2)) := fun x y hx hy =>
    called_ok' hx (fun _ _ e => swapN_inj _ _ e) fun k hk => swapN_lt (by have := hy.2.1; have := hy.2.2; omega) hy.2.2 hk
  intro c h
  unfold twoX at h
  split at h
  · rcases List.mem_cons.mp h with h | h
    · rw [h]; exact cal b a hb ha
    · rw [List.mem_singleton.mp h]; exact ha
  · rcases List.mem_cons.mp h with h | h
    · rw [h]; exact hb
    · rw [List.mem_singleton.mp h]; exact cal a b ha hb
theorem row_get {m l k : Nat} {r : List Cut} (hg : ∀ c ∈ r, CutOk m l c) (hk : k < r.length) : CutOk m l (r.getD k (0, 0, 0)) := hg _ (List.mem_of_getElem? (get_D (x := (0, 0, 0)) hk))
theorem exch_ok {m l k : Nat} {r : List Cut} (hg : ∀ c ∈ r, CutOk m l c) (hk : k + 1 < r.length) : ∀ c ∈ exchT r k, CutOk m l c := by
  intro c hc
  unfold exchT at hc
  rcases List.mem_append.mp hc with h | h
  · rcases List.mem_append.mp h with h | h
    · exact hg c (List.mem_of_mem_take h)
    · exact twoX_ok (row_get hg (by omega)) (row_get hg hk) c h
  · exact hg c (List.mem_of_mem_drop h)
/-! ### where two rows part -/
def partsT (m l : Nat) (r s : List Cut) : Option (Nat × Nat) := ((List.range l).flatMap fun p => (List.range m).map fun k => (p, k)).find? fun q => decide (lineF r q.1 q.2 ≠ lineF s q.1 q.2)
theorem parts_none {m l : Nat} {r s : List Cut} : partsT m l r s = none ↔ ∀ p, p < l → ∀ k, k < m → lineF r p k = lineF s p k := by
  unfold partsT
  rw [List.find?_eq_none]
  constructor
  · intro h p hp k hk
    have := h (p, k) (by simp; exact ⟨hp, hk⟩)
    simpa using this
  · intro h q hq
    simp only [List.mem_flatMap, List.mem_map, List.mem_range] at hq
    obtain ⟨p, hp, k, hk, rfl⟩ := hq
    simpa using h p hp k hk
theorem parts_comm {m l : Nat} {r s : List Cut} : partsT m l r s = partsT m l s r := by
  unfold partsT
  congr 1
  funext q
  rw [Bool.eq_iff_iff, decide_eq_true_eq, decide_eq_true_eq]
  exact ⟨fun h z => h z.symm, fun h z => h z.symm⟩
end PR

namespace DL
open PySem LW L2
/-- one turn, as it ends -/
def turnR (g : SemG) (b : SemS) (n0 : Nat) (d : D) (σ : Sl) (M : Hep) : Res (Fl × Sl) := (g n0 d σ M).bind fun σ1 M1 => b n0 σ1 M1
theorem forL_ret {g : SemG} {b : SemS} {it : Itm} {n1 n0 : Nat} {d r : D} {ds : List D} {σ σ3 : Sl} {M M3 : Hep} (hc : it.chk M = true) (h : turnR g b n0 d σ M = .ok (.rt r, σ3) M3) : forL g b it n1 n0 (d :: ds) σ M = .ok (.rt r, σ3) M3 := by
  unfold turnR at h
  rw [forL, if_pos hc]
  cases hg : g n0 d σ M with
  | stuck => rw [hg] at h; cases h
  | err c M1 => rw [hg] at h; cases h
  | ok σ1 M1 =>
    rw [hg] at h
    simp only [Res.bind_ok] at h ⊢
    rw [h]
    rfl
/-- a loop that may return -/
theorem for_find {g : SemG} {b : SemS} {n1 n0 : Nat} {α β : Type} {en : α → D} (S : β → Sl) (M : Hep) (f : α → Option D) : ∀ (xs : List α) (all : List D) (w : β),
    (∀ x w, x ∈ xs → (f x = none → ∃ w', turnF g b n1 n0 (en x) (S w) M = .ok (S w') M) ∧ (∀ d, f x = some d → ∃ σ, turnR g b n0 (en x) (S w) M = .ok (.rt d, σ) M)) →
    (xs.findSome? f = none → ∃ w', forL g b ⟨all, none⟩ n1 n0 (xs.map en) (S w) M = .ok (.nx, S w') M) ∧ (∀ d, xs.findSome? f = some d → ∃ σ, forL g b ⟨all, none⟩ n1 n0 (xs.map en) (S w) M = .ok (.rt d, σ) M)
  | [], all, w, _ => ⟨fun _ => ⟨w, by rw [List.map_nil, forL, if_pos (chk_none _ _)]⟩, fun d h => by simp at h⟩
  | x :: xs, all, w, hs => by
    obtain ⟨h1, h2⟩ := hs x w List.mem_cons_self
    have rest := fun w => for_find S M f xs all w fun y w hy => hs y w (List.mem_cons_of_mem _ hy)
    cases hx : f x with
    | none =>
      obtain ⟨w1, e1⟩ := h1 hx
      obtain ⟨r1, r2⟩ := rest w1
      rw [List.findSome?_cons, hx]
      refine ⟨fun h => ?_, fun d h => ?_⟩
      · obtain ⟨w', e'⟩ := r1 h
        exact ⟨w', by rw [List.map_cons, forL_turn (chk_none _ _) e1]; exact e'⟩
      · obtain ⟨σ, e'⟩ := r2 d h
        exact ⟨σ, by rw [List.map_cons, forL_turn (chk_none _ _) e1]; exact e'⟩
    | some d =>
      obtain ⟨σ, e1⟩ := h2 d hx
      rw [List.findSome?_cons, hx]
      refine ⟨fun h => by simp at h, fun d' h => ?_⟩
      cases h
      exact ⟨σ, by rw [List.map_cons]; exact forL_ret (chk_none _ _) e1⟩
/-- a fold, whatever else changes -/
theorem for_foldJ {g : SemG} {b : SemS} {n1 n0 : Nat} {α β γ : Type} {en : α → D} (st : β → α → β) (S : β → γ → Sl) (H : β → Hep) (P : Nat → β → Prop) : ∀ (xs : List α) (all : List D) (k : Nat) (x : β) (w : γ), P k x →
    (∀ i x w a, a ∈ xs → i < xs.length → P (k + i) x → P (k + i + 1) (st x a) ∧ ∃ w', turnF g b n1 n0 (en a) (S x w) (H x) = .ok (S (st x a) w') (H (st x a))) →
    ∃ w', forL g b ⟨all, none⟩ n1 n0 (xs.map en) (S x w) (H x) = .ok (.nx, S (xs.foldl st x) w') (H (xs.foldl st x)) ∧ P (k + xs.length) (xs.foldl st x)
  | [], all, k, x, w, h0, hs => ⟨w, by rw [List.map_nil, forL, if_pos (chk_none _ _)]; rfl, h0⟩
  | a :: xs, all, k, x, w, h0, hs => by
    obtain ⟨h1, w1, e1⟩ := hs 0 x w a List.mem_cons_self (by simp) h0
    obtain ⟨w', e', h'⟩ := for_foldJ st S H P xs all (k + 1) (st x a) w1 h1 fun i x w b hb hi hx => by
      have := hs (i + 1) x w b (List.mem_cons_of_mem _ hb) (by simp; omega) (by rw [show k + (i + 1) = k + 1 + i by omega]; exact hx)
      rw [show k + (i + 1) = k + 1 + i by omega] at this
      exact this
    exact ⟨w', by rw [List.map_cons, forL_turn (chk_none _ _) e1]; exact e', by rw [List.length_cons, show k + (xs.length + 1) = k + 1 + xs.length by omega]; exact h'⟩
@[simp] theorem rev_fz {m : Bool} {ds : List D} {M : Hep} : opRev m (.fz ds) M = mkLst m ds.reverse M := rfl
theorem rev_ref {m : Bool} {k : Nat} {ds : List D} {M : Hep} (h : M[k]? = some (.lst ds)) : opRev m (.ref k) M = mkLst m ds.reverse M := by simp [opRev, lst?, h]
theorem tuple_last {ds : List D} {M : Hep} : pTuple.op [.ref M.length] (M ++ [.lst ds]) = .ok (.tup ds) (M ++ [.lst ds]) := tuple_ref (by simp)
end DL
namespace PR
open DL LW
def spotD : Option (Nat × Nat) → D
  | none => .non
  | some (p, k) => .tup [.int (p : Int), .int (k : Int)]
theorem find_flat {α β : Type} (q : α × β → Bool) (f : α → List β) : ∀ xs : List α, (xs.flatMap fun p => (f p).map fun k => (p, k)).find? q = xs.findSome? fun p => ((f p).find? fun k => q (p, k)).map fun k => (p, k)
  | [] => rfl
  | x :: xs => by
    rw [List.flatMap_cons, List.find?_append, List.find?_map, find_flat q f xs, List.findSome?_cons]
    show (Option.map (fun k => (x, k)) (List.find? (fun k => q (x, k)) (f x))).or _ = _
    cases List.find? (fun k => q (x, k)) (f x) <;> rfl
theorem findSome_map {α β γ : Type} (g : β → γ) (f : α → Option β) : ∀ xs : List α, (xs.findSome? f).map g = xs.findSome? fun x => (f x).map g
  | [] => rfl
  | x :: xs => by
    rw [List.findSome?_cons, List.findSome?_cons]
    cases f x with
    | none => exact findSome_map g f xs
    | some y => rfl
end PR

namespace PR
open DL LW
theorem dT_ix {m l p : Nat} {r : List Cut} {M : Hep} (hp : p < l) : opIx (effD (doesT m l r)) (.int (p : Int)) M = .ok (.tup (lnD ((List.range m).map (lineF r p)))) M := by
  unfold effD doesT
  exact ix_tup (by simp [hp])
theorem fn_ix {m k : Nat} {f : Nat → Nat} {M : Hep} (hk : k < m) : opIx (.tup (lnD ((List.range m).map f))) (.int (k : Int)) M = .ok (.int (f k : Int)) M := ix_tup (by simp [lnD, hk])
@[simp] theorem spot_low (o : Option (Nat × Nat)) : (spotD o).low 0 = true := by
  cases o with
  | none => rfl
  | some q => rfl
theorem parts_ok {m l : Nat} {r s : List Cut} {M : Hep} (hf : Flat M) (h1 : 1 ≤ m) (h2 : m ≤ 5) (h3 : 1 ≤ l) (h4 : l ≤ 12) (hr : r.length < 1000) (hs : s.length < 1000) (hg : ∀ c ∈ r, CutOk m l c) (hg' : ∀ c ∈ s, CutOk m l c) :
    F_parts [frD m l, rowD r, rowD s] M = .ok (spotD (partsT m l r s)) M := by
  have e1 := does_T (M := M) hf h1 h2 h3 h4 hr hg
  have e2 := does_T (M := M) hf h1 h2 h3 h4 hs hg'
  let q : Nat × Nat → Bool := fun q => decide (lineF r q.1 q.2 ≠ lineF s q.1 q.2)
  let S : Option D × Option D → Sl := fun w => [some (frD m l), some (rowD r), some (rowD s), some (effD (doesT m l r)), some (effD (doesT m l s)), some (.int (m : Int)), some (.int (l : Int)), w.1, w.2]
  let BI : SemS := sIf (tOf (eBin opNe (eBin opIx (eBin opIx (eVar 3) (eVar 7)) (eVar 8)) (eBin opIx (eBin opIx (eVar 4) (eVar 7)) (eVar 8)))) (sRet (eApp mkTup (lCons (eVar 7) (lCons (eVar 8) lNil)))) sNil
  have hn : M.length ≤ M.length := Nat.le_refl _
  have inner : ∀ (p : Nat) (w : Option D), p < l → _ := fun p w hp => for_find (g := DL.gVar 8) (b := BI) (n1 := M.length) (n0 := M.length) (en := fun k : Nat => .int (k : Int)) (fun w8 : Option D => S (some (.int (p : Int)), w8)) M
    (fun k => if q (p, k) then some (.tup [.int (p : Int), .int (k : Int)]) else none) (List.range m) (natsD m) w fun k w8 hk => by
      have hk := List.mem_range.mp hk
      have a1 := dT_ix (m := m) (r := r) (M := M) hp
      have a2 := dT_ix (m := m) (r := s) (M := M) hp
      have b1 := fn_ix (f := lineF r p) (M := M) hk
      have b2 := fn_ix (f := lineF s p) (M := M) hk
      refine ⟨fun h => ?_, fun d h => ?_⟩
      · have hq : lineF r p k = lineF s p k := by
          by_cases z : lineF r p k = lineF s p k
          · exact z
          · simp [q, z] at h
        refine ⟨some (.int (k : Int)), ?_⟩
        simp -implicitDefEqProofs [turnF, S, BI, a1, a2, b1, b2, hq]
      · have hq : ¬ lineF r p k = lineF s p k := fun z => by simp [q, z] at h
        have hd : d = .tup [.int (p : Int), .int (k : Int)] := by simp [q, hq] at h; exact h.symm
        subst hd
        refine ⟨S (some (.int (p : Int)), some (.int (k : Int))), ?_⟩
        have hq' : ¬ (lineF r p k : Int) = (lineF s p k : Int) := by omega
        simp -implicitDefEqProofs [turnR, S, BI, a1, a2, b1, b2, hq']
  have outer := for_find (g := DL.gVar 7) (b := sFor (iRng (lCons (eVar 5) lNil)) (DL.gVar 8) BI) (n1 := M.length) (n0 := M.length) (en := fun p : Nat => .int (p : Int)) S M
    (fun p => ((List.range m).find? fun k => q (p, k)).map fun k : Nat => D.tup [.int (p : Int), .int (k : Int)]) (List.range l) (natsD l) (none, none) fun p w hp => by
      have hp := List.mem_range.mp hp
      obtain ⟨i1, i2⟩ := inner p w.2 hp
      have fs : (List.range m).findSome? (fun k => if q (p, k) then some (D.tup [.int (p : Int), .int (k : Int)]) else none) = ((List.range m).find? fun k => q (p, k)).map fun k : Nat => D.tup [.int (p : Int), .int (k : Int)] := by
        generalize List.range m = L
        induction L with
        | nil => rfl
        | cons x xs ih =>
          rw [List.findSome?_cons, List.find?_cons]
          cases hq : q (p, x) with
          | true => rfl
          | false => exact ih
      rw [fs] at i1 i2
      have rg : iRng (lCons (eVar 5) lNil) M.length (S (some (.int (p : Int)), w.2)) M = .ok ⟨natsD m, none⟩ M := SK.rng_nat (ls_cons (ev_var rfl) ls_nil) (by omega)
      have g7 : DL.gVar 7 M.length (.int (p : Int)) (S w) M = .ok (S (some (.int (p : Int)), w.2)) M := rfl
      refine ⟨fun h => ?_, fun d h => ?_⟩
      · obtain ⟨w', e⟩ := i1 h
        refine ⟨(some (.int (p : Int)), w'), ?_⟩
        unfold turnF
        rw [g7, Res.bind_ok, r_for, rg, Res.bind_ok, show natsD m = (List.range m).map fun k : Nat => .int (k : Int) from rfl]
        rw [show natsD m = (List.range m).map fun k : Nat => .int (k : Int) from rfl] at e
        rw [e, Res.bind_ok]
        simp only [settle_in hn]
      · obtain ⟨σ, e⟩ := i2 d h
        refine ⟨σ, ?_⟩
        unfold turnR
        rw [g7, Res.bind_ok, r_for, rg, Res.bind_ok]
        exact e
  have fl : (List.range l).findSome? (fun p => ((List.range m).find? fun k => q (p, k)).map fun k : Nat => D.tup [.int (p : Int), .int (k : Int)]) = (partsT m l r s).map fun q => D.tup [.int (q.1 : Int), .int (q.2 : Int)] := by
    unfold partsT
    rw [find_flat, findSome_map]
    congr 1
    funext p
    rw [Option.map_map]
    rfl
  rw [fl] at outer
  obtain ⟨o1, o2⟩ := outer
  refine run_eq rfl ?_
  have rg : iRng (lCons (eVar 6) lNil) M.length (S (none, none)) M = .ok ⟨natsD l, none⟩ M := SK.rng_nat (ls_cons (ev_var rfl) ls_nil) (by omega)
  have s5 : (gLen 2 (DL.gCons (DL.gVar 5) (DL.gCons (DL.gVar 6) DL.gNil))) M.length (frD m l) [some (frD m l), some (rowD r), some (rowD s), some (effD (doesT m l r)), some (effD (doesT m l s)), none, none, none, none] M = .ok (S (none, none)) M := rfl
  cases hx : partsT m l r s with
  | none =>
    rw [hx] at o1
    obtain ⟨w', e⟩ := o1 rfl
    have e' : forL (DL.gVar 7) (sFor (iRng (lCons (eVar 5) lNil)) (DL.gVar 8) BI) ⟨natsD l, none⟩ M.length M.length (natsD l) (S (none, none)) M = .ok (.nx, S w') M := e
    simp -implicitDefEqProofs [-r_rng1, -r_glen, B_parts, e1, e2, s5, rg]
    rw [e']
    simp -implicitDefEqProofs [spotD]
  | some v =>
    rw [hx] at o2
    obtain ⟨σ, e⟩ := o2 _ rfl
    have e' : forL (DL.gVar 7) (sFor (iRng (lCons (eVar 5) lNil)) (DL.gVar 8) BI) ⟨natsD l, none⟩ M.length M.length (natsD l) (S (none, none)) M = .ok (.rt (spotD (some v)), σ) M := e
    simp -implicitDefEqProofs [-r_rng1, -r_glen, B_parts, e1, e2, s5, rg]
    rw [e']
    simp -implicitDefEqProofs
end PR

namespace PR
open DL LW
/-! ### the row of rising places -/
/-- how the cuts at this place, behind, call a ribbon -/
def bn (pl : Nat) : List Cut → Nat → Nat
  | [], k => k
  | c :: cs, k => if c.1 = pl then bn pl cs (swapN c.2.1 c.2.2 k) else bn pl cs k
def btT (pl : Nat) : List Cut → List Cut
  | [] => []
  | c :: cs => if c.1 = pl then btT pl cs else calledC c (bn pl cs) :: btT pl cs
theorem bn_lt {m l pl : Nat} : ∀ {cs : List Cut} {k : Nat}, (∀ c ∈ cs, CutOk m l c) → k < m → bn pl cs k < m
  | [], k, _, hk => hk
  | c :: cs, k, h, hk => by
    unfold bn
    obtain ⟨h1, h2, h3⟩ := h c List.mem_cons_self
    split
    · exact bn_lt (fun c hc => h c (List.mem_cons_of_mem _ hc)) (swapN_lt (by omega) h3 hk)
    · exact bn_lt (fun c hc => h c (List.mem_cons_of_mem _ hc)) hk
theorem bn_inj (pl : Nat) : ∀ (cs : List Cut) {x y : Nat}, bn pl cs x = bn pl cs y → x = y
  | [], x, y, e => e
  | c :: cs, x, y, e => by
    unfold bn at e
    split at e
    · exact swapN_inj _ _ (bn_inj pl cs e)
    · exact bn_inj pl cs e
theorem btT_ok {m l pl : Nat} : ∀ {cs : List Cut}, (∀ c ∈ cs, CutOk m l c) → ∀ c ∈ btT pl cs, CutOk m l c
  | [], _, c, hc => by cases hc
  | c0 :: cs, h, c, hc => by
    have hcs : ∀ c ∈ cs, CutOk m l c := fun c hc => h c (List.mem_cons_of_mem _ hc)
    unfold btT at hc
    split at hc
    · exact btT_ok hcs c hc
    · rcases List.mem_cons.mp hc with z | z
      · rw [z]
        exact called_ok' (h c0 List.mem_cons_self) (fun _ _ e => bn_inj pl cs e) fun k hk => bn_lt hcs hk
      · exact btT_ok hcs c z
theorem btT_len (pl : Nat) : ∀ cs : List Cut, (btT pl cs).length = (cs.filter fun c => decide (c.1 ≠ pl)).length
  | [] => rfl
  | c :: cs => by
    unfold btT
    by_cases h : c.1 = pl
    · rw [if_pos h, List.filter_cons, if_neg (by simpa using h), btT_len pl cs]
    · rw [if_neg h, List.filter_cons, if_pos (by simpa using h), List.length_cons, List.length_cons, btT_len pl cs]
/-- a step from behind -/
def bst (pl : Nat) (s : List Nat × List Cut) (c : Cut) : List Nat × List Cut := if c.1 = pl then (swapL s.1 c.2.1 c.2.2, s.2) else (s.1, s.2 ++ [calledC c fun k => s.1.getD k 0])
theorem bst_eq {m l pl : Nat} : ∀ cs : List Cut, (∀ c ∈ cs, CutOk m l c) → cs.reverse.foldl (bst pl) (List.range m, []) = ((List.range m).map (bn pl cs), (btT pl cs).reverse)
  | [], _ => by
    simp only [List.reverse_nil, List.foldl_nil, btT]
    congr 1
    refine (List.ext_getElem (by simp) fun i h1 h2 => ?_)
    simp [bn]
  | c :: cs, h => by
    have hcs : ∀ c ∈ cs, CutOk m l c := fun c hc => h c (List.mem_cons_of_mem _ hc)
    obtain ⟨h1, h2, h3⟩ := h c List.mem_cons_self
    rw [List.reverse_cons, List.foldl_append, bst_eq cs hcs]
    show bst pl _ c = _
    unfold bst
    by_cases z : c.1 = pl
    · rw [if_pos z]
      simp only [btT, if_pos z]
      congr 1
      refine List.ext_getElem (by simp [swapL_len]) fun i hi1 hi2 => ?_
      have hi : i < m := by simpa using hi2
      have := swapL_get (m := m) (ln := (List.range m).map (bn pl cs)) (by simp) (show c.2.1 < m by omega) h3 hi
      have sw := swapN_lt (a := c.2.1) (b := c.2.2) (k := i) (m := m) (by omega) h3 hi
      simp [hi1, sw] at this
      rw [this]
      simp [bn, z]
    · rw [if_neg z]
      simp only [btT, if_neg z, List.reverse_cons]
      congr 1
      · refine List.map_congr_left fun k _ => ?_
        simp [bn, z]
      · congr 2
        unfold calledC
        simp [show c.2.1 < m by omega, h3]
theorem ixN_nat {n k : Nat} (h : k < n) : L2.ixN n (k : Int) = some k := ixN_lt (k := n) (i := (k : Int)) (by omega) (by omega)
theorem called_ref {c : Cut} {names : List Nat} {M : Hep} {q : Nat} (hq : M[q]? = some (.lst (lnD names))) (h1 : c.2.1 < names.length) (h2 : c.2.2 < names.length) : F__called [LW.cutD c, .ref q] M = .ok (LW.cutD (calledC c fun k => names.getD k 0)) M := by
  refine run_eq rfl ?_
  have x1 : opIx (.ref q) (.int (c.2.1 : Int)) M = .ok (.int ((names.getD c.2.1 0 : Nat) : Int)) M := ix_ref hq (lnD_get h1)
  have x2 : opIx (.ref q) (.int (c.2.2 : Int)) M = .ok (.int ((names.getD c.2.2 0 : Nat) : Int)) M := ix_ref hq (lnD_get h2)
  have s := sort_fz (M := M) (m := false) (ks := [((names.getD c.2.1 0 : Nat) : Int), ((names.getD c.2.2 0 : Nat) : Int)])
  rw [sort2] at s
  simp only [List.map_cons, List.map_nil] at s
  simp -implicitDefEqProofs [-List.getD_eq_getElem?_getD, B__called, LW.cutD, x1, x2, s, D.low, lows, calledC]
def BB : SemS := sSeq (sAsg (eVar 5) (gLen 3 (DL.gCons (DL.gVar 6) (DL.gCons (DL.gVar 7) (DL.gCons (DL.gVar 8) DL.gNil))))) (sIf (tOf (eBin opEq (eVar 6) (eVar 2))) (sAsg (eApp mkTup (lCons (eBin opIx (eVar 3) (eVar 8)) (lCons (eBin opIx (eVar 3) (eVar 7)) lNil))) (gLen 2 (DL.gCons (DL.gSub (eVar 3) (eVar 7)) (DL.gCons (DL.gSub (eVar 3) (eVar 8)) DL.gNil)))) (sDrop (eMt isLst mApp (eVar 4) (lCons (eApp PR.F__called (lCons (eVar 5) (lCons (eVar 3) lNil))) lNil))))
theorem bturn {m l pl : Nat} {L T : List Nat} {R : List Cut} {c : Cut} {M : Hep} {a0 a1 w5 w6 w7 w8 : Option D} (hL : L.length = m) (hR : R.length < 1000) (hc : CutOk m l c) :
    turnF (DL.gVar 5) BB (M.length + 1 + 1) M.length (LW.cutD c) [a0, a1, some (.int (pl : Int)), some (.ref M.length), some (.ref (M.length + 1)), w5, w6, w7, w8] (M ++ [.lst (lnD L), .lst (R.map LW.cutD)]) =
      .ok [a0, a1, some (.int (pl : Int)), some (.ref M.length), some (.ref (M.length + 1)), some (LW.cutD c), some (.int (c.1 : Int)), some (.int (c.2.1 : Int)), some (.int (c.2.2 : Int))] (M ++ [.lst (lnD (bst pl (L, R) c).1), .lst ((bst pl (L, R) c).2.map LW.cutD)]) := by
  obtain ⟨h1, h2, h3⟩ := hc
  have lR : R.length < 1000000 := by omega
  have x1 : opIx (.ref M.length) (.int (c.2.1 : Int)) (M ++ [.lst (lnD L), .lst (R.map LW.cutD)]) = .ok (.int ((L.getD c.2.1 0 : Nat) : Int)) (M ++ [.lst (lnD L), .lst (R.map LW.cutD)]) := ix_ref (by simp) (lnD_get (by omega))
  have x2 : opIx (.ref M.length) (.int (c.2.2 : Int)) (M ++ [.lst (lnD L), .lst (R.map LW.cutD)]) = .ok (.int ((L.getD c.2.2 0 : Nat) : Int)) (M ++ [.lst (lnD L), .lst (R.map LW.cutD)]) := ix_ref (by simp) (lnD_get (by omega))
  have i1 := ixN_nat (n := m) (k := c.2.1) (by omega)
  have i2 := ixN_nat (n := m) (k := c.2.2) h3
  have cr := called_ref (c := c) (names := L) (M := M ++ [.lst (lnD L), .lst (R.map LW.cutD)]) (q := M.length) (by simp) (by omega) (by omega)
  have g3 : gLen 3 (DL.gCons (DL.gVar 6) (DL.gCons (DL.gVar 7) (DL.gCons (DL.gVar 8) DL.gNil))) M.length (LW.cutD c) [a0, a1, some (.int (pl : Int)), some (.ref M.length), some (.ref (M.length + 1)), some (LW.cutD c), w6, w7, w8] (M ++ [.lst (lnD L), .lst (R.map LW.cutD)]) = .ok [a0, a1, some (.int (pl : Int)), some (.ref M.length), some (.ref (M.length + 1)), some (LW.cutD c), some (.int (c.1 : Int)), some (.int (c.2.1 : Int)), some (.int (c.2.2 : Int))] (M ++ [.lst (lnD L), .lst (R.map LW.cutD)]) := rfl
  by_cases z : c.1 = pl
  · have z' : (c.1 : Int) = pl := by omega
    simp -implicitDefEqProofs [-List.getD_eq_getElem?_getD, -r_glen, turnF, BB, g3, z', LX.cast_eq, z]
    simp -implicitDefEqProofs [-List.getD_eq_getElem?_getD, ← z, x1, x2, i1, i2, lnD_set, bst, swapL, hL]
  · have z' : ¬ (c.1 : Int) = pl := by omega
    simp -implicitDefEqProofs [-List.getD_eq_getElem?_getD, -r_glen, turnF, BB, g3, z', cr, lR, bst, z]
theorem behind_at_ok {m l pl : Nat} {cs : List Cut} {M : Hep} (hm : m ≤ 5) (hl : cs.length < 1000) (hg : ∀ c ∈ cs, CutOk m l c) : F__behind_those_at [.int (m : Int), .fz (cs.map LW.cutD), .int (pl : Int)] M = .ok (.fz ((btT pl cs).map LW.cutD)) M := by
  let S : (List Nat × List Cut) → (Option D × Option D × Option D × Option D) → Sl := fun _ w => [some (.int (m : Int)), some (.fz (cs.map LW.cutD)), some (.int (pl : Int)), some (.ref M.length), some (.ref (M.length + 1)), w.1, w.2.1, w.2.2.1, w.2.2.2]
  let Hh : (List Nat × List Cut) → Hep := fun s => M ++ [.lst (lnD s.1), .lst (s.2.map LW.cutD)]
  obtain ⟨w', e, _⟩ := for_foldJ (g := DL.gVar 5) (n1 := M.length + 1 + 1) (n0 := M.length) (en := LW.cutD) (b := BB) (bst pl) S Hh (fun k s => s.1.length = m ∧ s.2.length ≤ k) cs.reverse (cs.reverse.map LW.cutD) 0 (List.range m, []) (none, none, none, none) ⟨by simp, by simp⟩ (by
      rintro i ⟨L, R⟩ w c hc hi ⟨hL, hR⟩
      have hc := hg c (List.mem_reverse.mp hc)
      have hL : L.length = m := hL
      have hR : R.length ≤ 0 + i := hR
      rw [List.length_reverse] at hi
      refine ⟨?_, (some (LW.cutD c), some (.int (c.1 : Int)), some (.int (c.2.1 : Int)), some (.int (c.2.2 : Int))), bturn (T := L) hL (by omega) hc⟩
      unfold bst
      split
      · exact ⟨swapL_len.trans hL, by show R.length ≤ _; omega⟩
      · exact ⟨hL, by show (R ++ [_]).length ≤ _; rw [List.length_append, List.length_singleton]; omega⟩)
  rw [bst_eq cs hg] at e
  refine run_eq rfl ?_
  have b1 : (m : Int) ≤ 100000 := by omega
  have b3 : -1000 ≤ (m : Int) := by omega
  have b2 : m ≤ 1000000 := by omega
  have lb : (btT pl cs).length ≤ 1000000 := by
    rw [btT_len]
    have := List.length_filter_le (fun c : Cut => decide (c.1 ≠ pl)) cs
    omega
  have lc : cs.length ≤ 1000000 := by omega
  have e' : forL (DL.gVar 5) BB ⟨cs.reverse.map LW.cutD, none⟩ (M.length + 1 + 1) M.length (cs.reverse.map LW.cutD) [some (.int (m : Int)), some (.fz (cs.map LW.cutD)), some (.int (pl : Int)), some (.ref M.length), some (.ref (M.length + 1)), none, none, none, none] (M ++ [.lst (lnD (List.range m)), .lst []]) = .ok (.nx, [some (.int (m : Int)), some (.fz (cs.map LW.cutD)), some (.int (pl : Int)), some (.ref M.length), some (.ref (M.length + 1)), w'.1, w'.2.1, w'.2.2.1, w'.2.2.2]) (M ++ [.lst (lnD ((List.range m).map (bn pl cs))), .lst ((btT pl cs).reverse.map LW.cutD)]) := e
  unfold BB at e'
  have lowR : lows 0 ((btT pl cs).map LW.cutD) = true := lows_map low_cut _
  simp -implicitDefEqProofs [-List.map_reverse, B__behind_those_at, b1, b2, b3, natsD_ln, lc]
  rw [← List.map_reverse, e']
  have rr := rev_ref (m := false) (M := M ++ [.lst (lnD ((List.range m).map (bn pl cs))), .lst ((btT pl cs).map LW.cutD).reverse]) (k := M.length + 1) (ds := ((btT pl cs).map LW.cutD).reverse) (by simp)
  simp -implicitDefEqProofs [rr, lb, lowR]
end PR

namespace PR
open DL LW
def rst (s : List Cut × List Cut) (p : Nat) : List Cut × List Cut := (btT p s.1, s.2 ++ s.1.filter fun c => decide (c.1 = p))
def risT (l : Nat) (r : List Cut) : List Cut := ((List.range l).foldl rst (r, [])).2
theorem filt_two {α : Type} (q : α → Bool) : ∀ xs : List α, (xs.filter fun x => !q x).length + (xs.filter q).length = xs.length
  | [] => rfl
  | x :: xs => by
    have := filt_two q xs
    rw [List.filter_cons, List.filter_cons, List.length_cons]
    cases q x <;> simp <;> omega
def RB : SemS := (sSeq (sDrop (eMt isLst mExt (eVar 5) (lCons (eLc false false [7] (iSeq (eVar 4)) (gVar 7) (tOf (eBin opEq (eBin opIx (eVar 7) (eC (.int 0))) (eVar 6))) (eVar 7)) lNil))) (sAsg (eApp PR.F__behind_those_at (lCons (eVar 2) (lCons (eVar 4) (lCons (eVar 6) lNil)))) (gVar 4)))
theorem rturn {m l p : Nat} {cs ts : List Cut} {M : Hep} {a0 a1 a3 w6 w7 : Option D} (hf : Flat M) (h2 : m ≤ 5) (hl : cs.length + ts.length < 1000) (hg : ∀ c ∈ cs, CutOk m l c) :
    turnF (DL.gVar 6) RB (M.length + 1) M.length (.int (p : Int)) [a0, a1, some (.int (m : Int)), a3, some (.fz (cs.map LW.cutD)), some (.ref M.length), w6, w7] (M ++ [.lst (ts.map LW.cutD)]) =
      .ok [a0, a1, some (.int (m : Int)), a3, some (.fz ((btT p cs).map LW.cutD)), some (.ref M.length), some (.int (p : Int)), w7] (M ++ [.lst ((ts ++ cs.filter fun c => decide (c.1 = p)).map LW.cutD)]) := by
  have g6 : DL.gVar 6 M.length (.int (p : Int)) [a0, a1, some (.int (m : Int)), a3, some (.fz (cs.map LW.cutD)), some (.ref M.length), w6, w7] (M ++ [.lst (ts.map LW.cutD)]) = .ok [a0, a1, some (.int (m : Int)), a3, some (.fz (cs.map LW.cutD)), some (.ref M.length), some (.int (p : Int)), w7] (M ++ [.lst (ts.map LW.cutD)]) := rfl
  have low2 : lows 0 (ts.map LW.cutD) = true := lows_map low_cut _
  have fl : Flat (M ++ [.lst (ts.map LW.cutD)]) := flat_app hf low2
  have lc := lc_map (vs := [7]) (n0 := M.length) (σ := [a0, a1, some (.int (m : Int)), a3, some (.fz (cs.map LW.cutD)), some (.ref M.length), some (.int (p : Int)), w7]) (fi := iSeq (eVar 4)) (g := DL.gVar 7) (tt := tOf (eBin opEq (eBin opIx (eVar 7) (eC (.int 0))) (eVar 6))) (te := eVar 7) (M := M ++ [.lst (ts.map LW.cutD)]) (M1 := M ++ [.lst (ts.map LW.cutD)]) cs LW.cutD LW.cutD (fun c => decide (c.1 = p)) rfl (by simp) fl (by omega) (fun c _ _ => low_cut c) fun c acc hc hfl => by
    refine ⟨[a0, a1, some (.int (m : Int)), a3, some (.fz (cs.map LW.cutD)), some (.ref M.length), some (.int (p : Int)), some (LW.cutD c)], rfl, ?_, fun _ => rfl⟩
    by_cases z : c.1 = p
    · simp -implicitDefEqProofs [LW.cutD, z]
    · have z' : ¬ (c.1 : Int) = p := by omega
      simp -implicitDefEqProofs [LW.cutD, z, z']
  have bt := fun M' => behind_at_ok (M := M') (pl := p) h2 (by omega) hg
  unfold turnF
  rw [g6, Res.bind_ok]
  have fl2 := List.length_filter_le (fun c : Cut => decide (c.1 = p)) cs
  have sf : strFits (ts.length + (cs.filter fun c => decide (c.1 = p)).length) = true := by
    unfold strFits
    simp only [decide_eq_true_eq]
    unfold PySem.sizeLine
    omega
  simp -implicitDefEqProofs [RB, lc, bt, sf]
theorem rising_ok {m l : Nat} {r : List Cut} {M : Hep} (hf : Flat M) (h1 : 1 ≤ m) (h2 : m ≤ 5) (h3 : 1 ≤ l) (h4 : l ≤ 12) (hr : r.length < 1000) (hg : ∀ c ∈ r, CutOk m l c) :
    F_rising [frD m l, rowD r] M = .ok (rowD (risT l r)) M := by
  let S : (List Cut × List Cut) → (Option D × Option D) → Sl := fun s w => [some (frD m l), some (rowD r), some (.int (m : Int)), some (.int (l : Int)), some (.fz (s.1.map LW.cutD)), some (.ref M.length), w.1, w.2]
  let Hh : (List Cut × List Cut) → Hep := fun s => M ++ [.lst (s.2.map LW.cutD)]
  obtain ⟨w', e, hP⟩ := for_foldJ (g := DL.gVar 6) (n1 := M.length + 1) (n0 := M.length) (en := fun p : Nat => D.int (p : Int)) (b := RB) rst S Hh (fun _ s => s.1.length + s.2.length ≤ r.length ∧ ∀ c ∈ s.1, CutOk m l c) (List.range l) (natsD l) 0 (r, []) (none, none) ⟨by simp, hg⟩ (by
      rintro i ⟨cs, ts⟩ w p _ _ ⟨hL, hR⟩
      have hL : cs.length + ts.length ≤ r.length := hL
      refine ⟨⟨?_, btT_ok hR⟩, (some (.int (p : Int)), w.2), rturn hf h2 (by omega) hR⟩
      show (btT p cs).length + (ts ++ _).length ≤ _
      rw [btT_len, List.length_append]
      have := filt_two (fun c : Cut => decide (c.1 = p)) cs
      have e : (cs.filter fun c => decide (c.1 ≠ p)) = cs.filter fun c => !decide (c.1 = p) := by simp
      rw [e]
      show _ + (ts.length + (cs.filter _).length) ≤ _
      omega)
  have e' : forL (DL.gVar 6) RB ⟨natsD l, none⟩ (M.length + 1) M.length (natsD l) [some (frD m l), some (rowD r), some (.int (m : Int)), some (.int (l : Int)), some (.fz (r.map LW.cutD)), some (.ref M.length), none, none] (M ++ [.lst []]) = .ok (.nx, S ((List.range l).foldl rst (r, [])) w') (M ++ [.lst ((risT l r).map LW.cutD)]) := e
  have ln : (risT l r).length ≤ r.length := by
    have := hP.1
    show ((List.range l).foldl rst (r, [])).2.length ≤ _
    omega
  have low : lows 0 ((risT l r).map LW.cutD) = true := lows_map low_cut _
  have nf := need_frame_ok h1 h2 h3 h4 M
  have nr : F_need_row [frD m l, rowD r] M = .ok .non M := need_row_ok hf hr hg
  refine run_eq rfl ?_
  have b1 : (l : Int) ≤ 100000 := by omega
  have b3 : -1000 ≤ (l : Int) := by omega
  unfold RB at e'
  have s2 : (gLen 2 (DL.gCons (DL.gVar 2) (DL.gCons (DL.gVar 3) DL.gNil))) M.length (frD m l) [some (frD m l), some (rowD r), none, none, none, none, none, none] M = .ok [some (frD m l), some (rowD r), some (.int (m : Int)), some (.int (l : Int)), none, none, none, none] M := rfl
  have la : ∀ n, (pListA false).op [rowD r] n = .ok (.fz (r.map LW.cutD)) n := fun n => by
    show (pListA false).op [D.tup (r.map LW.cutD)] n = _
    have hl : (r.map LW.cutD).length ≤ PySem.sizeLine := by rw [List.length_map]; unfold PySem.sizeLine; omega
    have lw : lows 0 (r.map LW.cutD) = true := lows_map low_cut _
    unfold pListA PL.op
    have sq : seq? (D.tup (r.map LW.cutD)) n = some (r.map LW.cutD) := rfl
    simp only [pList, mkLst, sq, Option.map_some, Option.getD_some, hl, if_true, Bool.false_eq_true, if_false]
  simp -implicitDefEqProofs [-r_glen, B_rising, nf, nr, b1, b3, s2, la]
  rw [e']
  have tl := tuple_last (ds := (risT l r).map LW.cutD) (M := M)
  simp -implicitDefEqProofs [low, S, tl, rowD]
end PR

namespace PR
open DL LW
theorem bn_F {pl p : Nat} (hp : pl ≤ p) : ∀ (cs : List Cut) (k : Nat), lineF (cs.filter fun c => decide (c.1 = pl)) p (bn pl cs k) = k
  | [], k => rfl
  | c :: cs, k => by
    unfold bn
    by_cases z : c.1 = pl
    · rw [List.filter_cons, if_pos (by simpa using z), if_pos z, lineF, bn_F hp cs]
      unfold actC
      rw [if_pos (by omega), swapN_inv]
    · rw [List.filter_cons, if_neg (by simpa using z), if_neg z, bn_F hp cs]
theorem lineF_low {p : Nat} : ∀ {cs : List Cut}, (∀ c ∈ cs, p < c.1) → ∀ k, lineF cs p k = k
  | [], _, k => rfl
  | c :: cs, h, k => by
    rw [lineF, lineF_low (fun c hc => h c (List.mem_cons_of_mem _ hc))]
    unfold actC
    rw [if_neg (by have := h c List.mem_cons_self; omega)]
theorem btT_pl {pl : Nat} : ∀ {cs : List Cut}, ∀ c ∈ btT pl cs, ∃ c0 ∈ cs, c.1 = c0.1 ∧ c0.1 ≠ pl
  | [], c, hc => by cases hc
  | c0 :: cs, c, hc => by
    unfold btT at hc
    split at hc
    · obtain ⟨x, hx, e⟩ := btT_pl c hc
      exact ⟨x, List.mem_cons_of_mem _ hx, e⟩
    · rename_i z
      rcases List.mem_cons.mp hc with h | h
      · exact ⟨c0, List.mem_cons_self, by rw [h]; rfl, z⟩
      · obtain ⟨x, hx, e⟩ := btT_pl c h
        exact ⟨x, List.mem_cons_of_mem _ hx, e⟩
theorem bt_F {pl : Nat} (p : Nat) : ∀ (cs : List Cut), (∀ c ∈ cs, pl ≤ c.1) → ∀ k, lineF ((cs.filter fun c => decide (c.1 = pl)) ++ btT pl cs) p k = lineF cs p k
  | [], _, k => rfl
  | c :: cs, h, k => by
    have ih := bt_F p cs (fun c hc => h c (List.mem_cons_of_mem _ hc)) k
    have hc := h c List.mem_cons_self
    by_cases z : c.1 = pl
    · rw [List.filter_cons, if_pos (by simpa using z), btT, if_pos z, List.cons_append, lineF, ih, lineF]
    · rw [List.filter_cons, if_neg (by simpa using z), btT, if_neg z, lineF_app, lineF, actC_called]
      rw [lineF_app] at ih
      rw [lineF, ← ih]
      unfold actC
      by_cases hp : c.1 ≤ p
      · have b := bn_F (pl := pl) (p := p) (by omega) cs
        rw [if_pos hp, if_pos hp, ← swapN_conj (s := lineF (cs.filter fun c => decide (c.1 = pl)) p) (fun _ _ e => lineF_inj _ _ e), b, b]
      · rw [if_neg hp, if_neg hp]
theorem rst_inv {m l : Nat} {r : List Cut} (hg : ∀ c ∈ r, CutOk m l c) : ∀ n, (∀ p k, lineF (((List.range n).foldl rst (r, [])).2 ++ ((List.range n).foldl rst (r, [])).1) p k = lineF r p k) ∧ (∀ c ∈ ((List.range n).foldl rst (r, [])).1, n ≤ c.1 ∧ CutOk m l c) ∧ (∀ c ∈ ((List.range n).foldl rst (r, [])).2, CutOk m l c) ∧ ((List.range n).foldl rst (r, [])).2.length + ((List.range n).foldl rst (r, [])).1.length = r.length
  | 0 => ⟨fun _ _ => rfl, fun c hc => ⟨Nat.zero_le _, hg c hc⟩, (fun c hc => by cases hc), Nat.zero_add _⟩
  | n + 1 => by
    obtain ⟨h1, h2, h3, h4⟩ := rst_inv hg n
    rw [List.range_succ, List.foldl_append]
    generalize (List.range n).foldl rst (r, []) = s at h1 h2 h3 h4
    show (∀ p k, lineF ((s.2 ++ s.1.filter fun c => decide (c.1 = n)) ++ btT n s.1) p k = _) ∧ (∀ c ∈ btT n s.1, _) ∧ (∀ c ∈ s.2 ++ s.1.filter fun c => decide (c.1 = n), _) ∧ (s.2 ++ s.1.filter fun c => decide (c.1 = n)).length + (btT n s.1).length = _
    refine ⟨fun p k => ?_, fun c hc => ?_, fun c hc => ?_, ?_⟩
    · rw [List.append_assoc, lineF_app, bt_F p s.1 (fun c hc => (h2 c hc).1), ← lineF_app, h1]
    · obtain ⟨x, hx, e, ne⟩ := btT_pl c hc
      exact ⟨by have := (h2 x hx).1; omega, btT_ok (fun c hc => (h2 c hc).2) c hc⟩
    · rcases List.mem_append.mp hc with h | h
      · exact h3 c h
      · exact (h2 c (List.mem_filter.mp h).1).2
    · rw [btT_len, List.length_append]
      have := filt_two (fun c : Cut => decide (c.1 = n)) s.1
      have e : (s.1.filter fun c => decide (c.1 ≠ n)) = s.1.filter fun c => !decide (c.1 = n) := by simp
      rw [e]
      omega
theorem ris_F {m l : Nat} {r : List Cut} (hg : ∀ c ∈ r, CutOk m l c) (p k : Nat) : lineF (risT l r) p k = lineF r p k := by
  obtain ⟨h1, h2, _⟩ := rst_inv hg l
  have : ((List.range l).foldl rst (r, [])).1 = [] := List.eq_nil_iff_forall_not_mem.mpr fun c hc => by
    obtain ⟨a, b, _⟩ := h2 c hc
    omega
  have e := h1 p k
  rw [this, List.append_nil] at e
  exact e
theorem ris_ok {m l : Nat} {r : List Cut} (hg : ∀ c ∈ r, CutOk m l c) : ∀ c ∈ risT l r, CutOk m l c := (rst_inv hg l).2.2.1
theorem ris_len {m l : Nat} {r : List Cut} (hg : ∀ c ∈ r, CutOk m l c) : (risT l r).length = r.length := by
  obtain ⟨h1, h2, h3, h4⟩ := rst_inv hg l
  have : ((List.range l).foldl rst (r, [])).1 = [] := List.eq_nil_iff_forall_not_mem.mpr fun c hc => by
    obtain ⟨a, b, _⟩ := h2 c hc
    omega
  rw [this] at h4
  exact h4
/-! ### the least place and ribbon -/
def Parts (m l : Nat) (r s : List Cut) (p k : Nat) : Prop := p < l ∧ k < m ∧ lineF r p k ≠ lineF s p k ∧ (∀ p', p' < p → ∀ j, j < m → lineF r p' j = lineF s p' j) ∧ ∀ j, j < k → lineF r p j = lineF s p j
theorem fs_range {β : Type} {f : Nat → Option β} {b : β} : ∀ n, (List.range n).findSome? f = some b → ∃ a, a < n ∧ f a = some b ∧ ∀ x, x < a → f x = none
  | 0, h => by cases h
  | n + 1, h => by
    rw [List.range_succ, List.findSome?_append] at h
    cases hx : (List.range n).findSome? f with
    | some c =>
      rw [hx] at h
      obtain ⟨a, h1, h2, h3⟩ := fs_range n (hx.trans h)
      exact ⟨a, by omega, h2, h3⟩
    | none =>
      rw [hx] at h
      have h : f n = some b := by simpa using h
      exact ⟨n, by omega, h, fun x hx' => List.findSome?_eq_none_iff.mp hx x (List.mem_range.mpr hx')⟩
theorem parts_some {m l : Nat} {r s : List Cut} {p k : Nat} (h : partsT m l r s = some (p, k)) : Parts m l r s p k := by
  unfold partsT at h
  rw [find_flat] at h
  obtain ⟨a, h1, h2, h3⟩ := fs_range l h
  obtain ⟨j, hj, e⟩ := Option.map_eq_some_iff.mp h2
  cases e
  obtain ⟨g1, g2⟩ := List.find?_eq_some_iff_append.mp hj
  have kk : ∃ b, b < m ∧ (if lineF r p b ≠ lineF s p b then some b else none) = some k ∧ ∀ x, x < b → (if lineF r p x ≠ lineF s p x then some x else none) = none := by
    refine fs_range m ?_
    have : ∀ L : List Nat, L.findSome? (fun x => if lineF r p x ≠ lineF s p x then some x else none) = L.find? fun x => decide (lineF r p x ≠ lineF s p x) := fun L => by
      induction L with
      | nil => rfl
      | cons y ys ih =>
        rw [List.findSome?_cons, List.find?_cons]
        by_cases hq : lineF r p y ≠ lineF s p y
        · simp [hq]
        · simp only [if_neg hq, hq, decide_false]; exact ih
    rw [this]
    exact hj
  obtain ⟨b, hb, e1, e2⟩ := kk
  split at e1
  · rename_i ne
    cases e1
    refine ⟨h1, hb, ne, fun p' hp' j' hj' => ?_, fun j' hj' => ?_⟩
    · have := h3 p' hp'
      rw [Option.map_eq_none_iff, List.find?_eq_none] at this
      simpa using this j' (List.mem_range.mpr hj')
    · have := e2 j' hj'
      split at this
      · cases this
      · rename_i q; exact Decidable.not_not.mp q
  · cases e1
theorem parts_is {m l : Nat} {r s : List Cut} {p k : Nat} (h : Parts m l r s p k) : partsT m l r s = some (p, k) := by
  obtain ⟨h1, h2, h3, h4, h5⟩ := h
  cases hx : partsT m l r s with
  | none => exact absurd (parts_none.mp hx p h1 k h2) h3
  | some q =>
    obtain ⟨p', k'⟩ := q
    obtain ⟨g1, g2, g3, g4, g5⟩ := parts_some hx
    have : p' = p := by
      rcases Nat.lt_trichotomy p' p with h | h | h
      · exact absurd (h4 p' h k' g2) g3
      · exact h
      · exact absurd (g4 p h k h2) h3
    subst this
    have : k' = k := by
      rcases Nat.lt_trichotomy k' k with h | h | h
      · exact absurd (h5 k' h) g3
      · exact h
      · exact absurd (g5 k h) h3
    rw [this]
theorem parts_ahead {m l : Nat} (t r s : List Cut) : partsT m l (t ++ r) (t ++ s) = partsT m l r s := by
  unfold partsT
  congr 1
  funext q
  rw [Bool.eq_iff_iff, decide_eq_true_eq, decide_eq_true_eq, lineF_app, lineF_app]
  exact ⟨fun h z => h (by rw [z]), fun h z => h (lineF_inj _ _ z)⟩
theorem parts_cut {m l : Nat} {c : Cut} (r : List Cut) (h : CutOk m l c) : partsT m l r (r ++ [c]) = some (c.1, c.2.1) := by
  obtain ⟨h1, h2, h3⟩ := h
  have e : ∀ p k, lineF (r ++ [c]) p k = lineF r p (actC c p k) := fun p k => lineF_app p k r [c]
  refine parts_is ⟨h1, by omega, fun z => ?_, fun p' hp' j hj => ?_, fun j hj => ?_⟩
  · rw [e] at z
    have := lineF_inj _ _ z
    unfold actC swapN at this
    rw [if_pos (Nat.le_refl _), if_pos rfl] at this
    omega
  · rw [e]; unfold actC; rw [if_neg (by omega)]
  · rw [e]; unfold actC swapN; rw [if_pos (Nat.le_refl _), if_neg (by omega), if_neg (by omega)]
theorem parts_late_none {m l : Nat} {r s t : List Cut} (ht : ∀ c ∈ t, CutOk m l c) : partsT m l (r ++ t) (s ++ t) = none ↔ partsT m l r s = none := by
  rw [parts_none, parts_none]
  constructor
  · intro h p hp k hk
    have := h p hp (lineF t.reverse p k) (lineF_lt p (fun c hc => ht c (List.mem_reverse.mp hc)) hk)
    rwa [lineF_app, lineF_app, lineF_rev'] at this
  · intro h p hp k hk
    rw [lineF_app, lineF_app]
    exact h p hp _ (lineF_lt p ht hk)
theorem parts_late {m l : Nat} {r s t : List Cut} {p k p' k' : Nat} (ht : ∀ c ∈ t, CutOk m l c) (h : partsT m l r s = some (p, k)) (h' : partsT m l (r ++ t) (s ++ t) = some (p', k')) : p' = p := by
  obtain ⟨h1, h2, h3, h4, h5⟩ := parts_some h
  obtain ⟨g1, g2, g3, g4, g5⟩ := parts_some h'
  rcases Nat.lt_trichotomy p' p with z | z | z
  · refine absurd ?_ g3
    rw [lineF_app, lineF_app]
    exact h4 p' z _ (lineF_lt p' ht g2)
  · exact z
  · have := g4 p z (lineF t.reverse p k) (lineF_lt p (fun c hc => ht c (List.mem_reverse.mp hc)) h2)
    rw [lineF_app, lineF_app, lineF_rev'] at this
    exact absurd this h3
end PR

namespace PR
open DL LW
theorem foldG_rows {l : Nat} : ∀ (r : List Cut) (R : List (List Nat)), (∀ t ∈ R, t.length = l) → (∀ c ∈ r, CutOk R.length l c) → ∀ t ∈ foldG R r, t.length = l
  | [], R, h, _ => h
  | c :: r, R, h, hg => by
    obtain ⟨c1, c2, c3⟩ := hg c List.mem_cons_self
    exact foldG_rows r _ (PR.doneG_rows h (by omega) c3 (by omega)) fun c hc => by rw [doneG_len]; exact hg c (List.mem_cons_of_mem _ hc)
/-- what a board comes to, bead by bead -/
def comes (m l : Nat) (R : List (List Nat)) (r : List Cut) : List (List Nat) := (List.range m).map fun a => (List.range l).map fun p => (R.getD (lineF r p a) []).getD p 0
theorem fold_eq {m l : Nat} {R : List (List Nat)} {r : List Cut} (hm : R.length = m) (hl : ∀ t ∈ R, t.length = l) (hg : ∀ c ∈ r, CutOk m l c) : foldG R r = comes m l R r := by
  have rows := foldG_rows r R hl (by rw [hm]; exact hg)
  have len : (foldG R r).length = m := by rw [foldG_len, hm]
  have key : ∀ p a, a < m → ((foldG R r).getD a []).getD p 0 = (R.getD (lineF r p a) []).getD p 0 := fun p a ha => by
    have e := col_fold (p := p) r R hl (by rw [hm]; exact hg)
    rw [lineT_gen (m := m) r (col R p) (by unfold col; rw [List.length_map, hm]) hg] at e
    have e2 : (col (foldG R r) p).getD a 0 = ((List.range m).map fun k => (col R p).getD (lineF r p k) 0).getD a 0 := congrArg (fun L : List Nat => L.getD a 0) e
    rw [col_get (by rw [len]; exact ha)] at e2
    rw [e2]
    have : ((List.range m).map fun k => (col R p).getD (lineF r p k) 0).getD a 0 = (col R p).getD (lineF r p a) 0 := by simp [ha]
    rw [this, col_get (by rw [hm]; exact lineF_lt p hg ha)]
  unfold comes
  refine List.ext_getElem (by simp [len]) fun a h1 h2 => ?_
  have ha : a < m := by omega
  have hrow : (foldG R r)[a] = (foldG R r).getD a [] := by simp [List.getD_eq_getElem?_getD, h1]
  have hlen := rows _ (List.getElem_mem h1)
  rw [List.getElem_map, List.getElem_range]
  refine List.ext_getElem (by rw [hlen]; simp) fun p g1 g2 => ?_
  rw [List.getElem_map, List.getElem_range, ← key p a ha]
  simp [List.getD_eq_getElem?_getD, h1, g1]
/-- the board of unlike letters -/
def LB (m l : Nat) : List (List Nat) := (List.range m).map fun a => List.replicate l (97 + a)
def LT (m l : Nat) (r : List Cut) : List (List Nat) := (List.range m).map fun a => (List.range l).map fun p => 97 + lineF r p a
theorem LB_ok {m l : Nat} (hm : m ≤ 20) : BdOk m l (LB m l) := by
  refine ⟨by simp [LB], fun t ht => ?_⟩
  obtain ⟨a, ha, rfl⟩ := List.mem_map.mp ht
  have := List.mem_range.mp ha
  refine ⟨by simp, fun c hc => ?_⟩
  have := (List.mem_replicate.mp hc).2
  omega
theorem LB_fold {m l : Nat} {r : List Cut} (hg : ∀ c ∈ r, CutOk m l c) : foldG (LB m l) r = LT m l r := by
  rw [fold_eq (m := m) (l := l) (by simp [LB]) (fun t ht => by
    obtain ⟨a, _, rfl⟩ := List.mem_map.mp ht
    simp) hg]
  unfold comes LT
  refine List.map_congr_left fun a ha => List.map_congr_left fun p hp => ?_
  have ha := List.mem_range.mp ha
  have hp := List.mem_range.mp hp
  have := lineF_lt p hg ha
  simp [LB, this, hp]
theorem LB_behind {m l : Nat} {r : List Cut} {M : Hep} (hf : Flat M) (h1 : 1 ≤ m) (h2 : m ≤ 5) (h3 : 1 ≤ l) (h4 : l ≤ 12) (hr : r.length < 1000) (hg : ∀ c ∈ r, CutOk m l c) : F_behind [bdD (LB m l), rowD r] M = .ok (bdD (LT m l r)) M := by
  rw [behind_ok hf h1 h2 h3 h4 (LB_ok (by omega)) hr hg, LB_fold hg]
theorem LT_eq {m l : Nat} {r s : List Cut} : LT m l r = LT m l s ↔ ∀ p, p < l → ∀ k, k < m → lineF r p k = lineF s p k := by
  unfold LT
  rw [map_range_inj]
  constructor
  · intro h p hp k hk
    have := map_range_inj.mp (h k hk) p hp
    omega
  · intro h k hk
    exact map_range_inj.mpr fun p hp => by rw [h p hp k hk]
theorem pl_str {t : List Nat} (h : ∀ c ∈ t, c < 1114112) : (D.str t).pl = true := by
  simp only [D.pl, List.all_eq_true]
  exact fun c hc => decide_eq_true (h c hc)
theorem pls_map {α : Type} {f : α → D} : ∀ {xs : List α}, (∀ x ∈ xs, (f x).pl = true) → pls (xs.map f) = true
  | [], _ => rfl
  | x :: xs, h => by simp only [List.map_cons, pls, h x List.mem_cons_self, pls_map fun y hy => h y (List.mem_cons_of_mem _ hy), Bool.and_self]
theorem deps_map {α : Type} {f : α → D} {n : Nat} : ∀ {xs : List α}, (∀ x ∈ xs, (f x).dep ≤ n) → deps (xs.map f) ≤ n
  | [], _ => Nat.zero_le _
  | x :: xs, h => by
    have a := h x List.mem_cons_self
    have b := deps_map fun y hy => h y (List.mem_cons_of_mem _ hy)
    simp only [List.map_cons, deps]; omega
theorem LT_pl {m l : Nat} {r : List Cut} (hm : m ≤ 1000) (hg : ∀ c ∈ r, CutOk m l c) : (bdD (LT m l r)).pl = true := by
  simp only [bdD, D.pl]
  refine pls_map fun t ht => pl_str fun c hc => ?_
  obtain ⟨a, ha, rfl⟩ := List.mem_map.mp ht
  obtain ⟨p, hp, rfl⟩ := List.mem_map.mp hc
  have := lineF_lt p hg (List.mem_range.mp ha)
  omega
theorem bd_dep (bs : List (List Nat)) : (bdD bs).dep ≤ 60 := by
  have : deps (bs.map D.str) ≤ 0 := deps_map fun _ _ => Nat.le_refl _
  simp only [bdD, D.dep]; omega
theorem ln_pl (L : List Nat) : pls (lnD L) = true := pls_map fun _ _ => rfl
theorem eff_pl (e : List (List Nat)) : (effD e).pl = true := by
  simp only [effD, D.pl]
  exact pls_map fun L _ => by simp only [D.pl]; exact ln_pl L
theorem eff_dep (e : List (List Nat)) : (effD e).dep ≤ 60 := by
  have : deps (e.map fun ln => D.tup (lnD ln)) ≤ 1 := deps_map fun L _ => by
    have : deps (lnD L) ≤ 0 := deps_map fun _ _ => Nat.le_refl _
    simp only [D.dep]; omega
  simp only [effD, D.dep]; omega
theorem map_inj {α : Type} {f : α → D} (h : ∀ a b, f a = f b → a = b) : ∀ a b : List α, a.map f = b.map f → a = b
  | [], [], _ => rfl
  | [], b :: bs, e => by cases e
  | a :: as, [], e => by cases e
  | a :: as, b :: bs, e => by
    rw [List.map_cons, List.map_cons] at e
    obtain ⟨e1, e2⟩ := List.cons.inj e
    rw [h _ _ e1, map_inj h as bs e2]
theorem bd_inj (a b : List (List Nat)) (e : bdD a = bdD b) : a = b := map_inj (f := D.str) (fun _ _ h => by injection h) a b (by injection e)
theorem ln_inj (a b : List Nat) (e : lnD a = lnD b) : a = b := map_inj (fun x y h => by injection h with h; omega) a b e
theorem eff_inj (a b : List (List Nat)) (e : effD a = effD b) : a = b := map_inj (f := fun ln => D.tup (lnD ln)) (fun x y h => ln_inj x y (by injection h)) a b (by injection e)
theorem eff_eq {a b : List (List Nat)} {M : Hep} : opEq (effD a) (effD b) M = .ok (.bl (decide (a = b))) M := by
  rw [eq_pl (eff_pl a) (eff_pl b) (eff_dep a) (eff_dep b), D.eq_dec eff_inj]
theorem LT_eqD {m l : Nat} {r s : List Cut} {M : Hep} (hm : m ≤ 1000) (hg : ∀ c ∈ r, CutOk m l c) (hg' : ∀ c ∈ s, CutOk m l c) : opEq (bdD (LT m l r)) (bdD (LT m l s)) M = .ok (.bl (decide (LT m l r = LT m l s))) M := by
  rw [eq_pl (LT_pl hm hg) (LT_pl hm hg') (bd_dep _) (bd_dep _), D.eq_dec bd_inj]
theorem spot_pl (o : Option (Nat × Nat)) : (spotD o).pl = true ∧ (spotD o).dep ≤ 60 := by
  cases o with
  | none => exact ⟨rfl, Nat.zero_le _⟩
  | some q => exact ⟨rfl, by simp [spotD, D.dep, deps]⟩
theorem spot_inj (a b : Option (Nat × Nat)) (e : spotD a = spotD b) : a = b := by
  cases a with
  | none => cases b with
    | none => rfl
    | some q => cases e
  | some p => cases b with
    | none => cases e
    | some q =>
      obtain ⟨a, b⟩ := p
      obtain ⟨c, d⟩ := q
      simp only [spotD] at e
      injection e with e
      obtain ⟨e1, e2⟩ := List.cons.inj e
      obtain ⟨e2, _⟩ := List.cons.inj e2
      injection e1 with e1
      injection e2 with e2
      have : a = c := by omega
      have : b = d := by omega
      subst_vars; rfl
theorem spot_ne {a b : Option (Nat × Nat)} {M : Hep} : opNe (spotD a) (spotD b) M = .ok (.bl (!decide (a = b))) M := by
  rw [ne_pl (spot_pl a).1 (spot_pl b).1 (spot_pl a).2 (spot_pl b).2, D.eq_dec spot_inj]
theorem spot_isA {a : Option (Nat × Nat)} {M : Hep} : opIsA (spotD a) .non M = .ok (.bl a.isNone) M := by
  cases a <;> rfl
theorem spot_notA {a : Option (Nat × Nat)} {M : Hep} : opNotA (spotD a) .non M = .ok (.bl a.isSome) M := by
  cases a <;> rfl
end PR

namespace SK
open DL LW
theorem minA2 (x y : D) (M : Hep) : pMinA.op [x, y] M = pMin.op [x, y] M := by
  unfold pMinA PL.op PL.or
  cases h : pMin [x, y] M with
  | none => simp [h, pMinL]
  | some r => simp [h]
theorem minA_app (a b : SemE) : eApp pMinA.op (lCons a (lCons b lNil)) = eApp pMin.op (lCons a (lCons b lNil)) := by
  funext n σ M
  simp only [eApp, lCons, lNil]
  cases a n σ M with
  | stuck => rfl
  | err c M1 => rfl
  | ok x M1 =>
    simp only [Res.bind_ok]
    cases b n σ M1 with
    | stuck => rfl
    | err c M2 => rfl
    | ok y M2 =>
      simp only [Res.bind_ok]
      exact minA2 x y M2
end SK

namespace DL
open PySem LW L2
open LX (PenOb PenAt Drew)
/-- [te for g in ds], each item drawn -/
theorem lc_draw {β : Type} {en : β → D} {Q : Nat → β → Prop} {vs : List Nat} {fi : SemI} {g : SemG} {te : SemE} {n0 N p K : Nat} {σ : Sl} {M M1 : Hep} {ds : List D} (hi : fi n0 σ M = .ok ⟨ds, none⟩ M1) (hn : n0 ≤ M1.length) (hp : PenAt N p M1) (hf : Flat M1) (hz : ds.length ≤ 1000)
    (hlow : ∀ i b, Q i b → (en b).low 0 = true)
    (hs : ∀ i d acc M2, ds[i]? = some d → PenAt (N + K * i) p M2 → M2.length = M1.length → Flat M2 → ∃ σ1 b M3, g n0 d (wipeD σ vs) (M2 ++ [.lst acc]) = .ok σ1 (M2 ++ [.lst acc]) ∧ te n0 σ1 (M2 ++ [.lst acc]) = .ok (en b) (M3 ++ [.lst acc]) ∧ Q i b ∧ Drew (N + K * (i + 1)) p M2 M3) :
    ∃ (bs : List β) (M' : Hep), eLc false false vs fi g (fun _ _ M => .ok true M) te n0 σ M = .ok (.fz (bs.map en)) M' ∧ bs.length = ds.length ∧ (∀ i b, bs[i]? = some b → Q i b) ∧ Drew (N + K * ds.length) p M1 M' := by
  have fin : Ok (eLc false false vs fi g (fun _ _ M => .ok true M) te n0 σ M) fun d M' => ∃ bs : List β, d = .fz (bs.map en) ∧ bs.length = ds.length ∧ (∀ i b, bs[i]? = some b → Q i b) ∧ Drew (N + K * ds.length) p M1 M' := by
    refine ok_lc (fun i acc M' => Drew (N + K * i) p M1 M' ∧ ∃ bs : List β, acc = bs.map en ∧ bs.length = i ∧ ∀ j b, bs[j]? = some b → Q j b) hi hn ⟨by simpa using hp.refl, [], rfl, rfl, by intro j b h; simp at h⟩ hf (by show ds.length ≤ sizeLine; unfold sizeLine; omega) ?_ ?_
    · rintro i d acc M2 hd ⟨dr, bs, rfl, hl, hq⟩ hlen hfl
      refine ⟨rfl, ?_⟩
      obtain ⟨σ1, b, M3, e1, e2, q, d3⟩ := hs i d (bs.map en) M2 hd (dr.pen hp) hlen hfl
      rw [e1, ok_ok, ok_ok]
      refine ⟨rfl, ?_⟩
      rw [e2, ok_ok]
      refine ⟨M3, rfl, d3.len.trans hlen, d3.flat hfl, hlow i b q, dr.trans d3, bs ++ [b], by simp, by simp [hl], fun j c hc => ?_⟩
      by_cases z : j < bs.length
      · rw [List.getElem?_append_left z] at hc; exact hq j c hc
      · rw [List.getElem?_append_right (by omega)] at hc
        have : j - bs.length = 0 := by
          by_cases y : j - bs.length = 0
          · exact y
          · rw [List.getElem?_eq_none (by simp; omega)] at hc; cases hc
        rw [this] at hc
        cases hc
        have : j = i := by omega
        subst this; exact q
    · rintro acc M2 ⟨dr, bs, rfl, hl, hq⟩ hlen hfl hlow
      exact ⟨rfl, bs, rfl, hl, hq, by rw [← hl]; rw [hl]; exact dr⟩
  obtain ⟨d, M', e, bs, rfl, h1, h2, h3⟩ := ok_iff.mp fin
  exact ⟨bs, M', e, h1, h2, h3⟩
/-- one turn of a while, behind its test -/
def turnW (b : SemS) (n1 n0 : Nat) (σ : Sl) (M : Hep) : Res Sl := (b n0 σ M).bind fun p M2 => match p.1 with
  | .rt _ => .stuck
  | .bk => .stuck
  | _ => match settle n0 n1 p.2 M2 with
    | some (σ3, M3) => .ok σ3 M3
    | none => .stuck
theorem whileL_turn {c : SemT} {b : SemS} {n1 n0 k : Nat} {σ σ3 : Sl} {M M1 M3 : Hep} (hc : c n0 σ M = .ok true M1) (h : turnW b n1 n0 σ M1 = .ok σ3 M3) : whileL c b n1 n0 (k + 1) σ M = whileL c b n1 n0 k σ3 M3 := by
  unfold turnW at h
  rw [whileL, hc]
  simp only [Res.bind_ok, if_true]
  cases hb : b n0 σ M1 with
  | stuck => rw [hb] at h; cases h
  | err c M1 => rw [hb] at h; cases h
  | ok p M2 =>
    rw [hb] at h
    simp only [Res.bind_ok] at h ⊢
    obtain ⟨f, σ2⟩ := p
    cases f with
    | nx =>
      simp only at h ⊢
      cases hs : settle n0 n1 σ2 M2 with
      | none => rw [hs] at h; cases h
      | some r => rw [hs] at h; obtain ⟨a, c⟩ := r; cases h; rfl
    | ct =>
      simp only at h ⊢
      cases hs : settle n0 n1 σ2 M2 with
      | none => rw [hs] at h; cases h
      | some r => rw [hs] at h; obtain ⟨a, c⟩ := r; cases h; rfl
    | bk => cases h
    | rt d => cases h
/-- a while of t turns -/
theorem while_inv {c : SemT} {b : SemS} {n1 n0 : Nat} (Inv : Nat → Sl → Hep → Prop) {P : Sl → Hep → Prop} : ∀ (t fuel k : Nat) (σ : Sl) (M : Hep), Inv k σ M → t < fuel →
    (∀ i σ M, i < t → Inv (k + i) σ M → ∃ M1 σ3 M3, c n0 σ M = .ok true M1 ∧ turnW b n1 n0 σ M1 = .ok σ3 M3 ∧ Inv (k + i + 1) σ3 M3) →
    (∀ σ M, Inv (k + t) σ M → ∃ M1, c n0 σ M = .ok false M1 ∧ P σ M1) →
    ∃ σ' M', whileL c b n1 n0 fuel σ M = .ok (.nx, σ') M' ∧ P σ' M'
  | 0, fuel, k, σ, M, h0, hf, hs, he => by
    obtain ⟨fuel, rfl⟩ : ∃ f, fuel = f + 1 := ⟨fuel - 1, by omega⟩
    obtain ⟨M1, e, p⟩ := he σ M h0
    exact ⟨σ, M1, by rw [whileL, e]; rfl, p⟩
  | t + 1, fuel, k, σ, M, h0, hf, hs, he => by
    obtain ⟨fuel, rfl⟩ : ∃ f, fuel = f + 1 := ⟨fuel - 1, by omega⟩
    obtain ⟨M1, σ3, M3, e1, e2, i3⟩ := hs 0 σ M (by omega) h0
    rw [whileL_turn e1 e2]
    exact while_inv Inv t fuel (k + 1) σ3 M3 i3 (by omega) (fun i σ M hi iv => by
      have := hs (i + 1) σ M (by omega) (by rw [show k + (i + 1) = k + 1 + i by omega]; exact iv)
      rw [show k + (i + 1) = k + 1 + i by omega] at this
      exact this) (fun σ M iv => he σ M (by rw [show k + (t + 1) = k + 1 + t by omega]; exact iv))
theorem frz_ref {q n : Nat} {ds : List D} {M : Hep} (hq : n ≤ q) (h : M[q]? = some (.lst ds)) (hl : lows 0 ds = true) : frz n M (.ref q) = some (.fz ds) := by
  have : look n M 8 q = some (.fz ds) := by
    unfold look
    rw [if_neg (by omega), h]
    simp [frzDs_low (look_low (n := n)) ds (lows_mono (Nat.zero_le _) ds hl)]
  unfold frz
  simp only [frzD, this]
theorem ne_refs {q : Nat} {ds es : List D} {M : Hep} (h : M[q]? = some (.lst ds)) (hp : pls ds = true) (hd : deps ds ≤ 50) (hp' : pls es = true) (hd' : deps es ≤ 50) : opNe (.ref q) (.fz es) M = .ok (.bl (!D.eq (.fz ds) (.fz es))) M := by
  obtain ⟨p, e1, e2, e3, e4⟩ := pl_py (.fz ds) (by simpa only [D.pl] using hp)
  obtain ⟨p', e1', e2', e3', e4'⟩ := pl_py (.fz es) (by simpa only [D.pl] using hp')
  have dd : (D.fz ds).dep ≤ 60 := by simp only [D.dep]; omega
  have dd' : (D.fz es).dep ≤ 60 := by simp only [D.dep]; omega
  have x : pyOf M (.ref q) = some p := by unfold pyOf; rw [frz_ref (Nat.zero_le _) h (by simpa only [D.low] using e4)]; exact e1
  have y : pyOf M (.fz es) = some p' := by rw [py_low e4']; exact e1'
  rw [ne_py x y (shaped_of e2 e3 dd) (shaped_of e2' e3' dd') rfl, pl_eqv (.fz ds) (.fz es) p p' (by simpa only [D.pl] using hp) (by simpa only [D.pl] using hp') e1 e1']
theorem ne_refnil {q : Nat} {ds : List D} {M : Hep} (h : M[q]? = some (.lst ds)) (hp : pls ds = true) (hd : deps ds ≤ 50) : opNe (.ref q) (.fz []) M = .ok (.bl (!ds.isEmpty)) M := by
  rw [ne_refs h hp hd rfl (by simp [deps])]
  cases ds with
  | nil => rfl
  | cons d ds => simp [D.eq, D.eqs]
end DL

namespace DL
open LW PR
theorem ix_last {q : Nat} {ds : List D} {d : D} {M : Hep} (h : M[q]? = some (.lst (ds ++ [d]))) : opIx (.ref q) (.int (-1)) M = .ok d M := by
  have e : atD (ds ++ [d]) (-1) = some d := by
    unfold atD L2.ixN
    rw [if_neg (by omega), if_pos (by simp; omega)]
    have : ((-1 : Int) + ((ds ++ [d]).length : Nat)).toNat = ds.length := by simp; omega
    rw [Option.bind_some, this]
    simp
  show (((pIxL.or (pIxT.or (pIxS.or pIxD))) (.ref q) (.int (-1)) M).getD .stuck) = _
  have : (pIxL.or (pIxT.or (pIxS.or pIxD))) (.ref q) (.int (-1)) M = some (.ok d M) := by
    unfold P2.or pIxL
    simp only [lst?, h, e, Option.map_some]
  rw [this]; rfl
theorem ix_lastT {ds : List D} {d : D} {M : Hep} : opIx (.tup (ds ++ [d])) (.int (-1)) M = .ok d M := by
  have e : atD (ds ++ [d]) (-1) = some d := by
    unfold atD L2.ixN
    rw [if_neg (by omega), if_pos (by simp; omega)]
    have : ((-1 : Int) + ((ds ++ [d]).length : Nat)).toNat = ds.length := by simp; omega
    rw [Option.bind_some, this]
    simp
  show (((pIxL.or (pIxT.or (pIxS.or pIxD))) (.tup (ds ++ [d])) (.int (-1)) M).getD .stuck) = _
  have : (pIxL.or (pIxT.or (pIxS.or pIxD))) (.tup (ds ++ [d])) (.int (-1)) M = some (.ok d M) := by
    unfold P2.or pIxL pIxT
    simp only [lst?, e, Option.map_some]
  rw [this]; rfl
theorem pop_last {n q : Nat} {ds : List D} {d : D} {M : Hep} (h : M[q]? = some (.lst (ds ++ [d]))) (hn : n ≤ q) : mPop n (.ref q) [] M = .ok d (M.set q (.lst ds)) := by
  unfold mPop
  simp only [h]
  simp [r_setOb hn]
end DL
namespace PS
open DL LW PR
/-! ### pieces -/
def fsT (w : Nat → Nat) : Nat → List Cut × Nat
  | 0 => ([], 0)
  | i + 1 => if w (i + 1) = w (fsT w i).2 then fsT w i else ((fsT w i).1 ++ [(w (fsT w i).2, (fsT w i).2, i)], i + 1)
def toldT (w : Nat → Nat) : Nat → List Cut
  | 0 => []
  | i + 1 => (fsT w i).1 ++ [(w (fsT w i).2, (fsT w i).2, i)]
theorem fsT_len (w : Nat → Nat) : ∀ i, (fsT w i).1.length ≤ i
  | 0 => by simp [fsT]
  | i + 1 => by
    have := fsT_len w i
    unfold fsT
    split
    · omega
    · simp; omega
theorem fsT_le (w : Nat → Nat) : ∀ i, (fsT w i).2 ≤ i
  | 0 => by simp [fsT]
  | i + 1 => by
    have := fsT_le w i
    unfold fsT
    split
    · omega
    · simp
theorem toldT_len (w : Nat → Nat) (i : Nat) : (toldT w i).length ≤ i := by
  cases i with
  | zero => simp [toldT]
  | succ i => have := fsT_len w i; simp [toldT]; omega
def wOf (e : List (List Nat)) (r : Nat) (p : Nat) : Nat := (e.getD p []).getD r 0
def PB : SemS := (sSeq (sAsg (eVar 4) (gVar 6)) (sSeq (sIf (tAnd (tTr (eVar 3)) (tOf (eBin opEq (eBin opIx (eBin opIx (eVar 3) (eUn opNeg (eC (.int 1)))) (eC (.int 0))) (eBin opIx (eVar 5) (eVar 2))))) (sAsg (eBin opIx (eMt isLst mPop (eVar 3) lNil) (eC (.int 1))) (gVar 6)) sNil) (sDrop (eMt isLst mApp (eVar 3) (lCons (eApp mkTup (lCons (eBin opIx (eVar 5) (eVar 2)) (lCons (eVar 6) (lCons (eVar 4) lNil)))) lNil)))))
def PG : SemG := (gLen 2 (gCons (gVar 4) (gCons (gVar 5) gNil)))
theorem pturn {m l i r : Nat} {e : List (List Nat)} {M : Hep} {a0 a1 w4 w5 w6 : Option D} (he : EffOk m l e) (hm : m ≤ 5) (hl : l ≤ 12) (hi : i < l) (hr : r < m) :
    ∃ w6', turnF PG PB (M.length + 1) M.length (.tup [.int (i : Int), .tup (lnD (e.getD i []))]) [a0, a1, some (.int (r : Int)), some (.ref M.length), w4, w5, w6] (M ++ [.lst ((toldT (wOf e r) i).map LW.cutD)]) = .ok [a0, a1, some (.int (r : Int)), some (.ref M.length), some (.int (i : Int)), some (.tup (lnD (e.getD i []))), w6'] (M ++ [.lst ((toldT (wOf e r) (i + 1)).map LW.cutD)]) := by
  have hle : (e.getD i []).length = m := (ln_lt (he.2 _ (List.mem_of_getElem? (get_D (x := []) (by rw [he.1]; exact hi))))).1
  have vx : ∀ M, opIx (.tup (lnD (e.getD i []))) (.int (r : Int)) M = .ok (.int ((wOf e r i : Nat) : Int)) M := fun M => ix_tup (lnD_get (by rw [hle]; exact hr))
  have g2 : ∀ M', PG M.length (.tup [.int (i : Int), .tup (lnD (e.getD i []))]) [a0, a1, some (.int (r : Int)), some (.ref M.length), w4, w5, w6] M' = .ok [a0, a1, some (.int (r : Int)), some (.ref M.length), some (.int (i : Int)), some (.tup (lnD (e.getD i []))), w6] M' := fun _ => rfl
  generalize e.getD i [] = ln at *
  generalize hw : wOf e r = w at *
  have cl := toldT_len w (i + 1)
  cases i with
  | zero =>
    have tr : truD (.ref M.length) (M ++ [.lst []]) = some false := tru_ref (ds := []) (by simp)
    have g20 : ∀ M', PG M.length (.tup [.int 0, .tup (lnD ln)]) [a0, a1, some (.int (r : Int)), some (.ref M.length), w4, w5, w6] M' = .ok [a0, a1, some (.int (r : Int)), some (.ref M.length), some (.int 0), some (.tup (lnD ln)), w6] M' := fun _ => rfl
    refine ⟨some (.int 0), ?_⟩
    have e1 : toldT w (0 + 1) = [(w 0, 0, 0)] := rfl
    rw [e1]
    simp -implicitDefEqProofs [turnF, g20, PB, toldT, tr, vx, LW.cutD]
  | succ j =>
    have hlow := fsT_len w j
    have e0 : (toldT w (j + 1)).map LW.cutD = (fsT w j).1.map LW.cutD ++ [LW.cutD (w (fsT w j).2, (fsT w j).2, j)] := by simp [toldT]
    rw [e0]
    have at0 : (M ++ [Ob.lst ((fsT w j).1.map LW.cutD ++ [LW.cutD (w (fsT w j).2, (fsT w j).2, j)])])[M.length]? = some (.lst ((fsT w j).1.map LW.cutD ++ [LW.cutD (w (fsT w j).2, (fsT w j).2, j)])) := by simp
    have tr : truD (.ref M.length) (M ++ [.lst ((fsT w j).1.map LW.cutD ++ [LW.cutD (w (fsT w j).2, (fsT w j).2, j)])]) = some true := by rw [tru_ref at0]; simp
    have il := ix_last at0
    have pl := pop_last (n := M.length) at0 (Nat.le_refl _)
    have c0 := @LX.cut_0 (w (fsT w j).2, (fsT w j).2, j)
    have c1 := @LX.cut_1 (w (fsT w j).2, (fsT w j).2, j)
    have is : isLst (.ref M.length) (M ++ [.lst ((fsT w j).1.map LW.cutD ++ [LW.cutD (w (fsT w j).2, (fsT w j).2, j)])]) = true := lst_ref at0
    by_cases hv : w (fsT w j).2 = w (j + 1)
    · have e1 : toldT w (j + 1 + 1) = (fsT w j).1 ++ [(w (j + 1), (fsT w j).2, j + 1)] := by
        show (fsT w (j + 1)).1 ++ _ = _
        have : fsT w (j + 1) = fsT w j := by rw [fsT, if_pos hv.symm]
        rw [this, hv]
      rw [e1]
      have de : decide ((w (fsT w j).2 : Int) = (w (j + 1) : Int)) = true := by rw [hv]; simp
      refine ⟨some (.int ((fsT w j).2 : Int)), ?_⟩
      have ap : ((fsT w j).1 ++ [(w (j + 1), (fsT w j).2, j + 1)]).map LW.cutD = (fsT w j).1.map LW.cutD ++ [.tup [.int ((w (j + 1) : Nat) : Int), .int (((fsT w j).2 : Nat) : Int), .int ((j + 1 : Nat) : Int)]] := by simp [LW.cutD]
      rw [ap]
      have sz : (fsT w j).1.length < 1000000 := by omega
      simp -implicitDefEqProofs [-Int.natCast_add, turnF, g2, PB, tr, vx, il, pl, c0, c1, de, sz]
    · have e1 : toldT w (j + 1 + 1) = (fsT w j).1 ++ [(w (fsT w j).2, (fsT w j).2, j)] ++ [(w (j + 1), j + 1, j + 1)] := by
        show (fsT w (j + 1)).1 ++ _ = _
        have : fsT w (j + 1) = ((fsT w j).1 ++ [(w (fsT w j).2, (fsT w j).2, j)], j + 1) := by rw [fsT, if_neg fun h => hv h.symm]
        rw [this]
      rw [e1]
      have de : decide ((w (fsT w j).2 : Int) = (w (j + 1) : Int)) = false := decide_eq_false (by omega)
      refine ⟨some (.int ((j + 1 : Nat) : Int)), ?_⟩
      have ap : ((fsT w j).1 ++ [(w (fsT w j).2, (fsT w j).2, j)] ++ [(w (j + 1), j + 1, j + 1)]).map LW.cutD = ((fsT w j).1.map LW.cutD ++ [LW.cutD (w (fsT w j).2, (fsT w j).2, j)]) ++ [.tup [.int ((w (j + 1) : Nat) : Int), .int ((j + 1 : Nat) : Int), .int ((j + 1 : Nat) : Int)]] := by simp [LW.cutD]
      rw [ap]
      generalize hF : (fsT w j).1.map LW.cutD ++ [LW.cutD (w (fsT w j).2, (fsT w j).2, j)] = F at *
      have sz : F.length < 1000000 := by rw [← hF]; simp; omega
      simp -implicitDefEqProofs [-Int.natCast_add, turnF, g2, PB, tr, vx, il, c0, de, sz]
theorem pieces_ok {m l r : Nat} {e : List (List Nat)} {M : Hep} (hf : Flat M) (h1 : 1 ≤ m) (h2 : m ≤ 5) (h3 : 1 ≤ l) (h4 : l ≤ 12) (he : EffOk m l e) (hr : r < m) : F_pieces [frD m l, effD e, .int (r : Int)] M = .ok (rowD (toldT (wOf e r) l)) M := by
  have ne := need_effect_ok (M := M) hf h1 h2 h3 h4 he
  have nr : F_need_ribbon [frD m l, .int (r : Int)] M = .ok .non M := by
    have fi := from_int (i := (r : Int)) (a := 0) (b := (m : Int) - 1) (by omega) (by omega) M
    refine run_eq rfl ?_
    simp -implicitDefEqProofs [B_need_ribbon, fi]
  obtain ⟨σ', M', eL, w4, w5, w6, rfl, rfl⟩ := for_inv (g := PG) (b := PB) (n1 := M.length + 1) (n0 := M.length) (fun i σ M' => ∃ w4 w5 w6, σ = [some (frD m l), some (effD e), some (.int (r : Int)), some (.ref M.length), w4, w5, w6] ∧ M' = M ++ [.lst ((toldT (wOf e r) i).map LW.cutD)]) (enuF 0 (e.map fun ln => .tup (lnD ln))) (enuF 0 (e.map fun ln => .tup (lnD ln))) 0 [some (frD m l), some (effD e), some (.int (r : Int)), some (.ref M.length), none, none, none] (M ++ [.lst []]) ⟨none, none, none, rfl, rfl⟩ (by
    rintro i d σ M' hd ⟨w4, w5, w6, rfl, rfl⟩
    rw [enuF_get, List.getElem?_map] at hd
    have hi : i < l := by
      by_cases z : i < e.length
      · rw [← he.1]; exact z
      · rw [List.getElem?_eq_none (by omega)] at hd; cases hd
    rw [get_D (x := []) (by rw [he.1]; exact hi)] at hd
    cases hd
    rw [show 0 + i = i by omega]
    obtain ⟨w6', et⟩ := pturn (a0 := some (frD m l)) (a1 := some (effD e)) (w4 := w4) (w5 := w5) (w6 := w6) (M := M) he h2 h4 hi hr
    exact ⟨_, _, et, _, _, _, rfl, rfl⟩)
  rw [enuF_len, List.length_map, he.1, Nat.zero_add] at eL
  refine run_eq rfl ?_
  have en : ∀ M', enuOf [effD e] M' = some ⟨enuF 0 (e.map fun ln => .tup (lnD ln)), none⟩ := fun _ => rfl
  have iE : ∀ (f : SemL) n σ M', iEnu f n σ M' = (f n σ M').bind fun ds M1 => .of (enuOf ds M1) M1 := fun _ _ _ _ => rfl
  unfold PG PB at eL
  have tl : pTuple.op [.ref M.length] (M ++ [.lst ((toldT (wOf e r) l).map LW.cutD)]) = _ := tuple_last
  have lw : lows 0 ((toldT (wOf e r) l).map LW.cutD) = true := lows_map low_cut _
  simp -implicitDefEqProofs [B_pieces, ne, nr, iE, en, eL, tl, lw, rowD]
end PS
namespace DL
open LW PR
theorem sum_fz {α : Type} {f : α → Int} {xs : List α} {M : Hep} : pSum.op [.fz (xs.map fun x => .int (f x))] M = .ok (.int (xs.map f).sum) M := by
  simp [PL.op, pSum, lst?, ints_map]
theorem sum_nats {α : Type} {f : α → Nat} {xs : List α} {M : Hep} : pSum.op [.fz (xs.map fun x => .int ((f x : Nat) : Int))] M = .ok (.int (((xs.map f).sum : Nat) : Int)) M := by
  rw [sum_fz]
  congr 2
  induction xs with
  | nil => rfl
  | cons x xs ih => simp [ih]
/-- a loop over a list that stays, by what stands at each turn -/
theorem for_invC {g : SemG} {b : SemS} {n1 n0 : Nat} {it : Itm} (Inv : Nat → Sl → Hep → Prop) (hc : ∀ k σ M, Inv k σ M → it.chk M = true) : ∀ (ds : List D) (k : Nat) (σ : Sl) (M : Hep), Inv k σ M →
    (∀ i d σ M, ds[i]? = some d → Inv (k + i) σ M → ∃ σ3 M3, turnF g b n1 n0 d σ M = .ok σ3 M3 ∧ Inv (k + i + 1) σ3 M3) →
    ∃ σ' M', forL g b it n1 n0 ds σ M = .ok (.nx, σ') M' ∧ Inv (k + ds.length) σ' M'
  | [], k, σ, M, h0, hs => ⟨σ, M, by rw [forL, if_pos (hc _ _ _ h0)], h0⟩
  | d :: ds, k, σ, M, h0, hs => by
    obtain ⟨σ3, M3, e, i3⟩ := hs 0 d σ M rfl h0
    obtain ⟨σ', M', e', i'⟩ := for_invC Inv hc ds (k + 1) σ3 M3 i3 fun i d σ M h iv => by
      have := hs (i + 1) d σ M (by simpa using h) (by rw [show k + (i + 1) = k + 1 + i by omega]; exact iv)
      rw [show k + (i + 1) = k + 1 + i by omega] at this
      exact this
    exact ⟨σ', M', by rw [forL_turn (hc _ _ _ h0) e]; exact e', by rw [List.length_cons, show k + (ds.length + 1) = k + 1 + ds.length by omega]; exact i'⟩
theorem chk_at {all ds : List D} {m : Nat} {M : Hep} (h : M[m]? = some (.lst ds)) : (Itm.mk all (some (m, ds))).chk M = true := by
  unfold Itm.chk
  simp only [h]
  exact D.eqs_self ds
end DL
namespace PS
open DL LW PR
theorem fsT_mem (w : Nat → Nat) : ∀ i, ∀ c ∈ (fsT w i).1, c.1 = w c.2.1 ∧ c.2.1 ≤ i ∧ c.2.2 ≤ i
  | 0, c, h => by simp [fsT] at h
  | i + 1, c, h => by
    unfold fsT at h
    split at h
    · obtain ⟨h1, h2, h3⟩ := fsT_mem w i c h
      exact ⟨h1, by omega, by omega⟩
    · rcases List.mem_append.mp h with h | h
      · obtain ⟨h1, h2, h3⟩ := fsT_mem w i c h
        exact ⟨h1, by omega, by omega⟩
      · rw [List.mem_singleton.mp h]
        have := fsT_le w i
        exact ⟨rfl, by show (fsT w i).2 ≤ i + 1; omega, by show i ≤ i + 1; omega⟩
theorem toldT_mem (w : Nat → Nat) : ∀ i, ∀ c ∈ toldT w i, c.1 = w c.2.1 ∧ c.2.1 < i ∧ c.2.2 < i
  | 0, c, h => by simp [toldT] at h
  | i + 1, c, h => by
    unfold toldT at h
    rcases List.mem_append.mp h with h | h
    · obtain ⟨h1, h2, h3⟩ := fsT_mem w i c h
      exact ⟨h1, by omega, by omega⟩
    · rw [List.mem_singleton.mp h]
      have := fsT_le w i
      exact ⟨rfl, by show (fsT w i).2 < i + 1; omega, by show i < i + 1; omega⟩
theorem wOf_lt {m l r p : Nat} {e : List (List Nat)} (he : EffOk m l e) (hr : r < m) (hp : p < l) : wOf e r p < m := (ln_lt (he.2 _ (List.mem_of_getElem? (get_D (x := []) (by rw [he.1]; exact hp))))).2 r hr
def manyT (m l : Nat) (e : List (List Nat)) : Nat := ((List.range m).map fun r => (toldT (wOf e r) l).length).sum
theorem how_many_pieces_ok {m l : Nat} {e : List (List Nat)} {M : Hep} (hf : Flat M) (h1 : 1 ≤ m) (h2 : m ≤ 5) (h3 : 1 ≤ l) (h4 : l ≤ 12) (he : EffOk m l e) : F_how_many_pieces [frD m l, effD e] M = .ok (.int (manyT m l e : Int)) M := by
  have ne := need_effect_ok (M := M) hf h1 h2 h3 h4 he
  have lc := lc_all (vs := [2]) (n0 := M.length) (σ := [some (frD m l), some (effD e), none]) (fi := iRng (lCons (eBin opIx (eVar 0) (eC (.int 0))) lNil)) (g := DL.gVar 2) (te := eApp pLen.op (lCons (eApp F_pieces (lCons (eVar 0) (lCons (eVar 1) (lCons (eVar 2) lNil)))) lNil)) (M := M) (M1 := M) (List.range m) (fun a : Nat => .int (a : Int)) (fun a : Nat => .int (((toldT (wOf e a) l).length : Nat) : Int)) (SK.rng_nat (l := m) (ls_cons (ev_bin (ev_var rfl) ev_c LX.fr_0) ls_nil) (by omega)) (Nat.le_refl _) hf (by simp; omega) (fun _ _ => rfl) fun a acc ha hfl => by
    have ha := List.mem_range.mp ha
    refine ⟨[some (frD m l), some (effD e), some (.int (a : Int))], rfl, ?_⟩
    have p := pieces_ok (M := M ++ [.lst acc]) hfl h1 h2 h3 h4 he ha
    have ln := len_tup (M := M ++ [.lst acc]) ((toldT (wOf e a) l).map LW.cutD)
    rw [List.length_map] at ln
    exact ev_app1 (ev_app3 (ev_var rfl) (ev_var rfl) (ev_var rfl) p) ln
  have sm := sum_nats (xs := List.range m) (f := fun a => (toldT (wOf e a) l).length) (M := M)
  refine run_eq rfl ?_
  simp -implicitDefEqProofs [-List.map_map, B_how_many_pieces, ne, lc, sm, manyT]
end PS

namespace PR
open DL LW
/-! ### joints -/
theorem ln_nodup {m : Nat} {A : List Nat} (h : LnOk m A) : A.Nodup := h.nodup_iff.mpr List.nodup_range
theorem ln_len {m : Nat} {A : List Nat} (h : LnOk m A) : A.length = m := by have := h.length_eq; simpa using this
theorem ln_mem {m : Nat} {A : List Nat} (h : LnOk m A) {x : Nat} (hx : x < m) : x ∈ A := h.mem_iff.mpr (List.mem_range.mpr hx)
theorem ln_ix {m : Nat} {A : List Nat} (h : LnOk m A) {x : Nat} (hx : x < m) : A.idxOf x < m := by
  have := List.idxOf_lt_length_of_mem (ln_mem h hx)
  rwa [ln_len h] at this
theorem ln_at {m : Nat} {A : List Nat} (h : LnOk m A) {x : Nat} (hx : x < m) : A.getD (A.idxOf x) 0 = x := by
  have := ln_ix h hx
  rw [List.getD_eq_getElem?_getD, List.getElem?_eq_getElem (by rw [ln_len h]; exact this)]
  exact List.getElem_idxOf _
theorem ln_of {m : Nat} {A : List Nat} (h : LnOk m A) {i : Nat} (hi : i < m) : A.idxOf (A.getD i 0) = i := by
  have hl := ln_len h
  rw [List.getD_eq_getElem?_getD, List.getElem?_eq_getElem (by omega)]
  exact (ln_nodup h).idxOf_getElem i _
theorem ln_eqs {m : Nat} {A : List Nat} (h : A.length = m) : A = (List.range m).map fun x => A.getD x 0 := by
  rw [← h]
  refine List.ext_getElem (by simp) fun i h1 h2 => ?_
  simp [h1]
def jL (m : Nat) (A L : List Nat) : List Nat := (List.range m).map fun x => L.getD (A.idxOf x) 0
def jst (m : Nat) (A L : List Nat) (i : Nat) : List Nat := (List.range m).map fun x => if A.idxOf x < i then L.getD (A.idxOf x) 0 else L.getD x 0
theorem jst_0 {m : Nat} {A L : List Nat} (h : L.length = m) : jst m A L 0 = L := by
  rw [ln_eqs h]
  unfold jst
  refine List.map_congr_left fun x hx => ?_
  rw [if_neg (by omega), ← ln_eqs h]
theorem jst_m {m : Nat} {A L : List Nat} (h : LnOk m A) : jst m A L m = jL m A L := by
  unfold jst jL
  refine List.map_congr_left fun x hx => ?_
  rw [if_pos (ln_ix h (List.mem_range.mp hx))]
theorem jst_s {m i : Nat} {A L : List Nat} (h : LnOk m A) (hi : i < m) : (jst m A L i).set (A.getD i 0) (L.getD i 0) = jst m A L (i + 1) := by
  refine List.ext_getElem (by simp [jst]) fun x h1 h2 => ?_
  have hx : x < m := by simpa [jst] using h2
  rw [List.getElem_set]
  by_cases z : A.getD i 0 = x
  · rw [if_pos z]
    have : A.idxOf x = i := by rw [← z]; exact ln_of h hi
    simp [jst, this]
  · rw [if_neg z]
    have : A.idxOf x ≠ i := fun e => z (by rw [← e]; exact ln_at h hx)
    simp only [jst, List.getElem_map, List.getElem_range]
    by_cases y : A.idxOf x < i
    · rw [if_pos y, if_pos (by omega)]
    · rw [if_neg y, if_neg (by omega)]
theorem zip_get {m i : Nat} {A L : List Nat} {d : D} (hA : A.length = m) (hL : L.length = m) (h : (zipD (lnD A) (lnD L))[i]? = some d) : i < m ∧ d = .tup [.int ((A.getD i 0 : Nat) : Int), .int ((L.getD i 0 : Nat) : Int)] := by
  have hi : i < m := by
    by_cases z : i < m
    · exact z
    · rw [List.getElem?_eq_none (by simp [zipD]; omega)] at h; cases h
  refine ⟨hi, ?_⟩
  unfold zipD at h
  rw [List.getElem?_zipWith, lnD_get (by omega), lnD_get (by omega)] at h
  cases h; rfl
def JG : SemG := (gLen 2 (gCons (gVar 3) (gCons (gVar 4) gNil)))
def JB : SemS := (sAsg (eVar 4) (gSub (eVar 2) (eVar 3)))
theorem joint_ok {m : Nat} {A L : List Nat} {M : Hep} (hm : m ≤ 100) (hA : LnOk m A) (hL : LnOk m L) : F__joint [.tup (lnD A), .tup (lnD L)] M = .ok (.tup (lnD (jL m A L))) M := by
  obtain ⟨σ', M', e, w3, w4, rfl, rfl⟩ := for_inv (g := JG) (b := JB) (n1 := M.length + 1) (n0 := M.length) (fun i σ M' => ∃ w3 w4, σ = [some (.tup (lnD A)), some (.tup (lnD L)), some (.ref M.length), w3, w4] ∧ M' = M ++ [.lst (lnD (jst m A L i))]) (zipD (lnD A) (lnD L)) (zipD (lnD A) (lnD L)) 0 [some (.tup (lnD A)), some (.tup (lnD L)), some (.ref M.length), none, none] (M ++ [.lst (lnD L)]) ⟨none, none, rfl, by rw [jst_0 (ln_len hL)]⟩ (by
    rintro i d σ M' hd ⟨w3, w4, rfl, rfl⟩
    obtain ⟨hi, rfl⟩ := zip_get (ln_len hA) (ln_len hL) hd
    rw [show 0 + i = i by omega]
    refine ⟨[some (.tup (lnD A)), some (.tup (lnD L)), some (.ref M.length), some (.int ((A.getD i 0 : Nat) : Int)), some (.int ((L.getD i 0 : Nat) : Int))], M ++ [.lst (lnD (jst m A L (i + 1)))], ?_, _, _, rfl, rfl⟩
    have q := ixN_nat (n := (jst m A L i).length) (k := A.getD i 0) (by simp only [jst, List.length_map, List.length_range]; exact (ln_lt hA).2 i hi)
    rw [← jst_s hA hi]
    generalize A.getD i 0 = a at *
    generalize L.getD i 0 = b at *
    simp -implicitDefEqProofs [turnF, JG, JB, q, lnD_set])
  rw [show 0 + (zipD (lnD A) (lnD L)).length = m by simp [zipD, ln_len hA, ln_len hL], jst_m hA] at e
  refine run_eq rfl ?_
  have lp : (pListA true).op [.tup (lnD L)] M = .ok (.ref M.length) (M ++ [.lst (lnD L)]) := by
    show mkLst true (lnD L) M = _
    exact mk_ref (by rw [lnD_len, ln_len hL]; omega)
  have iz : ∀ (f : SemL) n σ M', iZp f n σ M' = (f n σ M').bind fun ds M1 => .of (zipOf ds) M1 := fun _ _ _ _ => rfl
  have zo : zipOf [.tup (lnD A), .tup (lnD L)] = some ⟨zipD (lnD A) (lnD L), none⟩ := rfl
  unfold JG JB at e
  have tl : pTuple.op [.ref M.length] (M ++ [.lst (lnD (jL m A L))]) = _ := tuple_last
  simp -implicitDefEqProofs [B__joint, lp, iz, zo, e, tl]
theorem jL_ok {m : Nat} {A L : List Nat} (hA : LnOk m A) (hL : LnOk m L) : LnOk m (jL m A L) := by
  have e : A.map (fun x => L.getD (A.idxOf x) 0) = L := by
    refine List.ext_getElem (by rw [List.length_map, ln_len hA, ln_len hL]) fun i h1 h2 => ?_
    rw [List.getElem_map]
    rw [List.length_map] at h1
    rw [(ln_nodup hA).idxOf_getElem i h1, List.getD_eq_getElem?_getD, List.getElem?_eq_getElem h2]; rfl
  have := (List.Perm.symm hA).map (fun x => L.getD (A.idxOf x) 0)
  rw [e] at this
  exact this.trans hL
/-- all joints of an effect, behind the line A -/
def joinG (m : Nat) : List Nat → List (List Nat) → List (List Nat)
  | _, [] => []
  | A, L :: e => jL m A L :: joinG m L e
def joinT (m : Nat) (e : List (List Nat)) : List (List Nat) := joinG m (List.range m) e
theorem join_len (m : Nat) : ∀ (e : List (List Nat)) (A : List Nat), (joinG m A e).length = e.length
  | [], _ => rfl
  | L :: e, A => by simp [joinG, join_len m e]
theorem joinG_ok {m : Nat} : ∀ (e : List (List Nat)) (A : List Nat), LnOk m A → (∀ L ∈ e, LnOk m L) → ∀ J ∈ joinG m A e, LnOk m J
  | [], _, _, _, J, hJ => by cases hJ
  | L :: e, A, hA, he, J, hJ => by
    rcases List.mem_cons.mp hJ with z | z
    · rw [z]; exact jL_ok hA (he L List.mem_cons_self)
    · exact joinG_ok e L (he L List.mem_cons_self) (fun x hx => he x (List.mem_cons_of_mem _ hx)) J z
theorem range_ok (m : Nat) : LnOk m (List.range m) := List.Perm.refl _
theorem joinT_ok {m l : Nat} {e : List (List Nat)} (he : EffOk m l e) : EffOk m l (joinT m e) := ⟨by unfold joinT; rw [join_len, he.1], joinG_ok e _ (range_ok m) he.2⟩
theorem joinG_get {m : Nat} : ∀ (e : List (List Nat)) (A : List Nat) (p : Nat), p < e.length → (joinG m A e).getD p [] = jL m (if p = 0 then A else e.getD (p - 1) []) (e.getD p [])
  | [], _, _, h => by simp at h
  | L :: e, A, 0, _ => rfl
  | L :: e, A, p + 1, h => by
    have := joinG_get (m := m) e L p (by simpa using h)
    show (joinG m L e).getD p [] = _
    rw [this]
    cases p with
    | zero => rfl
    | succ p => rfl
theorem joinT_get {m p : Nat} {e : List (List Nat)} (h : p < e.length) : (joinT m e).getD p [] = jL m (if p = 0 then List.range m else e.getD (p - 1) []) (e.getD p []) := joinG_get e _ p h
def tpD (t : List Nat) : D := .tup (lnD t)
theorem tp_low (t : List Nat) : (tpD t).low 0 = true := low_ln t
theorem tp_rg {m : Nat} {M : Hep} (hm : m ≤ 100) : tupRg [.int (m : Int)] M = .ok (tpD (List.range m)) M := by
  show (if rgOkB 0 (m : Int) = true then Res.ok (D.tup (rgD 0 (m : Int))) M else Res.stuck) = _
  rw [if_pos (rgOk0 (by omega)), rgD0]; rfl
/-- the line ahead of place p -/
def aheadT (m : Nat) (e : List (List Nat)) (p : Nat) : List Nat := if p = 0 then List.range m else e.getD (p - 1) []
theorem ahead_ok {m l p : Nat} {e : List (List Nat)} (he : EffOk m l e) (hp : p ≤ l) : LnOk m (aheadT m e p) := by
  unfold aheadT
  split
  · exact range_ok m
  · exact he.2 _ (List.mem_of_getElem? (get_D (x := []) (by rw [he.1]; omega)))
theorem eff_get {m l p : Nat} {e : List (List Nat)} (he : EffOk m l e) (hp : p < l) : LnOk m (e.getD p []) := he.2 _ (List.mem_of_getElem? (get_D (x := []) (by rw [he.1]; exact hp)))
theorem take_snoc {α : Type} {xs : List α} {p : Nat} {x : α} (h : p < xs.length) : xs.take (p + 1) = xs.take p ++ [xs.getD p x] := by
  rw [List.take_succ, List.getElem?_eq_getElem h, List.getD_eq_getElem?_getD, List.getElem?_eq_getElem h]; rfl
def JSB : SemS := (sSeq (sDrop (eMt isLst mApp (eVar 3) (lCons (eApp PR.F__joint (lCons (eVar 2) (lCons (eVar 4) lNil))) lNil))) (sAsg (eVar 4) (gVar 2)))
theorem joints_ok {m l : Nat} {e : List (List Nat)} {M : Hep} (hf : Flat M) (h1 : 1 ≤ m) (h2 : m ≤ 5) (h3 : 1 ≤ l) (h4 : l ≤ 12) (he : EffOk m l e) : F_joints [frD m l, effD e] M = .ok (effD (joinT m e)) M := by
  have ne := need_effect_ok (M := M) hf h1 h2 h3 h4 he
  have jl : (joinT m e).length = l := (joinT_ok he).1
  obtain ⟨σ', M', eL, w4, rfl, rfl⟩ := for_inv (g := DL.gVar 4) (b := JSB) (n1 := M.length + 1) (n0 := M.length) (fun i σ M' => ∃ w4, σ = [some (frD m l), some (effD e), some (tpD (aheadT m e i)), some (.ref M.length), w4] ∧ M' = M ++ [.lst (((joinT m e).take i).map tpD)]) (e.map tpD) (e.map tpD) 0 [some (frD m l), some (effD e), some (tpD (List.range m)), some (.ref M.length), none] (M ++ [.lst []]) ⟨none, rfl, rfl⟩ (by
    rintro i d σ M' hd ⟨w4, rfl, rfl⟩
    rw [show 0 + i = i by omega]
    have hi : i < l := by
      by_cases z : i < l
      · exact z
      · rw [List.getElem?_eq_none (by rw [List.length_map, he.1]; omega)] at hd; cases hd
    rw [List.getElem?_map, get_D (x := []) (by rw [he.1]; exact hi)] at hd
    cases hd
    refine ⟨[some (frD m l), some (effD e), some (tpD (e.getD i [])), some (.ref M.length), some (tpD (e.getD i []))], M ++ [.lst (((joinT m e).take (i + 1)).map tpD)], ?_, some (tpD (e.getD i [])), ?_, rfl⟩
    · have jo := fun M => joint_ok (M := M) (by omega : m ≤ 100) (ahead_ok he (by omega : i ≤ l)) (eff_get he hi)
      have jg : jL m (aheadT m e i) (e.getD i []) = (joinT m e).getD i [] := (joinT_get (by rw [he.1]; exact hi)).symm
      rw [take_snoc (x := []) (by rw [jl]; exact hi), List.map_append, ← jg]
      have jo' : F__joint [tpD (aheadT m e i), tpD (e.getD i [])] (M ++ [.lst (((joinT m e).take i).map tpD)]) = .ok (tpD (jL m (aheadT m e i) (e.getD i []))) _ := jo _
      have sz : (((joinT m e).take i).map tpD).length < 1000000 := by rw [List.length_map, List.length_take]; omega
      generalize ((joinT m e).take i).map tpD = T at *
      generalize e.getD i [] = L at *
      generalize aheadT m e i = A at *
      simp -implicitDefEqProofs [turnF, JSB, jo', sz]
    · simp [aheadT])
  rw [List.length_map, he.1, Nat.zero_add, List.take_of_length_le (by omega)] at eL
  refine run_eq rfl ?_
  have tr := tp_rg (m := m) (M := M) (by omega)
  unfold JSB at eL
  have it : itmOf (effD e) (M ++ [Ob.lst []]) = some ⟨e.map tpD, none⟩ := rfl
  have tl : pTuple.op [.ref M.length] (M ++ [.lst ((joinT m e).map tpD)]) = _ := tuple_last
  have lw : lows 0 ((joinT m e).map tpD) = true := lows_map tp_low _
  have ef : effD (joinT m e) = .tup ((joinT m e).map tpD) := rfl
  rw [ef]
  simp -implicitDefEqProofs [-List.map_map, B_joints, ne, tr, it, eL, tl, lw]
theorem is_effect_ok {m l : Nat} {e : List (List Nat)} {M : Hep} (hf : Flat M) (h1 : 1 ≤ m) (h2 : m ≤ 5) (h3 : 1 ≤ l) (h4 : l ≤ 12) (he : EffOk m l e) : F_is_effect [frD m l, effD e] M = .ok (.bl true) M := by
  have nf := need_frame_ok h1 h2 h3 h4 M
  have lc := lc_all (vs := [4]) (n0 := M.length) (σ := [some (frD m l), some (effD e), some (.int (m : Int)), some (.int (l : Int)), none]) (fi := iSeq (eVar 1)) (g := DL.gVar 4) (te := eApp F_is_line (lCons (eVar 2) (lCons (eVar 4) lNil))) (M := M) (M1 := M) e tpD (fun _ => .bl true) rfl (Nat.le_refl _) hf (by rw [he.1]; omega) (fun _ _ => rfl) fun ln acc hln hfl =>
    ⟨[some (frD m l), some (effD e), some (.int (m : Int)), some (.int (l : Int)), some (tpD ln)], rfl, ev_app2 (ev_var rfl) (ev_var rfl) (is_line_ok hfl (by omega) (he.2 ln hln))⟩
  have at' : pAll.op [.fz (e.map fun _ => D.bl true)] M = .ok (.bl true) M := by
    have := all_fz (f := fun _ : List Nat => true) (xs := e) (M := M)
    rw [this]; simp
  have g2 : ∀ w2 w3 w4, gLen 2 (DL.gCons (DL.gVar 2) (DL.gCons (DL.gVar 3) DL.gNil)) M.length (frD m l) [some (frD m l), some (effD e), w2, w3, w4] M = .ok [some (frD m l), some (effD e), some (.int (m : Int)), some (.int (l : Int)), w4] M := fun _ _ _ => rfl
  have is : pIsi.op [effD e, .ty "tuple"] M = .ok (.bl true) M := isi_tup _
  have ln : pLen.op [effD e] M = .ok (.int (l : Int)) M := by
    have := len_tup (M := M) (e.map fun ln => D.tup (lnD ln))
    rwa [List.length_map, he.1] at this
  refine run_eq rfl ?_
  simp -implicitDefEqProofs [-r_glen, B_is_effect, nf, g2, is, ln, lc, at']
/-- joints done one behind the other, from the line A on -/
def withG (m : Nat) : List Nat → List (List Nat) → List (List Nat)
  | _, [] => []
  | A, J :: js => A.map (fun x => J.getD x 0) :: withG m (A.map (fun x => J.getD x 0)) js
def withT (m : Nat) (js : List (List Nat)) : List (List Nat) := withG m (List.range m) js
theorem withG_len (m : Nat) : ∀ (js : List (List Nat)) (A : List Nat), (withG m A js).length = js.length
  | [], _ => rfl
  | J :: js, A => by simp [withG, withG_len m js]
theorem comp_ok {m : Nat} {A J : List Nat} (hA : LnOk m A) (hJ : LnOk m J) : LnOk m (A.map fun x => J.getD x 0) := by
  have h := List.Perm.map (fun x => J.getD x 0) hA
  rw [← ln_eqs (ln_len hJ)] at h
  exact h.trans hJ
theorem withG_ok {m : Nat} : ∀ (js : List (List Nat)) (A : List Nat), LnOk m A → (∀ J ∈ js, LnOk m J) → ∀ L ∈ withG m A js, LnOk m L
  | [], _, _, _, L, hL => by cases hL
  | J :: js, A, hA, hj, L, hL => by
    have := comp_ok hA (hj J List.mem_cons_self)
    rcases List.mem_cons.mp hL with z | z
    · rw [z]; exact this
    · exact withG_ok js _ this (fun x hx => hj x (List.mem_cons_of_mem _ hx)) L z
theorem withT_ok {m l : Nat} {js : List (List Nat)} (hj : EffOk m l js) : EffOk m l (withT m js) := ⟨by unfold withT; rw [withG_len, hj.1], withG_ok js _ (range_ok m) hj.2⟩
theorem withG_get {m : Nat} : ∀ (js : List (List Nat)) (A : List Nat) (p : Nat), p < js.length → (withG m A js).getD p [] = (if p = 0 then A else (withG m A js).getD (p - 1) []).map fun x => (js.getD p []).getD x 0
  | [], _, _, h => by simp at h
  | J :: js, A, 0, _ => rfl
  | J :: js, A, p + 1, h => by
    have := withG_get (m := m) js (A.map fun x => J.getD x 0) p (by simpa using h)
    show (withG m (A.map fun x => J.getD x 0) js).getD p [] = _
    rw [this]
    cases p with
    | zero => rfl
    | succ p => rfl
def WB : SemS := (sSeq (sAsg (eApp pTuple.op (lCons (eLc false false [5] (iSeq (eVar 2)) (gVar 5) (fun _ _ M => .ok true M) (eBin opIx (eVar 4) (eVar 5))) lNil)) (gVar 2)) (sDrop (eMt isLst mApp (eVar 3) (lCons (eVar 2) lNil))))
theorem with_joints_ok {m l : Nat} {js : List (List Nat)} {M : Hep} (hf : Flat M) (h1 : 1 ≤ m) (h2 : m ≤ 5) (h3 : 1 ≤ l) (h4 : l ≤ 12) (hj : EffOk m l js) : F_with_joints [frD m l, effD js] M = .ok (effD (withT m js)) M := by
  have ie := is_effect_ok (M := M) hf h1 h2 h3 h4 hj
  have wo := withT_ok hj
  obtain ⟨σ', M', eL, w4, w5, rfl, rfl⟩ := for_inv (g := DL.gVar 4) (b := WB) (n1 := M.length + 1) (n0 := M.length) (fun i σ M' => ∃ w4 w5, σ = [some (frD m l), some (effD js), some (tpD (aheadT m (withT m js) i)), some (.ref M.length), w4, w5] ∧ M' = M ++ [.lst (((withT m js).take i).map tpD)]) (js.map tpD) (js.map tpD) 0 [some (frD m l), some (effD js), some (tpD (List.range m)), some (.ref M.length), none, none] (M ++ [.lst []]) ⟨none, none, rfl, rfl⟩ (by
    rintro i d σ M' hd ⟨w4, w5, rfl, rfl⟩
    rw [show 0 + i = i by omega]
    have hi : i < l := by
      by_cases z : i < l
      · exact z
      · rw [List.getElem?_eq_none (by rw [List.length_map, hj.1]; omega)] at hd; cases hd
    rw [List.getElem?_map, get_D (x := []) (by rw [hj.1]; exact hi)] at hd
    cases hd
    have hA := ahead_ok wo (by omega : i ≤ l)
    have hJ := eff_get hj hi
    have ag : (withT m js).getD i [] = (aheadT m (withT m js) i).map fun x => (js.getD i []).getD x 0 := withG_get js _ i (by rw [hj.1]; exact hi)
    refine ⟨[some (frD m l), some (effD js), some (tpD ((withT m js).getD i [])), some (.ref M.length), some (tpD (js.getD i [])), w5], M ++ [.lst (((withT m js).take (i + 1)).map tpD)], ?_, some (tpD (js.getD i [])), w5, ?_, rfl⟩
    · rw [take_snoc (x := []) (by rw [wo.1]; exact hi), List.map_append]
      have sz : (((withT m js).take i).map tpD).length < 1000000 := by rw [List.length_map, List.length_take]; have := wo.1; omega
      have lwT : lows 0 (((withT m js).take i).map tpD) = true := lows_map tp_low _
      generalize ((withT m js).take i).map tpD = T at *
      have hfl : Flat (M ++ [.lst T]) := flat_app hf lwT
      have lc := lc_all (vs := [5]) (n0 := M.length) (σ := [some (frD m l), some (effD js), some (tpD (aheadT m (withT m js) i)), some (.ref M.length), some (tpD (js.getD i [])), w5]) (fi := iSeq (eVar 2)) (g := DL.gVar 5) (te := eBin opIx (eVar 4) (eVar 5)) (M := M ++ [.lst T]) (M1 := M ++ [.lst T]) (aheadT m (withT m js) i) (fun x : Nat => .int (x : Int)) (fun x : Nat => .int (((js.getD i []).getD x 0 : Nat) : Int)) rfl (by simp) hfl (by rw [ln_len hA]; omega) (fun _ _ => rfl) fun x acc hx hfl => by
        have hx : x < m := List.mem_range.mp (hA.mem_iff.mp hx)
        refine ⟨[some (frD m l), some (effD js), some (tpD (aheadT m (withT m js) i)), some (.ref M.length), some (tpD (js.getD i [])), some (.int (x : Int))], rfl, ?_⟩
        exact ev_bin (ev_var rfl) (ev_var rfl) (ix_tup (lnD_get (by rw [ln_len hJ]; exact hx)))
      have le : (aheadT m (withT m js) i).map (fun x : Nat => D.int (((js.getD i []).getD x 0 : Nat) : Int)) = lnD ((withT m js).getD i []) := by
        rw [ag]
        unfold lnD
        rw [List.map_map]; rfl
      rw [le] at lc
      generalize (withT m js).getD i [] = L at *
      generalize aheadT m (withT m js) i = A at *
      generalize js.getD i [] = J at *
      have tf : ∀ M, pTuple.op [.fz (lnD L)] M = .ok (tpD L) M := fun _ => rfl
      simp -implicitDefEqProofs [turnF, WB, lc, tf, sz]
    · simp [aheadT])
  rw [List.length_map, hj.1, Nat.zero_add, List.take_of_length_le (by rw [wo.1]; omega)] at eL
  refine run_eq rfl ?_
  have tr := tp_rg (m := m) (M := M) (by omega)
  unfold WB at eL
  have it : itmOf (effD js) (M ++ [Ob.lst []]) = some ⟨js.map tpD, none⟩ := rfl
  have tl : pTuple.op [.ref M.length] (M ++ [.lst ((withT m js).map tpD)]) = _ := tuple_last
  have lw : lows 0 ((withT m js).map tpD) = true := lows_map tp_low _
  have ef : effD (withT m js) = .tup ((withT m js).map tpD) := rfl
  rw [ef]
  simp -implicitDefEqProofs [-List.map_map, B_with_joints, ie, tr, it, eL, tl, lw]
end PR

namespace DL
open LW PR
/-- [f x for x in xs], over a list that stays -/
theorem lc_allC {vs : List Nat} {fi : SemI} {g : SemG} {te : SemE} {n0 : Nat} {σ : Sl} {M M1 : Hep} {α : Type} (xs : List α) (en f : α → D) {src : Option (Nat × List D)} (hi : fi n0 σ M = .ok ⟨xs.map en, src⟩ M1) (hc : ∀ acc, (Itm.mk (xs.map en) src).chk (M1 ++ [.lst acc]) = true) (hn : n0 ≤ M1.length) (hf : Flat M1) (hz : xs.length ≤ 1000000)
    (hlow : ∀ x ∈ xs, (f x).low 0 = true)
    (hs : ∀ x acc, x ∈ xs → Flat (M1 ++ [.lst acc]) → ∃ σ1, g n0 (en x) (wipeD σ vs) (M1 ++ [.lst acc]) = .ok σ1 (M1 ++ [.lst acc]) ∧ te n0 σ1 (M1 ++ [.lst acc]) = .ok (f x) (M1 ++ [.lst acc])) :
    eLc false false vs fi g (fun _ _ M => .ok true M) te n0 σ M = .ok (.fz (xs.map f)) M1 := by
  have fin : Ok (eLc false false vs fi g (fun _ _ M => .ok true M) te n0 σ M) fun d M' => d = .fz (xs.map f) ∧ M' = M1 := by
    refine ok_lc (fun i acc M' => M' = M1 ∧ acc = (xs.take i).map f) hi hn ⟨rfl, rfl⟩ hf (by show (xs.map en).length ≤ PySem.sizeLine; unfold PySem.sizeLine; simp; omega) ?_ ?_
    · rintro i d acc M2 hd ⟨rfl, rfl⟩ hlen hfl
      refine ⟨hc _, ?_⟩
      have hi' : i < xs.length := by
        by_cases z : i < xs.length
        · exact z
        · rw [show (Itm.mk (xs.map en) src).ds = xs.map en from rfl, List.getElem?_eq_none (by rw [List.length_map]; omega)] at hd; cases hd
      rw [show (Itm.mk (xs.map en) src).ds = xs.map en from rfl, List.getElem?_map, List.getElem?_eq_getElem hi'] at hd
      cases hd
      have hm := List.getElem_mem hi'
      have lowA : lows 0 ((xs.take i).map f) = true := lows_mem fun x hx => hlow x (List.mem_of_mem_take hx)
      obtain ⟨σ1, e1, e2⟩ := hs xs[i] ((xs.take i).map f) hm (flat_app hfl lowA)
      rw [e1, ok_ok, ok_ok]
      refine ⟨rfl, ?_⟩
      rw [e2, ok_ok]
      refine ⟨M2, rfl, rfl, hfl, hlow _ hm, rfl, ?_⟩
      rw [List.take_succ, List.getElem?_eq_getElem hi', List.map_append]
      rfl
    · rintro acc M2 ⟨rfl, rfl⟩ hlen hfl hlow
      exact ⟨hc _, by rw [show (Itm.mk (xs.map en) src).ds = xs.map en from rfl, List.length_map, List.take_length], rfl⟩
  obtain ⟨d, M', e, rfl, rfl⟩ := ok_iff.mp fin
  exact e
theorem frzDs_app {look : Nat → Option D} {a b c d : List D} (h : frzDs look a = some c) (h' : frzDs look b = some d) : frzDs look (a ++ b) = some (c ++ d) := by
  induction a generalizing c with
  | nil => simp only [frzDs] at h; cases h; simpa using h'
  | cons x xs ih =>
    simp only [frzDs, Option.bind_eq_some_iff, Option.map_eq_some_iff] at h
    obtain ⟨y, h1, ys, h2, rfl⟩ := h
    simp only [List.cons_append, frzDs, h1, ih h2, Option.map_some, Option.bind_some]
/-- a turn that hands its new list to the list that stays -/
theorem settle_keep {M : Hep} {R row : List D} {σ : Sl} (hR : lows 0 R = true) (hr : lows 0 row = true) : settle M.length (M.length + 1) σ (M ++ [.lst (R ++ [.ref (M.length + 1)]), .lst row]) = some (σ.map fun o => o.bind (frz (M.length + 1) (M ++ [.lst (R ++ [.ref (M.length + 1)]), .lst row])), M ++ [.lst (R ++ [.fz row])]) := by
  unfold settle
  rw [if_neg (by simp)]
  have tk : (M ++ [Ob.lst (R ++ [.ref (M.length + 1)]), Ob.lst row]).take (M.length + 1) = M ++ [.lst (R ++ [.ref (M.length + 1)])] := by
    rw [List.take_append, List.take_of_length_le (by omega)]
    simp
  have t0 : (M ++ [Ob.lst (R ++ [.ref (M.length + 1)]), Ob.lst row]).take M.length = M := by simp
  rw [tk, t0, List.drop_append_of_le_length (Nat.le_refl _), List.drop_length, List.nil_append]
  have at1 : (M ++ [Ob.lst (R ++ [.ref (M.length + 1)]), Ob.lst row])[M.length + 1]? = some (.lst row) := by simp
  have lk : look (M.length + 1) (M ++ [Ob.lst (R ++ [.ref (M.length + 1)]), Ob.lst row]) 8 (M.length + 1) = some (.fz row) := by
    unfold look
    rw [if_neg (by omega), at1]
    simp [frzDs_low (look_low (n := M.length + 1)) row (lows_mono (Nat.zero_le _) _ hr)]
  have f1 : frzDs (look (M.length + 1) (M ++ [Ob.lst (R ++ [.ref (M.length + 1)]), Ob.lst row]) 8) (R ++ [.ref (M.length + 1)]) = some (R ++ [.fz row]) := by
    refine frzDs_app (frzDs_low (look_low (n := M.length + 1)) R (lows_mono (Nat.zero_le _) _ hR)) ?_
    simp only [frzDs, frzD, lk, Option.map_some, Option.bind_some]
  simp [frzObs, frzOb, f1]
theorem dec_at {x : Nat} : ∀ {A : List Nat} {L : List Nat}, x ∈ A → A.length = L.length → valD (lnD A) (lnD L) (.int (x : Int)) = some (.int ((L.getD (A.idxOf x) 0 : Nat) : Int))
  | [], _, h, _ => by cases h
  | a :: A, [], _, h => by simp at h
  | a :: A, b :: L, h, hl => by
    by_cases z : a = x
    · subst z
      simp [lnD, valD, D.eq]
    · have hx : x ∈ A := by
        rcases List.mem_cons.mp h with y | y
        · exact absurd y.symm z
        · exact y
      have ih := dec_at (L := L) hx (by simpa using hl)
      have ix : (a :: A).idxOf x = A.idxOf x + 1 := by
        rw [List.idxOf_cons, beq_false_of_ne z]; rfl
      rw [ix]
      have : valD (lnD (a :: A)) (lnD (b :: L)) (.int (x : Int)) = valD (lnD A) (lnD L) (.int (x : Int)) := by
        have ze : ¬ ((a : Int) = (x : Int)) := by omega
        simp [lnD, valD, D.eq, ze]
      rw [this, ih]
      rfl
theorem put_new {x y : Nat} {A L : List Nat} (h : x ∉ A) : putD (lnD A) (lnD L) (.int (x : Int)) (.int (y : Int)) = (lnD (A ++ [x]), lnD (L ++ [y])) := by
  have : ((lnD A).any fun k' => D.eq k' (.int (x : Int))) = false := by
    rw [List.any_eq_false]
    intro d hd
    obtain ⟨a, ha, rfl⟩ := List.mem_map.mp hd
    have : ¬ ((a : Int) = (x : Int)) := fun e => by
      have z : a = x := by omega
      subst z; exact h ha
    simp [D.eq, this]
  unfold putD
  rw [this]
  simp [lnD]
end DL

namespace PR
open DL LW
theorem swap_perm {m a b : Nat} (ha : a < m) (hb : b < m) : ((List.range m).map (swapN a b)).Perm (List.range m) := by
  rw [← swap_range ha hb]
  have := List.set_set_perm (as := List.range m) (i := a) (j := b) (by simpa using ha) (by simpa using hb)
  simpa using this
theorem line_perm {m l : Nat} (p : Nat) : ∀ {r : List Cut}, (∀ c ∈ r, CutOk m l c) → ((List.range m).map (lineF r p)).Perm (List.range m)
  | [], _ => by
    have : (List.range m).map (lineF [] p) = List.range m := by
      conv => rhs; rw [← List.map_id (List.range m)]
      rfl
    rw [this]
  | c :: r, h => by
    have ih := line_perm p (r := r) fun x hx => h x (List.mem_cons_of_mem _ hx)
    have e : (List.range m).map (lineF (c :: r) p) = ((List.range m).map (lineF r p)).map (actC c p) := by rw [List.map_map]; rfl
    rw [e]
    refine (ih.map _).trans ?_
    have hc := h c List.mem_cons_self
    by_cases z : c.1 ≤ p
    · have : actC c p = swapN c.2.1 c.2.2 := by funext k; simp [actC, z]
      rw [this]
      exact swap_perm (by have := hc.2; omega) hc.2.2
    · have : actC c p = id := by funext k; simp [actC, z]
      rw [this, List.map_id]
theorem does_eff {m l : Nat} {r : List Cut} (h : ∀ c ∈ r, CutOk m l c) : EffOk m l (doesT m l r) := ⟨by simp [doesT], fun ln hl => by
  obtain ⟨p, _, rfl⟩ := List.mem_map.mp hl
  exact line_perm p h⟩
end PR

namespace PR
open DL LW
/-! ### what holds of each line of few ribbons, gone through -/
def listsT (m : Nat) : Nat → List (List Nat)
  | 0 => [[]]
  | k + 1 => (listsT m k).flatMap fun l => (List.range m).map fun x => x :: l
theorem lists_mem {m : Nat} : ∀ (k : Nat) (l : List Nat), l.length = k → (∀ x ∈ l, x < m) → l ∈ listsT m k
  | 0, [], _, _ => by simp [listsT]
  | 0, x :: l, h, _ => by simp at h
  | k + 1, [], h, _ => by simp at h
  | k + 1, x :: l, h, hx => by
    unfold listsT
    exact List.mem_flatMap.mpr ⟨l, lists_mem k l (by simpa using h) (fun y hy => hx y (List.mem_cons_of_mem _ hy)), List.mem_map.mpr ⟨x, List.mem_range.mpr (hx x List.mem_cons_self), rfl⟩⟩
def nodupB : List Nat → Bool
  | [] => true
  | x :: l => !l.contains x && nodupB l
theorem nodupB_ok : ∀ l : List Nat, l.Nodup → nodupB l = true
  | [], _ => rfl
  | x :: l, h => by
    rw [List.nodup_cons] at h
    unfold nodupB
    rw [nodupB_ok l h.2]
    simpa using h.1
def permsT (m : Nat) : List (List Nat) := (listsT m m).filter nodupB
theorem perms_mem {m : Nat} {j : List Nat} (h : LnOk m j) : j ∈ permsT m :=
  List.mem_filter.mpr ⟨lists_mem m j (ln_len h) (fun x hx => List.mem_range.mp (h.mem_iff.mp hx)), nodupB_ok j (ln_nodup h)⟩
theorem all_perms {P : Nat → List Nat → Bool} (h : ((List.range 6).all fun m => (permsT m).all (P m)) = true) {m : Nat} {j : List Nat} (hm : m ≤ 5) (hj : LnOk m j) : P m j = true := by
  rw [List.all_eq_true] at h
  have := h m (List.mem_range.mpr (by omega))
  rw [List.all_eq_true] at this
  exact this j (perms_mem hj)
/-! ### rounds -/
def itN (j : List Nat) (x : Nat) : Nat → Nat
  | 0 => x
  | k + 1 => j.getD (itN j x k) 0
def perT (j : List Nat) (x : Nat) : Nat := ((List.range 5).find? fun k => itN j x (k + 1) == x).getD 0
def orbT (j : List Nat) (x : Nat) : List Nat := (List.range (perT j x + 1)).map (itN j x)
theorem per_all : ((List.range 6).all fun m => (permsT m).all fun j => (List.range m).all fun x => decide (perT j x < m) && (itN j x (perT j x + 1) == x) && (List.range (perT j x)).all fun k => !(itN j x (k + 1) == x)) = true := by decide +kernel
theorem per_ok {m x : Nat} {j : List Nat} (hm : m ≤ 5) (hj : LnOk m j) (hx : x < m) : perT j x < m ∧ itN j x (perT j x + 1) = x ∧ ∀ k, k < perT j x → itN j x (k + 1) ≠ x := by
  have h := all_perms (P := fun m j => (List.range m).all fun x => decide (perT j x < m) && (itN j x (perT j x + 1) == x) && (List.range (perT j x)).all fun k => !(itN j x (k + 1) == x)) per_all hm hj
  rw [List.all_eq_true] at h
  have := h x (List.mem_range.mpr hx)
  simp only [Bool.and_eq_true, decide_eq_true_eq, beq_iff_eq, List.all_eq_true, List.mem_range, Bool.not_eq_true', beq_eq_false_iff_ne] at this
  exact ⟨this.1.1, this.1.2, this.2⟩
theorem it_lt {m x : Nat} {j : List Nat} (hj : LnOk m j) (hx : x < m) : ∀ k, itN j x k < m
  | 0 => hx
  | k + 1 => (ln_lt hj).2 _ (it_lt hj hx k)
def RWB : SemS := (sDrop (eMt isLst mApp (eVar 2) (lCons (eBin opIx (eVar 0) (eBin opIx (eVar 2) (eUn opNeg (eC (.int 1))))) lNil)))
def RWC : SemT := (tOf (eBin opNe (eBin opIx (eVar 0) (eBin opIx (eVar 2) (eUn opNeg (eC (.int 1))))) (eVar 1)))
theorem round_with_ok {m x : Nat} {j : List Nat} {M : Hep} (hm : m ≤ 5) (hj : LnOk m j) (hx : x < m) : F_round_with [tpD j, .int (x : Int)] M = .ok (.fz (lnD (orbT j x))) M := by
  obtain ⟨p1, p2, p3⟩ := per_ok hm hj hx
  have jx : ∀ M k, opIx (tpD j) (.int ((itN j x k : Nat) : Int)) M = .ok (.int ((itN j x (k + 1) : Nat) : Int)) M := fun M k => ix_tup (lnD_get (by rw [ln_len hj]; exact it_lt hj hx k))
  have sn : ∀ i, lnD ((List.range (i + 1)).map (itN j x)) = lnD ((List.range i).map (itN j x)) ++ [.int ((itN j x i : Nat) : Int)] := fun i => by
    rw [List.range_succ, List.map_append]
    simp [lnD]
  have last : ∀ i, opIx (.ref M.length) (.int (-1)) (M ++ [.lst (lnD ((List.range (i + 1)).map (itN j x)))]) = .ok (.int ((itN j x i : Nat) : Int)) (M ++ [.lst (lnD ((List.range (i + 1)).map (itN j x)))]) := fun i => by
    rw [sn]
    exact ix_last (ds := lnD ((List.range i).map (itN j x))) (by simp)
  have loop := while_inv (c := RWC) (b := RWB) (n1 := M.length + 1) (n0 := M.length)
    (fun i σ M' => σ = [some (tpD j), some (.int (x : Int)), some (.ref M.length)] ∧ M' = M ++ [.lst (lnD ((List.range (i + 1)).map (itN j x)))])
    (P := fun σ M' => σ = [some (tpD j), some (.int (x : Int)), some (.ref M.length)] ∧ M' = M ++ [.lst (lnD (orbT j x))])
    (perT j x) wFuel 0 [some (tpD j), some (.int (x : Int)), some (.ref M.length)] (M ++ [.lst [.int (x : Int)]]) ⟨rfl, rfl⟩ (by unfold wFuel; omega) ?_ ?_
  · obtain ⟨σ', M', e, rfl, rfl⟩ := loop
    refine run_eq rfl ?_
    unfold RWC RWB at e
    have lw : lows 0 (lnD (orbT j x)) = true := low_lnD _
    simp -implicitDefEqProofs [B_round_with, e, lw]
  · rintro i σ M' hi ⟨rfl, rfl⟩
    rw [show 0 + i = i by omega]
    have ls := last i
    have j1 := fun M => jx M i
    have ne : decide (((itN j x (i + 1) : Nat) : Int) = (x : Int)) = false := decide_eq_false (by have := p3 i hi; omega)
    have ap := sn (i + 1)
    refine ⟨M ++ [.lst (lnD ((List.range (i + 1)).map (itN j x)))], [some (tpD j), some (.int (x : Int)), some (.ref M.length)], M ++ [.lst (lnD ((List.range (i + 1 + 1)).map (itN j x)))], ?_, ?_, rfl, rfl⟩
    · generalize lnD ((List.range (i + 1)).map (itN j x)) = T at *
      simp -implicitDefEqProofs [RWC, ls, j1, ne]
    · have sz : (lnD ((List.range (i + 1)).map (itN j x))).length < 1000000 := by simp; omega
      rw [ap]
      generalize lnD ((List.range (i + 1)).map (itN j x)) = T at *
      simp -implicitDefEqProofs [turnW, RWB, ls, j1, sz]
  · rintro σ M' ⟨rfl, rfl⟩
    rw [show 0 + perT j x = perT j x by omega]
    have ls := last (perT j x)
    have j1 := fun M => jx M (perT j x)
    have ye : decide (((itN j x (perT j x + 1) : Nat) : Int) = (x : Int)) = true := decide_eq_true (by omega)
    refine ⟨M ++ [.lst (lnD (orbT j x))], ?_, rfl, rfl⟩
    unfold orbT
    generalize lnD ((List.range (perT j x + 1)).map (itN j x)) = T at *
    simp -implicitDefEqProofs [RWC, ls, j1, ye]
def minN : Nat → List Nat → Nat
  | x, [] => x
  | x, y :: ys => minN (if y < x then y else x) ys
theorem minI_N : ∀ (ys : List Nat) (x : Nat), minI (x : Int) (ys.map fun (y : Nat) => (y : Int)) = ((minN x ys : Nat) : Int)
  | [], x => rfl
  | y :: ys, x => by
    rw [List.map_cons, minI, minN, ← minI_N ys]
    by_cases z : y < x
    · rw [if_pos z, if_pos (by omega)]
    · rw [if_neg z, if_neg (by omega)]
/-- whether a round is told from its least ribbon on -/
def ledB : List Nat → Bool
  | [] => false
  | x :: ys => decide (x = minN x ys)
def roundsT (m : Nat) (j : List Nat) : List (List Nat) := ((List.range m).map (orbT j)).filter ledB
theorem orb_cons (j : List Nat) (x : Nat) : ∃ ys, orbT j x = x :: ys := ⟨(List.range (perT j x)).map (fun k => itN j x (k + 1)), by
  unfold orbT
  rw [List.range_succ_eq_map, List.map_cons, List.map_map]; rfl⟩
theorem min_ln {x : Nat} {ys : List Nat} {M : Hep} : pMinA.op [.fz (lnD (x :: ys))] M = .ok (.int ((minN x ys : Nat) : Int)) M := by
  have := ints_map (fun (k : Nat) => (k : Int)) (x :: ys)
  unfold PL.op pMinA PL.or
  have e1 : pMin [.fz (lnD (x :: ys))] M = none := rfl
  have e2 : pMinL [.fz (lnD (x :: ys))] M = some (.ok (.int ((minN x ys : Nat) : Int)) M) := by
    unfold pMinL
    simp only [lst?, Option.bind_some]
    rw [show lnD (x :: ys) = (x :: ys).map fun (k : Nat) => D.int (k : Nat) from rfl, this]
    simp only [List.map_cons]
    rw [minI_N]
  simp only [e1, e2]
  rfl
theorem rounds_of_ok {m : Nat} {j : List Nat} {M : Hep} (hf : Flat M) (hm : m ≤ 5) (hj : LnOk m j) : F_rounds_of [tpD j] M = .ok (.fz ((roundsT m j).map fun o => .fz (lnD o))) M := by
  have ln : pLen.op [tpD j] M = .ok (.int (m : Int)) M := by
    have := len_tup (M := M) (lnD j)
    rwa [lnD_len, ln_len hj] at this
  have c1 := lc_all (vs := [2]) (n0 := M.length) (σ := [some (tpD j), none, none, none]) (fi := iRng (lCons (eApp pLen.op (lCons (eVar 0) lNil)) lNil)) (g := DL.gVar 2) (te := eApp PR.F_round_with (lCons (eVar 0) (lCons (eVar 2) lNil))) (M := M) (M1 := M) (List.range m) (fun a : Nat => .int (a : Int)) (fun x : Nat => .fz (lnD (orbT j x))) (SK.rng_nat (l := m) (ls_cons (ev_app1 (ev_var rfl) ln) ls_nil) (by omega)) (Nat.le_refl _) hf (by simp; omega) (fun _ _ => by simp only [D.low]; exact low_lnD _) fun x acc hx hfl =>
    ⟨[some (tpD j), none, some (.int (x : Int)), none], rfl, ev_app2 (ev_var rfl) (ev_var rfl) (round_with_ok hm hj (List.mem_range.mp hx))⟩
  have e1 : (List.range m).map (fun x : Nat => D.fz (lnD (orbT j x))) = ((List.range m).map (orbT j)).map fun o => .fz (lnD o) := by rw [List.map_map]; rfl
  rw [e1] at c1
  have c2 := lc_map (vs := [3]) (n0 := M.length) (σ := [some (tpD j), some (.fz (((List.range m).map (orbT j)).map fun o => .fz (lnD o))), none, none]) (fi := iSeq (eVar 1)) (g := DL.gVar 3) (tt := tOf (eBin opEq (eBin opIx (eVar 3) (eC (.int 0))) (eApp pMinA.op (lCons (eVar 3) lNil)))) (te := eVar 3) (M := M) (M1 := M) ((List.range m).map (orbT j)) (fun o => .fz (lnD o)) (fun o => .fz (lnD o)) ledB rfl (Nat.le_refl _) hf (by simp; omega) (fun _ _ _ => by simp only [D.low]; exact low_lnD _) fun o acc ho hfl => by
    obtain ⟨x, _, rfl⟩ := List.mem_map.mp ho
    obtain ⟨ys, hy⟩ := orb_cons j x
    rw [hy]
    refine ⟨[some (tpD j), some (.fz (((List.range m).map (orbT j)).map fun o => .fz (lnD o))), none, some (.fz (lnD (x :: ys)))], rfl, ?_, fun _ => rfl⟩
    have i0 : opIx (.fz (lnD (x :: ys))) (.int 0) (M ++ [.lst acc]) = .ok (.int (x : Int)) (M ++ [.lst acc]) := ix_fz (k := 0) rfl
    have mi := min_ln (x := x) (ys := ys) (M := M ++ [.lst acc])
    refine t_of (ev_bin (ev_bin (ev_var rfl) ev_c i0) (ev_app1 (ev_var rfl) mi) ?_)
    rw [eq_int, show ledB (x :: ys) = decide (x = minN x ys) from rfl]
    by_cases z : x = minN x ys
    · rw [decide_eq_true z, decide_eq_true (by omega)]
    · rw [decide_eq_false z, decide_eq_false (by omega)]
  refine run_eq rfl ?_
  have lw : lows 0 ((roundsT m j).map fun o => D.fz (lnD o)) = true := lows_map (f := fun o => D.fz (lnD o)) (fun _ => by simp only [D.low]; exact low_lnD _) _
  have e2 : (((List.range m).map (orbT j)).filter ledB).map (fun o => D.fz (lnD o)) = (roundsT m j).map fun o => .fz (lnD o) := rfl
  rw [e2] at c2
  generalize (roundsT m j).map (fun o => D.fz (lnD o)) = R at *
  generalize ((List.range m).map (orbT j)).map (fun o => D.fz (lnD o)) = T at *
  simp -implicitDefEqProofs [B_rounds_of, c1, c2, lw]
/-- exchanges of two that turn a joint -/
def fewJ (m : Nat) (j : List Nat) : Nat := m - (roundsT m j).length
theorem rounds_le (m : Nat) (j : List Nat) : (roundsT m j).length ≤ m := by
  unfold roundsT
  have := List.length_filter_le ledB ((List.range m).map (orbT j))
  simpa using this
theorem exchanges_in_ok {m : Nat} {j : List Nat} {M : Hep} (hf : Flat M) (hm : m ≤ 5) (hj : LnOk m j) : F_exchanges_in [tpD j] M = .ok (.int ((fewJ m j : Nat) : Int)) M := by
  have ln : pLen.op [tpD j] M = .ok (.int (m : Int)) M := by
    have := len_tup (M := M) (lnD j)
    rwa [lnD_len, ln_len hj] at this
  have r := rounds_of_ok (M := M) hf hm hj
  have l2 := len_fz (M := M) ((roundsT m j).map fun o => .fz (lnD o))
  rw [List.length_map] at l2
  have hr := rounds_le m j
  have c : (m : Int) - ((roundsT m j).length : Int) = ((fewJ m j : Nat) : Int) := by unfold fewJ; omega
  refine run_eq rfl ?_
  generalize (roundsT m j).map (fun o => D.fz (lnD o)) = R at *
  simp -implicitDefEqProofs [B_exchanges_in, ln, r, l2, c]
def fewT (m : Nat) (e : List (List Nat)) : Nat := ((joinT m e).map (fewJ m)).sum
theorem fewest_ok {m l : Nat} {e : List (List Nat)} {M : Hep} (hf : Flat M) (h1 : 1 ≤ m) (h2 : m ≤ 5) (h3 : 1 ≤ l) (h4 : l ≤ 12) (he : EffOk m l e) : F_fewest [frD m l, effD e] M = .ok (.int ((fewT m e : Nat) : Int)) M := by
  have jo := joints_ok (M := M) hf h1 h2 h3 h4 he
  have jk := joinT_ok he
  have lc := lc_all (vs := [2]) (n0 := M.length) (σ := [some (frD m l), some (effD e), none]) (fi := iSeq (eApp PR.F_joints (lCons (eVar 0) (lCons (eVar 1) lNil)))) (g := DL.gVar 2) (te := eApp PR.F_exchanges_in (lCons (eVar 2) lNil)) (M := M) (M1 := M) (joinT m e) tpD (fun j : List Nat => .int ((fewJ m j : Nat) : Int)) (by
    unfold iSeq
    rw [ev_app2 (ev_var rfl) (ev_var rfl) jo, Res.bind_ok]; rfl) (Nat.le_refl _) hf (by rw [jk.1]; omega) (fun _ _ => rfl) fun j acc hj hfl =>
    ⟨[some (frD m l), some (effD e), some (tpD j)], rfl, ev_app1 (ev_var rfl) (exchanges_in_ok hfl h2 (jk.2 j hj))⟩
  have sm := sum_nats (xs := joinT m e) (f := fewJ m) (M := M)
  refine run_eq rfl ?_
  simp -implicitDefEqProofs [-List.map_map, B_fewest, lc, sm, fewT]
theorem is_short_ok {m l : Nat} {r : List Cut} {M : Hep} (hf : Flat M) (h1 : 1 ≤ m) (h2 : m ≤ 5) (h3 : 1 ≤ l) (h4 : l ≤ 12) (hr : r.length < 1000) (hg : ∀ c ∈ r, CutOk m l c) : F_is_short [frD m l, rowD r] M = .ok (.bl (decide (r.length = fewT m (doesT m l r)))) M := by
  have d := does_T (M := M) hf h1 h2 h3 h4 hr hg
  have f := fewest_ok (M := M) hf h1 h2 h3 h4 (does_eff hg)
  have ln : pLen.op [rowD r] M = .ok (.int (r.length : Int)) M := by
    have := len_tup (M := M) (r.map LW.cutD)
    rwa [List.length_map] at this
  have e : decide ((r.length : Int) = ((fewT m (doesT m l r) : Nat) : Int)) = decide (r.length = fewT m (doesT m l r)) := by
    by_cases z : r.length = fewT m (doesT m l r)
    · rw [decide_eq_true z, decide_eq_true (by omega)]
    · rw [decide_eq_false z, decide_eq_false (by omega)]
  refine run_eq rfl ?_
  generalize doesT m l r = x at *
  simp -implicitDefEqProofs [-decide_eq_decide, B_is_short, d, f, ln, e]
end PR

namespace PS
open DL LW PR
theorem exchanged_at_ok {m l k : Nat} {r : List Cut} {M : Hep} (h2 : m ≤ 5) (hr : r.length < 1000) (hg : ∀ c ∈ r, CutOk m l c) (hk : k + 1 < r.length) :
    F_exchanged_at [.int (m : Int), rowD r, .int (k : Int)] M = .ok (rowD (exchT r k)) M := by
  refine run_eq rfl ?_
  have g : ∀ j, j < r.length → CutOk m l (r.getD j (0, 0, 0)) := fun j hj => hg _ (List.mem_of_getElem? (get_D (x := (0, 0, 0)) hj))
  have tw : F__two_exchanged _ M = .ok (.tup ((twoX (r.getD k (0, 0, 0)) (r.getD (k + 1) (0, 0, 0))).map LW.cutD)) M := two_ok (M := M) (m := m) (l := l) (by omega) (g k (by omega)) (g (k + 1) hk)
  have tl : (twoX (r.getD k (0, 0, 0)) (r.getD (k + 1) (0, 0, 0))).length = 2 := by unfold twoX; split <;> rfl
  have x1 := rowD_get (r := r) (k := k) (by omega)
  have x2 := rowD_get (r := r) (k := k + 1) hk
  have t1 : ((k : Int) + 1).toNat = k + 1 := by omega
  have t2 : ((k : Int) + 2).toNat = k + 2 := by omega
  have p1 : 0 ≤ (k : Int) + 1 := by omega
  have p2 : 0 ≤ (k : Int) + 2 := by omega
  simp -implicitDefEqProofs [-List.getD_eq_getElem?_getD, B_exchanged_at, tw, x1, x2, t1, t2, p1, p2, rowD, exchT, tl]
  have lr : lows 0 (r.map LW.cutD) = true := lows_map low_cut r
  rw [a_tup (by simp [-List.getD_eq_getElem?_getD, tl]; omega)]
  simp only [Res.bind_ok]
  rw [a_tup (by simp [-List.getD_eq_getElem?_getD, tl]; omega)]
  simp -implicitDefEqProofs [-List.getD_eq_getElem?_getD, lows_take lr, lows_drop lr, lows_mem]
theorem exchanged_ok {m l k : Nat} {r : List Cut} {M : Hep} (hf : Flat M) (h1 : 1 ≤ m) (h2 : m ≤ 5) (h3 : 1 ≤ l) (h4 : l ≤ 12) (hr : r.length < 1000) (hg : ∀ c ∈ r, CutOk m l c) (hk : k + 1 < r.length) :
    F_exchanged [frD m l, rowD r, .int (k : Int)] M = .ok (rowD (exchT r k)) M := by
  refine run_eq rfl ?_
  have nf := need_frame_ok h1 h2 h3 h4 M
  have nr := need_row_ok (M := M) hf hr hg
  have fi := from_int (i := (k : Int)) (a := 0) (b := (r.length : Int) - 2) (by omega) (by omega) M
  have ex := exchanged_at_ok (M := M) h2 hr hg hk
  have ln : pLen.op [rowD r] M = .ok (.int (r.length : Int)) M := by
    have := len_tup (M := M) (r.map LW.cutD)
    rwa [List.length_map] at this
  simp -implicitDefEqProofs [B_exchanged, nf, nr, fi, ex, ln]
end PS

namespace PR
open DL LW
/-! ### rows that come to one another by exchanges of unlike places -/
theorem called_called (c : Cut) (f g : Nat → Nat) : calledC (calledC c f) g = calledC c fun k => g (f k) := by
  unfold calledC
  simp only
  by_cases h : f c.2.1 ≤ f c.2.2
  · rw [Nat.min_eq_left h, Nat.max_eq_right h]
  · have e1 : min (f c.2.1) (f c.2.2) = f c.2.2 := Nat.min_eq_right (by omega)
    have e2 : max (f c.2.1) (f c.2.2) = f c.2.1 := Nat.max_eq_left (by omega)
    rw [e1, e2, Nat.min_comm (g (f c.2.2)), Nat.max_comm (g (f c.2.2))]
theorem called_id {c : Cut} (h : c.2.1 ≤ c.2.2) : (calledC c fun k => k) = c := by
  unfold calledC
  rw [Nat.min_eq_left h, Nat.max_eq_right h]
theorem called_norm (c : Cut) (f : Nat → Nat) : (calledC c f).2.1 ≤ (calledC c f).2.2 := by
  unfold calledC
  simp only
  omega
def sC (c : Cut) : Nat → Nat := swapN c.2.1 c.2.2
theorem sC_called (c : Cut) {f : Nat → Nat} (hf : ∀ x y, f x = f y → x = y) (k : Nat) : sC (calledC c f) (f k) = f (sC c k) := by
  unfold sC calledC
  simp only
  rw [swapN_mm, swapN_conj hf]
theorem sC_inj (c : Cut) {x y : Nat} (h : sC c x = sC c y) : x = y := swapN_inj _ _ h
theorem sC_inv (c : Cut) (k : Nat) : sC c (sC c k) = k := swapN_inv _ _ k
inductive XX : List Cut → List Cut → Prop
  | refl (r : List Cut) : XX r r
  | step (a : List Cut) (y x : Cut) (b : List Cut) (h : x.1 < y.1) : XX (a ++ y :: x :: b) (a ++ x :: calledC y (sC x) :: b)
  | symm {r s : List Cut} (h : XX r s) : XX s r
  | trans {r s t : List Cut} (h : XX r s) (h' : XX s t) : XX r t
theorem XX.left {r s : List Cut} (t : List Cut) (h : XX r s) : XX (t ++ r) (t ++ s) := by
  induction h with
  | refl r => exact .refl _
  | step a y x b h => rw [← List.append_assoc, ← List.append_assoc]; exact .step (t ++ a) y x b h
  | symm h ih => exact ih.symm
  | trans h h' ih ih' => exact ih.trans ih'
theorem XX.right {r s : List Cut} (t : List Cut) (h : XX r s) : XX (r ++ t) (s ++ t) := by
  induction h with
  | refl r => exact .refl _
  | step a y x b h =>
    have := XX.step a y x (b ++ t) h
    simpa using this
  | symm h ih => exact ih.symm
  | trans h h' ih ih' => exact ih.trans ih'
theorem XX.perm {r s : List Cut} (h : XX r s) : (r.map (·.1)).Perm (s.map (·.1)) := by
  induction h with
  | refl r => exact .refl _
  | step a y x b h =>
    rw [List.map_append, List.map_append]
    refine List.Perm.append_left _ ?_
    exact List.Perm.swap _ _ _
  | symm h ih => exact ih.symm
  | trans h h' ih ih' => exact ih.trans ih'
theorem XX.least {p : Nat} {r s : List Cut} (h : XX r s) (hp : ∀ q ∈ r.map (·.1), p ≤ q) : (r.filter fun c => decide (c.1 = p)) = s.filter fun c => decide (c.1 = p) := by
  have main : ∀ {r s : List Cut}, XX r s → (∀ q ∈ r.map (·.1), p ≤ q) → (∀ q ∈ s.map (·.1), p ≤ q) → (r.filter fun c => decide (c.1 = p)) = s.filter fun c => decide (c.1 = p) := by
    intro r s h
    induction h with
    | refl r => intro _ _; rfl
    | step a y x b h =>
      intro h1 _
      have hx := h1 x.1 (List.mem_map.mpr ⟨x, by simp, rfl⟩)
      have ny : ¬ y.1 = p := by omega
      have ny' : ¬ (calledC y (sC x)).1 = p := ny
      simp only [List.filter_append, List.filter_cons, ny, ny', decide_false]
      rfl
    | symm h ih => intro h1 h2; exact (ih h2 h1).symm
    | trans h h' ih ih' =>
      intro h1 h2
      have h3 := fun q hq => h1 q (h.perm.mem_iff.mpr hq)
      exact (ih h1 h3).trans (ih' h3 h2)
  exact main h hp fun q hq => hp q (h.perm.mem_iff.mpr hq)
/-! the row of rising places, place by place -/
def risF : List Nat → List Cut → List Cut
  | [], _ => []
  | p :: ps, cs => (cs.filter fun c => decide (c.1 = p)) ++ risF ps (btT p cs)
theorem fold_rst : ∀ (ps : List Nat) (cs out : List Cut), (ps.foldl rst (cs, out)).2 = out ++ risF ps cs
  | [], cs, out => by simp [risF]
  | p :: ps, cs, out => by
    rw [List.foldl_cons, show rst (cs, out) p = (btT p cs, out ++ cs.filter fun c => decide (c.1 = p)) from rfl, fold_rst ps, risF, List.append_assoc]
theorem ris_eq (l : Nat) (r : List Cut) : risT l r = risF (List.range l) r := by
  unfold risT
  rw [fold_rst]; rfl
theorem bn_app (p : Nat) : ∀ (a c : List Cut) (k : Nat), bn p (a ++ c) k = bn p c (bn p a k)
  | [], c, k => rfl
  | x :: a, c, k => by
    rw [List.cons_append, bn, bn]
    split
    · exact bn_app p a c _
    · exact bn_app p a c _
def btA (p : Nat) : List Cut → (Nat → Nat) → List Cut
  | [], _ => []
  | c :: a, f => if c.1 = p then btA p a f else calledC c (fun k => f (bn p a k)) :: btA p a f
theorem btT_app (p : Nat) : ∀ a c : List Cut, btT p (a ++ c) = btA p a (bn p c) ++ btT p c
  | [], c => rfl
  | x :: a, c => by
    rw [List.cons_append, btT, btA, btT_app p a c]
    split
    · rfl
    · have : bn p (a ++ c) = fun k => bn p c (bn p a k) := funext (bn_app p a c)
      rw [this]; rfl
theorem ris_step {x y : Cut} (h : x.1 < y.1) : ∀ (ps : List Nat) (a b : List Cut) (x y : Cut), x.1 < y.1 → ps.Pairwise (· < ·) → x.1 ∈ ps → risF ps (a ++ y :: x :: b) = risF ps (a ++ x :: calledC y (sC x) :: b)
  | [], a, b, x, y, _, _, hx => by cases hx
  | p :: ps, a, b, x, y, hxy, hps, hx => by
    rw [List.pairwise_cons] at hps
    have ny : ∀ f, (calledC y f).1 = y.1 := fun _ => rfl
    rw [risF, risF, btT_app, btT_app]
    by_cases z : x.1 = p
    · have hy : ¬ y.1 = p := by omega
      have hy' : ¬ (calledC y (sC x)).1 = p := hy
      have e1 : bn p (y :: x :: b) = bn p (x :: calledC y (sC x) :: b) := by
        funext k
        simp only [bn, if_pos z, if_neg hy, if_neg hy']
      have e2 : btT p (y :: x :: b) = btT p (x :: calledC y (sC x) :: b) := by
        simp only [btT, if_pos z, if_neg hy, if_neg hy', called_called]
        congr 2
        funext k
        simp only [bn, if_pos z]; rfl
      rw [e1, e2]
      simp only [List.filter_append, List.filter_cons, z, hy, hy', decide_false, decide_true]
      rfl
    · have hx' : x.1 ∈ ps := by
        rcases List.mem_cons.mp hx with y | y
        · exact absurd y z
        · exact y
      have hp := hps.1 x.1 hx'
      have hy : ¬ y.1 = p := by omega
      have hy' : ¬ (calledC y (sC x)).1 = p := hy
      have e1 : bn p (y :: x :: b) = bn p b := by
        funext k
        simp only [bn, if_neg z, if_neg hy]
      have e2 : bn p (x :: calledC y (sC x) :: b) = bn p b := by
        funext k
        simp only [bn, if_neg z, if_neg hy']
      have e3 : btT p (y :: x :: b) = calledC y (bn p b) :: calledC x (bn p b) :: btT p b := by
        have e4 : bn p (x :: b) = bn p b := by
          funext k
          simp only [bn, if_neg z]
        simp only [btT, if_neg z, if_neg hy, e4]
      have e5 : btT p (x :: calledC y (sC x) :: b) = calledC x (bn p b) :: calledC (calledC y (bn p b)) (sC (calledC x (bn p b))) :: btT p b := by
        have e4 : bn p (calledC y (sC x) :: b) = bn p b := by
          funext k
          simp only [bn, if_neg hy']
        have e6 : calledC (calledC y (bn p b)) (sC (calledC x (bn p b))) = calledC (calledC y (sC x)) (bn p b) := by
          rw [called_called, called_called]
          congr 1
          funext k
          exact sC_called x (fun _ _ e => bn_inj p b e) k
        rw [e6]
        simp only [btT, if_neg z, if_neg hy', e4]
      rw [e1, e2, e3, e5, ris_step h ps _ _ (calledC x (bn p b)) (calledC y (bn p b)) hxy hps.2 hx']
      simp only [List.filter_append, List.filter_cons, z, hy, hy', decide_false]
      rfl
theorem ris_const {l : Nat} {r s : List Cut} (h : XX r s) (hp : ∀ q ∈ r.map (·.1), q < l) : risT l r = risT l s := by
  have main : ∀ {r s : List Cut}, XX r s → (∀ q ∈ r.map (·.1), q < l) → (∀ q ∈ s.map (·.1), q < l) → risT l r = risT l s := by
    intro r s h
    induction h with
    | refl r => intro _ _; rfl
    | step a y x b h =>
      intro h1 _
      have hx := h1 x.1 (List.mem_map.mpr ⟨x, by simp, rfl⟩)
      rw [ris_eq, ris_eq]
      exact ris_step h _ a b x y h List.pairwise_lt_range (List.mem_range.mpr hx)
    | symm h ih => intro h1 h2; exact (ih h2 h1).symm
    | trans h h' ih ih' =>
      intro h1 h2
      have h3 := fun q hq => h1 q (h.perm.mem_iff.mpr hq)
      exact (ih h1 h3).trans (ih' h3 h2)
  exact main h hp fun q hq => hp q (h.perm.mem_iff.mpr hq)
/-! each row comes to its rising one -/
theorem move_XX {p : Nat} : ∀ (F B : List Cut) (c : Cut), c.2.1 ≤ c.2.2 → p < c.1 → (∀ f ∈ F, f.1 = p) → XX (c :: F ++ B) (F ++ calledC c (bn p F) :: B)
  | [], B, c, hc, _, _ => by
    have : bn p [] = fun k => k := rfl
    rw [this, called_id hc]
    exact .refl _
  | f :: F, B, c, hc, hp, hF => by
    have hf := hF f List.mem_cons_self
    have s1 := XX.step [] c f (F ++ B) (by omega)
    have s2 := (move_XX F B (calledC c (sC f)) (called_norm c _) hp (fun g hg => hF g (List.mem_cons_of_mem _ hg))).left [f]
    have e : calledC (calledC c (sC f)) (bn p F) = calledC c (bn p (f :: F)) := by
      rw [called_called]
      congr 1
      funext k
      rw [bn, if_pos hf]; rfl
    rw [e] at s2
    exact s1.trans s2
theorem bn_filter (p : Nat) : ∀ (cs : List Cut) (k : Nat), bn p (cs.filter fun c => decide (c.1 = p)) k = bn p cs k
  | [], k => rfl
  | c :: cs, k => by
    by_cases h : c.1 = p
    · rw [List.filter_cons, if_pos (by simpa using h), bn, bn, if_pos h, if_pos h, bn_filter p cs]
    · rw [List.filter_cons, if_neg (by simpa using h), bn, if_neg h, bn_filter p cs]
theorem part_XX {p : Nat} : ∀ cs : List Cut, (∀ c ∈ cs, c.2.1 ≤ c.2.2 ∧ p ≤ c.1) → XX cs ((cs.filter fun c => decide (c.1 = p)) ++ btT p cs)
  | [], _ => .refl _
  | c :: cs, h => by
    have ih := (part_XX cs fun x hx => h x (List.mem_cons_of_mem _ hx)).left [c]
    have hc := h c List.mem_cons_self
    by_cases z : c.1 = p
    · rw [List.filter_cons, if_pos (by simpa using z), btT, if_pos z]
      exact ih
    · rw [List.filter_cons, if_neg (by simpa using z), btT, if_neg z]
      refine ih.trans ?_
      have m := move_XX (p := p) (cs.filter fun c => decide (c.1 = p)) (btT p cs) c hc.1 (by omega) (fun f hf => by simpa using (List.mem_filter.mp hf).2)
      have e : bn p (cs.filter fun c => decide (c.1 = p)) = bn p cs := funext (bn_filter p cs)
      rw [e] at m
      exact m
theorem btT_norm (p : Nat) : ∀ cs : List Cut, ∀ c ∈ btT p cs, c.2.1 ≤ c.2.2
  | [], c, h => by cases h
  | x :: cs, c, h => by
    unfold btT at h
    split at h
    · exact btT_norm p cs c h
    · rcases List.mem_cons.mp h with z | z
      · rw [z]; exact called_norm _ _
      · exact btT_norm p cs c z
theorem risF_XX : ∀ (n p : Nat) (cs : List Cut), (∀ c ∈ cs, c.2.1 ≤ c.2.2 ∧ p ≤ c.1 ∧ c.1 < p + n) → XX cs (risF (List.range' p n) cs)
  | 0, p, cs, h => by
    have : cs = [] := by
      cases cs with
      | nil => rfl
      | cons c cs => have := h c List.mem_cons_self; omega
    subst this
    exact .refl _
  | n + 1, p, cs, h => by
    rw [List.range'_succ, risF]
    refine (part_XX (p := p) cs fun c hc => ⟨(h c hc).1, (h c hc).2.1⟩).trans ?_
    refine (risF_XX n (p + 1) (btT p cs) fun c hc => ?_).left _
    obtain ⟨c0, h0, e, ne⟩ := btT_pl c hc
    have := h c0 h0
    exact ⟨btT_norm p cs c hc, by omega, by omega⟩
theorem ris_XX {m l : Nat} {r : List Cut} (hg : ∀ c ∈ r, CutOk m l c) : XX r (risT l r) := by
  rw [ris_eq, List.range_eq_range']
  exact risF_XX l 0 r fun c hc => by
    obtain ⟨h1, h2, h3⟩ := hg c hc
    exact ⟨by omega, by omega, by omega⟩
theorem pl_lt {m l : Nat} {r : List Cut} (hg : ∀ c ∈ r, CutOk m l c) : ∀ q ∈ r.map (·.1), q < l := fun q hq => by
  obtain ⟨c, hc, rfl⟩ := List.mem_map.mp hq
  exact (hg c hc).1
theorem ris_idem {m l : Nat} {r : List Cut} (hg : ∀ c ∈ r, CutOk m l c) : risT l (risT l r) = risT l r := (ris_const (ris_XX hg) (pl_lt hg)).symm
theorem risF_mem : ∀ (ps : List Nat) (cs : List Cut), ∀ c ∈ risF ps cs, c.1 ∈ ps
  | [], cs, c, h => by cases h
  | p :: ps, cs, c, h => by
    unfold risF at h
    rcases List.mem_append.mp h with z | z
    · have := (List.mem_filter.mp z).2
      simp only [decide_eq_true_eq] at this
      rw [this]; exact List.mem_cons_self
    · exact List.mem_cons_of_mem _ (risF_mem ps _ c z)
theorem risF_sorted : ∀ (ps : List Nat) (cs : List Cut), ps.Pairwise (· < ·) → (risF ps cs).Pairwise fun c d => c.1 ≤ d.1
  | [], cs, _ => List.Pairwise.nil
  | p :: ps, cs, h => by
    rw [List.pairwise_cons] at h
    unfold risF
    rw [List.pairwise_append]
    have hp : ∀ c ∈ cs.filter (fun c => decide (c.1 = p)), c.1 = p := fun c hc => by simpa using (List.mem_filter.mp hc).2
    refine ⟨?_, risF_sorted ps _ h.2, fun c hc d hd => ?_⟩
    · refine List.Pairwise.imp_of_mem (R := fun _ _ => True) (fun {c d} hc hd _ => ?_) (List.pairwise_of_forall fun _ _ => trivial)
      rw [hp c hc, hp d hd]
      exact Nat.le_refl _
    · rw [hp c hc]
      exact Nat.le_of_lt (h.1 _ (risF_mem ps _ d hd))
theorem ris_sorted (l : Nat) (r : List Cut) : (risT l r).Pairwise fun c d => c.1 ≤ d.1 := by
  rw [ris_eq]
  exact risF_sorted _ _ List.pairwise_lt_range
/-- an exchange of unlike places -/
theorem exch_at (a b : List Cut) (x y : Cut) : exchT (a ++ x :: y :: b) a.length = a ++ twoX x y ++ b := by
  have h0 : (a ++ x :: y :: b).getD a.length (0, 0, 0) = x := by simp [List.getD_eq_getElem?_getD]
  have h1 : (a ++ x :: y :: b).getD (a.length + 1) (0, 0, 0) = y := by
    rw [List.getD_eq_getElem?_getD, List.getElem?_append_right (by omega)]
    simp
  have h2 : (a ++ x :: y :: b).drop (a.length + 2) = b := by
    rw [List.drop_append, List.drop_of_length_le (by omega)]
    simp
  unfold exchT
  rw [h0, h1, h2, List.take_left]
theorem exch_XX {m l k : Nat} {r : List Cut} (hg : ∀ c ∈ r, CutOk m l c) (hk : k + 1 < r.length) (hu : (r.getD k (0, 0, 0)).1 ≠ (r.getD (k + 1) (0, 0, 0)).1) : XX r (exchT r k) := by
  have e := split_two hk
  have hx := row_get hg (k := k) (by omega)
  have hy := row_get hg hk
  generalize r.getD k (0, 0, 0) = x at *
  generalize r.getD (k + 1) (0, 0, 0) = y at *
  have la : (r.take k).length = k := by rw [List.length_take]; omega
  have e' : r = r.take k ++ x :: y :: r.drop (k + 2) := by simpa using e
  generalize r.take k = a at *
  generalize r.drop (k + 2) = b at *
  subst la
  rw [e', exch_at]
  unfold twoX
  by_cases z : x.1 < y.1
  · rw [if_pos z]
    have s := XX.step a (calledC y (sC x)) x b (show x.1 < (calledC y (sC x)).1 from z)
    have i : calledC (calledC y (sC x)) (sC x) = y := by
      rw [called_called]
      have : (fun k => sC x (sC x k)) = fun k => k := funext (sC_inv x)
      rw [this]
      exact called_id (by have := hy.2.1; omega)
    rw [i] at s
    have : a ++ [calledC y (swapN x.2.1 x.2.2), x] ++ b = a ++ calledC y (sC x) :: x :: b := by simp [sC]
    rw [this]
    exact s.symm
  · rw [if_neg z]
    have s := XX.step a x y b (show y.1 < x.1 by omega)
    have : a ++ [y, calledC x (swapN y.2.1 y.2.2)] ++ b = a ++ y :: calledC x (sC y) :: b := by simp [sC]
    rw [this]
    exact s
end PR

namespace PR
open DL LW
/-! ### rows, lists of cuts compared -/
theorem cut_inj (a b : Cut) (e : LW.cutD a = LW.cutD b) : a = b := by
  obtain ⟨a1, a2, a3⟩ := a
  obtain ⟨b1, b2, b3⟩ := b
  unfold LW.cutD at e
  injection e with e
  injection e with e1 e
  injection e with e2 e
  injection e with e3 e
  injection e1 with e1
  injection e2 with e2
  injection e3 with e3
  have z1 : (a1 : Int) = (b1 : Int) := e1
  have z2 : (a2 : Int) = (b2 : Int) := e2
  have z3 : (a3 : Int) = (b3 : Int) := e3
  have y1 : a1 = b1 := by omega
  have y2 : a2 = b2 := by omega
  have y3 : a3 = b3 := by omega
  rw [y1, y2, y3]
theorem cuts_pl (r : List Cut) : pls (r.map LW.cutD) = true := pls_map fun _ _ => rfl
theorem cuts_dep (r : List Cut) : deps (r.map LW.cutD) ≤ 2 := deps_map fun c _ => by simp [LW.cutD, D.dep, deps]
theorem row_pl (r : List Cut) : (rowD r).pl = true := by show pls _ = true; exact cuts_pl r
theorem row_dep (r : List Cut) : (rowD r).dep ≤ 60 := by
  have := cuts_dep r
  unfold rowD
  simp only [D.dep]
  omega
theorem row_inj (a b : List Cut) (e : rowD a = rowD b) : a = b := map_inj (f := LW.cutD) cut_inj a b (by injection e)
theorem row_eq {a b : List Cut} {M : Hep} : opEq (rowD a) (rowD b) M = .ok (.bl (decide (a = b))) M := by
  rw [eq_pl (row_pl a) (row_pl b) (row_dep a) (row_dep b), D.eq_dec row_inj]
theorem row_ne {a b : List Cut} {M : Hep} : opNe (rowD a) (rowD b) M = .ok (.bl (!decide (a = b))) M := by
  rw [ne_pl (row_pl a) (row_pl b) (row_dep a) (row_dep b), D.eq_dec row_inj]
theorem cuts_ne {a b : List Cut} {M : Hep} : opNe (.fz (a.map LW.cutD)) (.fz (b.map LW.cutD)) M = .ok (.bl (!decide (a = b))) M := by
  have pl : ∀ r : List Cut, (D.fz (r.map LW.cutD)).pl = true := fun r => by simp only [D.pl]; exact cuts_pl r
  have dp : ∀ r : List Cut, (D.fz (r.map LW.cutD)).dep ≤ 60 := fun r => by have := cuts_dep r; simp only [D.dep]; omega
  rw [ne_pl (pl a) (pl b) (dp a) (dp b), D.eq_dec (f := fun r : List Cut => D.fz (r.map LW.cutD)) (fun x y e => map_inj (f := LW.cutD) cut_inj x y (by injection e))]
theorem ne_self {x : D} {M : Hep} (h : x.pl = true) (hd : x.dep ≤ 60) : opNe x x M = .ok (.bl false) M := by
  rw [ne_pl h h hd hd, D.eq_self]; rfl
theorem bl_ne {a b : Bool} {M : Hep} : opNe (.bl a) (.bl b) M = .ok (.bl (!decide (a = b))) M := by
  cases a <;> cases b <;> rfl
theorem row_add {r s : List Cut} {M : Hep} (h : r.length + s.length ≤ 1000000) : opAdd false (rowD r) (rowD s) M = .ok (rowD (r ++ s)) M := by
  show opAdd false (.tup (r.map LW.cutD)) (.tup (s.map LW.cutD)) M = _
  rw [a_tup (by simpa using h), ← List.map_append]; rfl
theorem row_len {r : List Cut} {M : Hep} : pLen.op [rowD r] M = .ok (.int (r.length : Int)) M := by
  have := len_tup (M := M) (r.map LW.cutD)
  rwa [List.length_map] at this
theorem row_ix {r : List Cut} {k : Nat} {M : Hep} (h : k < r.length) : opIx (rowD r) (.int (k : Int)) M = .ok (LW.cutD (r.getD k (0, 0, 0))) M := ix_tup (rowD_get h)
theorem app_ok {m l : Nat} {r s : List Cut} (h : ∀ c ∈ r, CutOk m l c) (h' : ∀ c ∈ s, CutOk m l c) : ∀ c ∈ r ++ s, CutOk m l c := fun c hc => by
  rcases List.mem_append.mp hc with z | z
  · exact h c z
  · exact h' c z
/-- the places of a row, sorted -/
def plD (r : List Cut) : List D := r.map fun c => .int (c.1 : Int)
theorem pl_ints (r : List Cut) : plD r = (r.map fun c => (c.1 : Int)).map .int := by unfold plD; rw [List.map_map]; rfl
theorem pl_pl (r : List Cut) : pls (plD r) = true := pls_map fun _ _ => rfl
theorem pl_dep (r : List Cut) : deps (plD r) ≤ 0 := deps_map fun _ _ => Nat.le_refl _
theorem sort_pl {r s : List Cut} {M : Hep} (hp : (r.map (·.1)).Perm (s.map (·.1))) (hs : s.Pairwise fun c d => c.1 ≤ d.1) (hl : r.length ≤ 1000) : (pSortedA false).op [.fz (plD r)] M = .ok (.fz (plD s)) M := by
  rw [pl_ints, sort_fz]
  have e : (s.map fun c => (c.1 : Int)) = sortI (r.map fun c => (c.1 : Int)) := by
    refine sorted_same (List.Perm.trans ?_ (sortI_perm _).symm) ?_ (sortI_sorted _)
    · have := (hp.symm.map fun (k : Nat) => (k : Int))
      rw [List.map_map, List.map_map] at this
      exact this
    · rw [List.pairwise_map]
      exact hs.imp fun h => by omega
  rw [← e, ← pl_ints]
  have ln : s.length = r.length := by have := hp.length_eq; simpa using this.symm
  exact mk_fz' (by unfold plD; rw [List.length_map]; omega)
where
  mk_fz' {ds : List D} {M : Hep} (h : ds.length ≤ 1000) : mkLst false ds M = .ok (.fz ds) M := r_mkfz (by unfold PySem.sizeLine; omega)
end PR

namespace PR
open DL LW
/-! ### exchanges, one behind the other -/
theorem row_split {r : List Cut} {k : Nat} (hk : k + 1 < r.length) : ∃ a b, a.length = k ∧ r = a ++ r.getD k (0, 0, 0) :: r.getD (k + 1) (0, 0, 0) :: b := ⟨r.take k, r.drop (k + 2), by rw [List.length_take]; omega, by
  have := split_two hk
  simpa using this⟩
theorem two_called {u v w : Cut} : calledC (calledC u (sC w)) (sC (calledC v (sC w))) = calledC (calledC u (sC v)) (sC w) := by
  rw [called_called, called_called]
  congr 1
  funext k
  exact sC_called v (fun _ _ e => sC_inj w e) k
theorem two_called' {u v w : Cut} : calledC (calledC u (sC (calledC v (sC w)))) (sC w) = calledC (calledC u (sC w)) (sC v) := by
  rw [called_called, called_called]
  congr 1
  funext k
  have := sC_called v (f := sC w) (fun _ _ e => sC_inj w e) (sC w k)
  rw [sC_inv] at this
  rw [this, sC_inv]
theorem twoX_lt {x y : Cut} (h : x.1 < y.1) : twoX x y = [calledC y (sC x), x] := if_pos h
theorem twoX_ge {x y : Cut} (h : ¬ x.1 < y.1) : twoX x y = [y, calledC x (sC y)] := if_neg h
theorem called_back {x y : Cut} (h : y.2.1 ≤ y.2.2) : calledC (calledC y (sC x)) (sC x) = y := by
  rw [called_called]
  have : (fun k => sC x (sC x k)) = fun k => k := funext (sC_inv x)
  rw [this]
  exact called_id h
/-- two pairs apart -/
theorem exch_far {r : List Cut} {j k : Nat} (h : j + 2 ≤ k) (hk : k + 1 < r.length) : exchT (exchT r j) k = exchT (exchT r k) j := by
  obtain ⟨a, b, ha, e⟩ := row_split (r := r) (k := j) (by omega)
  generalize r.getD j (0, 0, 0) = x at e
  generalize r.getD (j + 1) (0, 0, 0) = y at e
  have hb : k - j - 2 + 1 < b.length := by
    have := congrArg List.length e
    simp at this
    omega
  obtain ⟨c, d, hc, eb⟩ := row_split (r := b) hb
  generalize b.getD (k - j - 2) (0, 0, 0) = u at eb
  generalize b.getD (k - j - 2 + 1) (0, 0, 0) = v at eb
  subst e eb
  have e1 : ∀ p q : Cut, exchT (a ++ p :: q :: (c ++ u :: v :: d)) k = a ++ p :: q :: (c ++ (twoX u v ++ d)) := fun p q => by
    have := exch_at (a ++ p :: q :: c) d u v
    rw [show (a ++ p :: q :: c).length = k by simp; omega] at this
    simpa using this
  have e2 : ∀ t, exchT (a ++ x :: y :: t) j = a ++ (twoX x y ++ t) := fun t => by
    have := exch_at a t x y
    rw [ha] at this
    simpa using this
  rw [e2, e1, e2]
  obtain ⟨p, q, epq⟩ : ∃ p q, twoX x y = [p, q] := by
    unfold twoX
    split
    · exact ⟨_, _, rfl⟩
    · exact ⟨_, _, rfl⟩
  rw [epq]
  exact e1 p q
theorem exch_list2 (a b : List Cut) (x y u v : Cut) (h : twoX x y = [u, v]) : exchT (a ++ x :: y :: b) a.length = a ++ u :: v :: b := by
  rw [exch_at, h]; simp
theorem exch_list3 (a b : List Cut) (w x y u v : Cut) (h : twoX x y = [u, v]) : exchT (a ++ w :: x :: y :: b) (a.length + 1) = a ++ w :: u :: v :: b := by
  have := exch_list2 (a ++ [w]) b x y u v h
  simpa using this
/-- at one number, the next, the one -/
theorem exch_braid {r : List Cut} {k : Nat} (hk : k + 2 < r.length) : exchT (exchT (exchT r k) (k + 1)) k = exchT (exchT (exchT r (k + 1)) k) (k + 1) := by
  obtain ⟨a, b, ha, e⟩ := row_split (r := r) (k := k) (by omega)
  generalize r.getD k (0, 0, 0) = x at e
  generalize r.getD (k + 1) (0, 0, 0) = y at e
  obtain ⟨z, c, rfl⟩ : ∃ z c, b = z :: c := by
    cases b with
    | nil =>
      have := congrArg List.length e
      simp at this
      omega
    | cons z c => exact ⟨z, c, rfl⟩
  subst e ha
  by_cases h1 : x.1 < y.1
  · by_cases h2 : x.1 < z.1
    · by_cases h3 : y.1 < z.1
      · rw [exch_list2 _ _ _ _ _ _ (twoX_lt h1), exch_list3 _ _ _ _ _ _ _ (twoX_lt h2), exch_list2 _ _ _ _ _ _ (twoX_lt (x := calledC y (sC x)) (y := calledC z (sC x)) h3),
          exch_list3 _ _ _ _ _ _ _ (twoX_lt h3), exch_list2 _ _ _ _ _ _ (twoX_lt (x := x) (y := calledC z (sC y)) h2), exch_list3 _ _ _ _ _ _ _ (twoX_lt h1), two_called]
      · rw [exch_list2 _ _ _ _ _ _ (twoX_lt h1), exch_list3 _ _ _ _ _ _ _ (twoX_lt h2), exch_list2 _ _ _ _ _ _ (twoX_ge (x := calledC y (sC x)) (y := calledC z (sC x)) h3),
          exch_list3 _ _ _ _ _ _ _ (twoX_ge h3), exch_list2 _ _ _ _ _ _ (twoX_lt h2), exch_list3 _ _ _ _ _ _ _ (twoX_lt (x := x) (y := calledC y (sC z)) h1), two_called]
    · have h3 : ¬ y.1 < z.1 := by omega
      rw [exch_list2 _ _ _ _ _ _ (twoX_lt h1), exch_list3 _ _ _ _ _ _ _ (twoX_ge h2), exch_list2 _ _ _ _ _ _ (twoX_ge (x := calledC y (sC x)) (y := z) h3),
        exch_list3 _ _ _ _ _ _ _ (twoX_ge h3), exch_list2 _ _ _ _ _ _ (twoX_ge h2), exch_list3 _ _ _ _ _ _ _ (twoX_lt (x := calledC x (sC z)) (y := calledC y (sC z)) h1), two_called]
  · by_cases h2 : x.1 < z.1
    · have h3 : y.1 < z.1 := by omega
      rw [exch_list2 _ _ _ _ _ _ (twoX_ge h1), exch_list3 _ _ _ _ _ _ _ (twoX_lt (x := calledC x (sC y)) (y := z) h2), exch_list2 _ _ _ _ _ _ (twoX_lt (x := y) (y := calledC z (sC (calledC x (sC y)))) h3),
        exch_list3 _ _ _ _ _ _ _ (twoX_lt h3), exch_list2 _ _ _ _ _ _ (twoX_lt (x := x) (y := calledC z (sC y)) h2), exch_list3 _ _ _ _ _ _ _ (twoX_ge h1), two_called']
    · by_cases h3 : y.1 < z.1
      · rw [exch_list2 _ _ _ _ _ _ (twoX_ge h1), exch_list3 _ _ _ _ _ _ _ (twoX_ge (x := calledC x (sC y)) (y := z) h2), exch_list2 _ _ _ _ _ _ (twoX_lt h3),
          exch_list3 _ _ _ _ _ _ _ (twoX_lt h3), exch_list2 _ _ _ _ _ _ (twoX_ge (x := x) (y := calledC z (sC y)) h2), exch_list3 _ _ _ _ _ _ _ (twoX_ge (x := calledC x (sC (calledC z (sC y)))) (y := y) h1), two_called']
      · rw [exch_list2 _ _ _ _ _ _ (twoX_ge h1), exch_list3 _ _ _ _ _ _ _ (twoX_ge (x := calledC x (sC y)) (y := z) h2), exch_list2 _ _ _ _ _ _ (twoX_ge h3),
          exch_list3 _ _ _ _ _ _ _ (twoX_ge h3), exch_list2 _ _ _ _ _ _ (twoX_ge h2), exch_list3 _ _ _ _ _ _ _ (twoX_ge (x := calledC x (sC z)) (y := calledC y (sC z)) h1), two_called]
/-- unlike places: there and back -/
theorem exch_twice {m l k : Nat} {r : List Cut} (hg : ∀ c ∈ r, CutOk m l c) (hk : k + 1 < r.length) (hu : (r.getD k (0, 0, 0)).1 ≠ (r.getD (k + 1) (0, 0, 0)).1) : exchT (exchT r k) k = r := by
  obtain ⟨a, b, ha, e⟩ := row_split hk
  have hx := row_get hg (k := k) (by omega)
  have hy := row_get hg hk
  generalize r.getD k (0, 0, 0) = x at *
  generalize r.getD (k + 1) (0, 0, 0) = y at *
  subst e ha
  by_cases h : x.1 < y.1
  · rw [exch_list2 _ _ _ _ _ _ (twoX_lt h), exch_list2 _ _ _ _ _ _ (twoX_ge (x := calledC y (sC x)) (y := x) (by show ¬ y.1 < x.1; omega)), called_back (by have := hy.2.1; omega)]
  · rw [exch_list2 _ _ _ _ _ _ (twoX_ge h), exch_list2 _ _ _ _ _ _ (twoX_lt (x := y) (y := calledC x (sC y)) (by show y.1 < x.1; omega)), called_back (by have := hx.2.1; omega)]
/-- backwards -/
theorem exch_rev {k : Nat} {r : List Cut} (hk : k + 1 < r.length) (hu : (r.getD k (0, 0, 0)).1 ≠ (r.getD (k + 1) (0, 0, 0)).1) : (exchT r k).reverse = exchT r.reverse (r.length - 2 - k) := by
  obtain ⟨a, b, ha, e⟩ := row_split hk
  generalize r.getD k (0, 0, 0) = x at *
  generalize r.getD (k + 1) (0, 0, 0) = y at *
  subst e ha
  have hr : (a ++ x :: y :: b).reverse = b.reverse ++ y :: x :: a.reverse := by simp
  have hl : (a ++ x :: y :: b).length - 2 - a.length = b.reverse.length := by simp; omega
  rw [hr, hl]
  by_cases h : x.1 < y.1
  · rw [exch_list2 _ _ _ _ _ _ (twoX_lt h), exch_list2 _ _ _ _ _ _ (twoX_ge (x := y) (y := x) (by omega))]
    simp
  · rw [exch_list2 _ _ _ _ _ _ (twoX_ge h), exch_list2 _ _ _ _ _ _ (twoX_lt (x := y) (y := x) (by omega))]
    simp
/-! at one place -/
def tw (s : (Nat × Nat) × (Nat × Nat)) : (Nat × Nat) × (Nat × Nat) := (s.2, (min (swapN s.2.1 s.2.2 s.1.1) (swapN s.2.1 s.2.2 s.1.2), max (swapN s.2.1 s.2.2 s.1.1) (swapN s.2.1 s.2.2 s.1.2)))
def both (s : (Nat × Nat) × (Nat × Nat)) : Nat := ([s.1.1, s.1.2].filter fun a => decide (a = s.2.1) || decide (a = s.2.2)).length
theorem tw_all : ((List.range 5).all fun a => (List.range 5).all fun b => !decide (a < b) || (List.range 5).all fun c => (List.range 5).all fun d => !decide (c < d) || (if both ((a, b), (c, d)) = 1 then tw (tw (tw ((a, b), (c, d)))) == ((a, b), (c, d)) else tw (tw ((a, b), (c, d))) == ((a, b), (c, d)))) = true := by decide +kernel
theorem tw_ok {a b c d : Nat} (hab : a < b) (hb : b < 5) (hcd : c < d) (hd : d < 5) : if both ((a, b), (c, d)) = 1 then tw (tw (tw ((a, b), (c, d)))) = ((a, b), (c, d)) else tw (tw ((a, b), (c, d))) = ((a, b), (c, d)) := by
  have h := tw_all
  simp only [List.all_eq_true, List.mem_range, Bool.or_eq_true, Bool.not_eq_true', decide_eq_false_iff_not] at h
  have h := (h a (by omega) b hb).resolve_left (by omega) c (by omega) d hd
  have h := h.resolve_left (by omega)
  split at h
  · rename_i z
    rw [if_pos z]
    simpa using h
  · rename_i z
    rw [if_neg z]
    simpa using h
theorem exch_same (a b : List Cut) (p : Nat) (s : (Nat × Nat) × (Nat × Nat)) : exchT (a ++ (p, s.1.1, s.1.2) :: (p, s.2.1, s.2.2) :: b) a.length = a ++ (p, (tw s).1.1, (tw s).1.2) :: (p, (tw s).2.1, (tw s).2.2) :: b :=
  exch_list2 _ _ _ _ _ _ (twoX_ge (x := (p, s.1.1, s.1.2)) (y := (p, s.2.1, s.2.2)) (by show ¬ p < p; omega))
/-- how often two cuts are exchanged till they are as they were -/
def timesN (x y : Cut) : Nat := if x.1 = y.1 ∧ both (x.2, y.2) = 1 then 3 else 2
theorem exch_times {m l k : Nat} {r : List Cut} (hm : m ≤ 5) (hg : ∀ c ∈ r, CutOk m l c) (hk : k + 1 < r.length) : (List.replicate (timesN (r.getD k (0, 0, 0)) (r.getD (k + 1) (0, 0, 0))) k).foldl exchT r = r := by
  by_cases hu : (r.getD k (0, 0, 0)).1 = (r.getD (k + 1) (0, 0, 0)).1
  · obtain ⟨a, b, ha, e⟩ := row_split hk
    have hx := row_get hg (k := k) (by omega)
    have hy := row_get hg hk
    generalize r.getD k (0, 0, 0) = x at *
    generalize r.getD (k + 1) (0, 0, 0) = y at *
    obtain ⟨p, x1, x2⟩ := x
    obtain ⟨q, y1, y2⟩ := y
    obtain ⟨hx1, hx2, hx3⟩ := hx
    obtain ⟨hy1, hy2, hy3⟩ := hy
    simp only at hu hx2 hx3 hy2 hy3
    subst hu
    subst e ha
    have t := tw_ok (a := x1) (b := x2) (c := y1) (d := y2) hx2 (by omega) hy2 (by omega)
    have e1 := fun s => exch_same a b p s
    have z0 : a ++ (p, x1, x2) :: (p, y1, y2) :: b = a ++ (p, (((x1, x2), (y1, y2)) : (Nat × Nat) × (Nat × Nat)).1.1, (((x1, x2), (y1, y2)) : (Nat × Nat) × (Nat × Nat)).1.2) :: (p, (((x1, x2), (y1, y2)) : (Nat × Nat) × (Nat × Nat)).2.1, (((x1, x2), (y1, y2)) : (Nat × Nat) × (Nat × Nat)).2.2) :: b := rfl
    unfold timesN
    by_cases z : both ((x1, x2), (y1, y2)) = 1
    · rw [if_pos z] at t
      rw [if_pos ⟨rfl, z⟩]
      show exchT (exchT (exchT _ a.length) a.length) a.length = _
      rw [z0, e1, e1, e1, t]
    · rw [if_neg z] at t
      rw [if_neg fun h => z h.2]
      show exchT (exchT _ a.length) a.length = _
      rw [z0, e1, e1, t]
  · have : timesN (r.getD k (0, 0, 0)) (r.getD (k + 1) (0, 0, 0)) = 2 := if_neg fun h => hu h.1
    rw [this]
    exact exch_twice hg hk hu
theorem exch_perm {k : Nat} {r : List Cut} (hk : k + 1 < r.length) : ((exchT r k).map (·.1)).Perm (r.map (·.1)) := by
  obtain ⟨a, b, ha, e⟩ := row_split hk
  generalize r.getD k (0, 0, 0) = x at *
  generalize r.getD (k + 1) (0, 0, 0) = y at *
  subst e ha
  by_cases h : x.1 < y.1
  · rw [exch_list2 _ _ _ _ _ _ (twoX_lt h), List.map_append, List.map_append]
    exact List.Perm.append_left _ (List.Perm.swap _ _ _)
  · rw [exch_list2 _ _ _ _ _ _ (twoX_ge h), List.map_append, List.map_append]
    exact List.Perm.append_left _ (List.Perm.swap _ _ _)
end PR

namespace PR
open DL LW
/-! ### the fewest cuts, joint by joint -/
def PF (m : Nat) (g : Nat → Nat) : Prop := LnOk m ((List.range m).map g)
def fewG (m : Nat) (g : Nat → Nat) : Nat := fewJ m ((List.range m).map g)
theorem rgD {m x : Nat} {g : Nat → Nat} (h : x < m) : ((List.range m).map g).getD x 0 = g x := by simp [h]
theorem PF.lt {m : Nat} {g : Nat → Nat} (h : PF m g) {x : Nat} (hx : x < m) : g x < m := by
  have := (ln_lt h).2 x hx
  rwa [rgD hx] at this
theorem map_congr {m : Nat} {f g : Nat → Nat} (h : ∀ x, x < m → f x = g x) : (List.range m).map f = (List.range m).map g := List.map_congr_left fun x hx => h x (List.mem_range.mp hx)
theorem fewG_congr {m : Nat} {f g : Nat → Nat} (h : ∀ x, x < m → f x = g x) : fewG m f = fewG m g := by unfold fewG; rw [map_congr h]
theorem PF.congr {m : Nat} {f g : Nat → Nat} (hf : PF m f) (h : ∀ x, x < m → f x = g x) : PF m g := by unfold PF at *; rwa [← map_congr h]
theorem PF.comp {m : Nat} {g h : Nat → Nat} (hg : PF m g) (hh : PF m h) : PF m fun x => g (h x) := by
  have := comp_ok hh hg
  rw [List.map_map] at this
  unfold PF
  rw [show (List.range m).map (fun x => g (h x)) = (List.range m).map ((fun x => ((List.range m).map g).getD x 0) ∘ h) from map_congr fun x hx => (rgD (hh.lt hx)).symm]
  exact this
theorem PF.swap {m a b : Nat} (ha : a < m) (hb : b < m) : PF m (swapN a b) := swap_perm ha hb
theorem PF.id (m : Nat) : PF m fun x => x := by
  unfold PF
  rw [show (List.range m).map (fun x => x) = List.range m from List.map_id _]
  exact range_ok m
/-! what holds of all lines of few ribbons -/
def swR (m : Nat) (j : List Nat) (a b : Nat) : List Nat := (List.range m).map fun x => j.getD (swapN a b x) 0
def swL (m : Nat) (j : List Nat) (a b : Nat) : List Nat := (List.range m).map fun x => swapN a b (j.getD x 0)
def swC (m : Nat) (j : List Nat) (a b : Nat) : List Nat := (List.range m).map fun x => swapN a b (j.getD (swapN a b x) 0)
def near (x y : Nat) : Bool := decide (x = y + 1) || decide (y = x + 1)
def fwB (m : Nat) (j : List Nat) : Bool :=
  ((List.range m).all fun a => (List.range m).all fun b => !decide (a < b) || (near (fewJ m (swR m j a b)) (fewJ m j) && near (fewJ m (swL m j a b)) (fewJ m j) && decide (fewJ m (swC m j a b) = fewJ m j))) &&
  (decide (m = 0) || decide (fewJ m j + 1 ≤ m)) && (decide (fewJ m j = 0) == decide (j = List.range m)) &&
  (decide (fewJ m j = 0) || (List.range m).any fun a => (List.range m).any fun b => decide (a < b) && decide (fewJ m (swR m j a b) + 1 = fewJ m j)) &&
  decide (fewJ m ((List.range m).map fun x => j.idxOf x) = fewJ m j)
theorem fw_all : ((List.range 6).all fun m => (permsT m).all (fwB m)) = true := by decide +kernel
theorem fw_ok {m : Nat} {j : List Nat} (hm : m ≤ 5) (hj : LnOk m j) : fwB m j = true := all_perms fw_all hm hj
theorem near_iff {x y : Nat} : near x y = true ↔ x = y + 1 ∨ y = x + 1 := by simp [near]
theorem few_pair {m a b : Nat} {j : List Nat} (hm : m ≤ 5) (hj : LnOk m j) (hab : a < b) (hb : b < m) : near (fewJ m (swR m j a b)) (fewJ m j) = true ∧ near (fewJ m (swL m j a b)) (fewJ m j) = true ∧ fewJ m (swC m j a b) = fewJ m j := by
  have h := fw_ok hm hj
  unfold fwB at h
  simp only [Bool.and_eq_true] at h
  have h := h.1.1.1.1
  rw [List.all_eq_true] at h
  have h := h a (List.mem_range.mpr (by omega))
  rw [List.all_eq_true] at h
  have h := h b (List.mem_range.mpr hb)
  simp only [Bool.or_eq_true, Bool.not_eq_true', decide_eq_false_iff_not, Bool.and_eq_true, decide_eq_true_eq] at h
  have h := h.resolve_left (by omega)
  exact ⟨h.1.1, h.1.2, h.2⟩
theorem fewG_le {m : Nat} {g : Nat → Nat} (hm : m ≤ 5) (h1 : 1 ≤ m) (hg : PF m g) : fewG m g + 1 ≤ m := by
  have h := fw_ok hm hg
  unfold fwB at h
  simp only [Bool.and_eq_true, Bool.or_eq_true, decide_eq_true_eq] at h
  exact h.1.1.1.2.resolve_left (by omega)
theorem fewG_zero {m : Nat} {g : Nat → Nat} (hm : m ≤ 5) (hg : PF m g) : fewG m g = 0 ↔ ∀ x, x < m → g x = x := by
  have h := fw_ok hm hg
  unfold fwB at h
  simp only [Bool.and_eq_true, beq_iff_eq] at h
  have h := h.1.1.2
  have e : fewJ m ((List.range m).map g) = 0 ↔ (List.range m).map g = List.range m := by
    by_cases z : fewJ m ((List.range m).map g) = 0
    · rw [decide_eq_true z] at h
      exact ⟨fun _ => of_decide_eq_true h.symm, fun _ => z⟩
    · rw [decide_eq_false z] at h
      exact ⟨fun y => absurd y z, fun y => absurd y (of_decide_eq_false h.symm)⟩
  unfold fewG
  rw [e]
  constructor
  · intro q x hx
    have := congrArg (fun l : List Nat => l.getD x 0) q
    simp only [rgD hx] at this
    rw [this]
    simp [hx]
  · intro q
    rw [map_congr q]
    exact List.map_id _
theorem fewG_down {m : Nat} {g : Nat → Nat} (hm : m ≤ 5) (hg : PF m g) (h0 : fewG m g ≠ 0) : ∃ a b, a < b ∧ b < m ∧ fewG m (fun x => g (swapN a b x)) + 1 = fewG m g := by
  have h := fw_ok hm hg
  unfold fwB at h
  simp only [Bool.and_eq_true, Bool.or_eq_true, decide_eq_true_eq, List.any_eq_true, List.mem_range] at h
  obtain ⟨a, ha, b, hb, hab, e⟩ := h.1.2.resolve_left h0
  refine ⟨a, b, hab, hb, ?_⟩
  rw [show fewG m (fun x => g (swapN a b x)) = fewJ m (swR m ((List.range m).map g) a b) from by
    unfold fewG swR
    rw [map_congr fun x hx => rgD (m := m) (g := g) (swapN_lt ha hb hx)]]
  exact e
theorem fewG_inv {m : Nat} {g g' : Nat → Nat} (hm : m ≤ 5) (hg : PF m g) (h : ∀ x, x < m → g' x < m ∧ g (g' x) = x) : fewG m g' = fewG m g := by
  have q := fw_ok hm hg
  unfold fwB at q
  simp only [Bool.and_eq_true, decide_eq_true_eq] at q
  have e : (List.range m).map g' = (List.range m).map fun x => ((List.range m).map g).idxOf x := map_congr fun x hx => by
    obtain ⟨h1, h2⟩ := h x hx
    have := ln_of hg h1
    rw [rgD h1, h2] at this
    exact this.symm
  unfold fewG
  rw [e]
  exact q.2
theorem fewG_swR {m a b : Nat} {g : Nat → Nat} (hm : m ≤ 5) (hg : PF m g) (hab : a < b) (hb : b < m) : fewG m (fun x => g (swapN a b x)) = fewG m g + 1 ∨ fewG m g = fewG m (fun x => g (swapN a b x)) + 1 := by
  have h := near_iff.mp (few_pair hm hg hab hb).1
  rw [show fewG m (fun x => g (swapN a b x)) = fewJ m (swR m ((List.range m).map g) a b) from by
    unfold fewG swR
    rw [map_congr fun x hx => rgD (m := m) (g := g) (swapN_lt (by omega) hb hx)]]
  exact h
theorem fewG_swL {m a b : Nat} {g : Nat → Nat} (hm : m ≤ 5) (hg : PF m g) (hab : a < b) (hb : b < m) : fewG m (fun x => swapN a b (g x)) = fewG m g + 1 ∨ fewG m g = fewG m (fun x => swapN a b (g x)) + 1 := by
  have h := near_iff.mp (few_pair hm hg hab hb).2.1
  rw [show fewG m (fun x => swapN a b (g x)) = fewJ m (swL m ((List.range m).map g) a b) from by
    unfold fewG swL
    rw [map_congr (f := fun x => swapN a b (g x)) (g := fun x => swapN a b (((List.range m).map g).getD x 0)) fun x hx => by rw [rgD hx]]]
  exact h
theorem fewG_swC {m a b : Nat} {g : Nat → Nat} (hm : m ≤ 5) (hg : PF m g) (hab : a < b) (hb : b < m) : fewG m (fun x => swapN a b (g (swapN a b x))) = fewG m g := by
  have h := (few_pair hm hg hab hb).2.2
  rw [show fewG m (fun x => swapN a b (g (swapN a b x))) = fewJ m (swC m ((List.range m).map g) a b) from by
    unfold fewG swC
    rw [map_congr (f := fun x => swapN a b (g (swapN a b x))) (g := fun x => swapN a b (((List.range m).map g).getD (swapN a b x) 0)) fun x hx => by rw [rgD (swapN_lt (by omega) hb hx)]]]
  exact h
theorem fewG_comp {m : Nat} (hm : m ≤ 5) : ∀ (n : Nat) (g h : Nat → Nat), PF m g → PF m h → fewG m h = n → fewG m (fun x => g (h x)) ≤ fewG m g + n
  | 0, g, h, hg, hh, e => by
    have := (fewG_zero hm hh).mp e
    rw [fewG_congr (g := g) fun x hx => by rw [this x hx]]
    exact Nat.le_refl _
  | n + 1, g, h, hg, hh, e => by
    obtain ⟨a, b, hab, hb, e1⟩ := fewG_down hm hh (by omega)
    have hs := PF.swap (m := m) (a := a) (b := b) (by omega) hb
    have hh' : PF m fun x => h (swapN a b x) := hh.comp hs
    have ih := fewG_comp hm n g (fun x => h (swapN a b x)) hg hh' (by omega)
    have gh : PF m fun x => g (h (swapN a b x)) := hg.comp hh'
    have st := fewG_swR hm gh hab hb
    have ee : fewG m (fun x => g (h (swapN a b (swapN a b x)))) = fewG m (fun x => g (h x)) := fewG_congr fun x _ => by rw [swapN_inv]
    rw [ee] at st
    omega
theorem fewG_comp' {m : Nat} {g h : Nat → Nat} (hm : m ≤ 5) (hg : PF m g) (hh : PF m h) : fewG m (fun x => g (h x)) ≤ fewG m g + fewG m h := fewG_comp hm _ g h hg hh rfl
theorem PF.act {m l : Nat} {c : Cut} (p : Nat) (h : CutOk m l c) : PF m (actC c p) := by
  have hc := h.2
  by_cases z : c.1 ≤ p
  · have : actC c p = swapN c.2.1 c.2.2 := by funext k; simp [actC, z]
    rw [this]
    exact PF.swap (by omega) hc.2
  · have : actC c p = fun k => k := by funext k; simp [actC, z]
    rw [this]
    exact PF.id m
theorem fewG_act {m l : Nat} {c : Cut} {g : Nat → Nat} (p : Nat) (hm : m ≤ 5) (hg : PF m g) (h : CutOk m l c) : fewG m (fun x => actC c p (g (actC c p x))) = fewG m g := by
  have hc := h.2
  by_cases z : c.1 ≤ p
  · have : actC c p = swapN c.2.1 c.2.2 := by funext k; simp [actC, z]
    rw [this]
    exact fewG_swC hm hg (by omega) hc.2
  · have : actC c p = fun k => k := by funext k; simp [actC, z]
    rw [this]
theorem PF.line {m l : Nat} {r : List Cut} (p : Nat) (h : ∀ c ∈ r, CutOk m l c) : PF m (lineF r p) := line_perm p h
theorem rev_ok {m l : Nat} {r : List Cut} (h : ∀ c ∈ r, CutOk m l c) : ∀ c ∈ r.reverse, CutOk m l c := fun c hc => h c (List.mem_reverse.mp hc)
theorem fewG_conj {m l : Nat} (p : Nat) (hm : m ≤ 5) : ∀ (r : List Cut) (g : Nat → Nat), (∀ c ∈ r, CutOk m l c) → PF m g → fewG m (fun x => lineF r p (g (lineF r.reverse p x))) = fewG m g
  | [], g, _, _ => rfl
  | c :: r, g, h, hg => by
    have hr : ∀ c ∈ r, CutOk m l c := fun x hx => h x (List.mem_cons_of_mem _ hx)
    have ih := fewG_conj p hm r g hr hg
    have pf : PF m fun x => lineF r p (g (lineF r.reverse p x)) := (PF.line p hr).comp (hg.comp (PF.line p (rev_ok hr)))
    rw [← ih, ← fewG_act p hm pf (h c List.mem_cons_self)]
    refine fewG_congr fun x _ => ?_
    rw [List.reverse_cons, lineF_app]; rfl
/-! ### the joints of a row's effect -/
def backF (r : List Cut) (p x : Nat) : Nat := if p = 0 then x else lineF r.reverse (p - 1) x
def frontF (r : List Cut) (p x : Nat) : Nat := if p = 0 then x else lineF r (p - 1) x
def jF (r : List Cut) (p x : Nat) : Nat := lineF r p (backF r p x)
theorem PF.back {m l : Nat} {r : List Cut} (p : Nat) (h : ∀ c ∈ r, CutOk m l c) : PF m (backF r p) := by
  by_cases z : p = 0
  · exact (PF.id m).congr fun x _ => by simp [backF, z]
  · exact (PF.line (p - 1) (rev_ok h)).congr fun x _ => by simp [backF, z]
theorem PF.front {m l : Nat} {r : List Cut} (p : Nat) (h : ∀ c ∈ r, CutOk m l c) : PF m (frontF r p) := by
  by_cases z : p = 0
  · exact (PF.id m).congr fun x _ => by simp [frontF, z]
  · exact (PF.line (p - 1) h).congr fun x _ => by simp [frontF, z]
theorem PF.joint {m l : Nat} {r : List Cut} (p : Nat) (h : ∀ c ∈ r, CutOk m l c) : PF m (jF r p) := (PF.line p h).comp (PF.back p h)
theorem back_front (r : List Cut) (p x : Nat) : backF r p (frontF r p x) = x := by
  unfold backF frontF
  split
  · rfl
  · exact lineF_rev _ _ _
theorem front_back (r : List Cut) (p x : Nat) : frontF r p (backF r p x) = x := by
  unfold backF frontF
  split
  · rfl
  · exact lineF_rev' _ _ _
theorem does_get {m l p : Nat} {r : List Cut} (hp : p < l) : (doesT m l r).getD p [] = (List.range m).map (lineF r p) := by simp [doesT, hp]
theorem joinT_does {m l : Nat} {r : List Cut} (hg : ∀ c ∈ r, CutOk m l c) : joinT m (doesT m l r) = (List.range l).map fun p => (List.range m).map (jF r p) := by
  have he := does_eff (m := m) (l := l) hg
  have hl : (joinT m (doesT m l r)).length = l := (joinT_ok he).1
  refine List.ext_getElem (by simp [hl]) fun p h1 h2 => ?_
  have hp : p < l := by rw [hl] at h1; exact h1
  have e := joinT_get (m := m) (p := p) (e := doesT m l r) (by rw [he.1]; exact hp)
  rw [List.getD_eq_getElem?_getD, List.getElem?_eq_getElem h1] at e
  simp only [Option.getD_some] at e
  rw [e, does_get hp]
  simp only [List.getElem_map, List.getElem_range]
  unfold jL
  refine map_congr fun x hx => ?_
  unfold jF
  have hb := (PF.back (m := m) (r := r) p hg).lt hx
  have ix : (if p = 0 then List.range m else (doesT m l r).getD (p - 1) []).idxOf x = backF r p x := by
    by_cases z : p = 0
    · rw [if_pos z]
      have := ln_of (range_ok m) hx
      rw [range_getD hx] at this
      rw [this]
      simp [backF, z]
    · rw [if_neg z, does_get (by omega)]
      have := ln_of (PF.line (m := m) (p - 1) hg) hb
      rw [rgD hb] at this
      have e2 : lineF r (p - 1) (backF r p x) = x := by simp only [backF, if_neg z]; exact lineF_rev' _ _ _
      rw [e2] at this
      exact this
  rw [ix, rgD hb]
def fewR (m l : Nat) (r : List Cut) : Nat := fewT m (doesT m l r)
theorem fewR_sum {m l : Nat} {r : List Cut} (hg : ∀ c ∈ r, CutOk m l c) : fewR m l r = ((List.range l).map fun p => fewG m (jF r p)).sum := by
  unfold fewR fewT
  rw [joinT_does hg, List.map_map]; rfl
theorem sum_congr {l : Nat} {f g : Nat → Nat} (h : ∀ p, p < l → f p = g p) : ((List.range l).map f).sum = ((List.range l).map g).sum := by rw [map_congr h]
theorem sum_one {f g : Nat → Nat} {q : Nat} : ∀ l, q < l → (∀ p, p < l → p ≠ q → f p = g p) → ((List.range l).map f).sum + g q = ((List.range l).map g).sum + f q
  | 0, h, _ => by omega
  | l + 1, h, hs => by
    rw [List.range_succ, List.map_append, List.map_append, List.sum_append, List.sum_append]
    simp only [List.map_cons, List.map_nil, List.sum_cons, List.sum_nil]
    by_cases z : q = l
    · subst z
      have := sum_congr (l := q) fun p hp => hs p (by omega) (by omega)
      omega
    · have := sum_one l (by omega) fun p hp hn => hs p (by omega) hn
      have := hs l (by omega) (fun e => z e.symm)
      omega
theorem sum_le {f g : Nat → Nat} : ∀ l, (∀ p, p < l → f p ≤ g p) → ((List.range l).map f).sum ≤ ((List.range l).map g).sum
  | 0, _ => by simp
  | l + 1, h => by
    rw [List.range_succ, List.map_append, List.map_append, List.sum_append, List.sum_append]
    have := sum_le l fun p hp => h p (by omega)
    have := h l (by omega)
    simp only [List.map_cons, List.map_nil, List.sum_cons, List.sum_nil]
    omega
theorem sum_add (f g : Nat → Nat) : ∀ l, ((List.range l).map fun p => f p + g p).sum = ((List.range l).map f).sum + ((List.range l).map g).sum
  | 0 => rfl
  | l + 1 => by
    rw [List.range_succ, List.map_append, List.map_append, List.map_append, List.sum_append, List.sum_append, List.sum_append, sum_add f g l]
    simp only [List.map_cons, List.map_nil, List.sum_cons, List.sum_nil]
    omega
theorem actC_low {c : Cut} {p : Nat} (h : ¬ c.1 ≤ p) (k : Nat) : actC c p k = k := if_neg h
theorem actC_high {c : Cut} {p : Nat} (h : c.1 ≤ p) (k : Nat) : actC c p k = swapN c.2.1 c.2.2 k := if_pos h
theorem rev_snoc (r : List Cut) (c : Cut) : (r ++ [c]).reverse = c :: r.reverse := by simp
theorem line_snoc (r : List Cut) (c : Cut) (p k : Nat) : lineF (r ++ [c]) p k = lineF r p (actC c p k) := by rw [lineF_app]; rfl
theorem jF_snoc_other {r : List Cut} {c : Cut} {p : Nat} (h : p ≠ c.1) (x : Nat) : jF (r ++ [c]) p x = jF r p x := by
  unfold jF
  rw [line_snoc]
  by_cases z : p = 0
  · rw [actC_low (by omega)]
    simp [backF, z]
  · have e : backF (r ++ [c]) p x = actC c (p - 1) (backF r p x) := by
      simp only [backF, if_neg z, rev_snoc]; rfl
    rw [e]
    by_cases y : c.1 ≤ p
    · rw [actC_high y, actC_high (by omega), swapN_inv]
    · rw [actC_low y, actC_low (by omega)]
theorem jF_snoc_at {r : List Cut} {c : Cut} (x : Nat) : jF (r ++ [c]) c.1 x = jF r c.1 (swapN (frontF r c.1 c.2.1) (frontF r c.1 c.2.2) x) := by
  have inj : ∀ a b, frontF r c.1 a = frontF r c.1 b → a = b := fun a b e => by rw [← back_front r c.1 a, e, back_front]
  have e : backF (r ++ [c]) c.1 x = backF r c.1 x := by
    by_cases z : c.1 = 0
    · simp [backF, z]
    · simp only [backF, if_neg z, rev_snoc]
      exact actC_low (by omega) _
  unfold jF
  rw [line_snoc, e, actC_high (Nat.le_refl _)]
  congr 1
  have := swapN_conj inj c.2.1 c.2.2 (backF r c.1 x)
  rw [front_back] at this
  rw [this, back_front]
theorem fewR_snoc {m l : Nat} {r : List Cut} {c : Cut} (hm : m ≤ 5) (hg : ∀ c ∈ r, CutOk m l c) (hc : CutOk m l c) : fewR m l (r ++ [c]) = fewR m l r + 1 ∨ fewR m l r = fewR m l (r ++ [c]) + 1 := by
  have ok := app_ok hg (s := [c]) fun x hx => by rw [List.mem_singleton.mp hx]; exact hc
  have s1 := sum_one (f := fun p => fewG m (jF (r ++ [c]) p)) (g := fun p => fewG m (jF r p)) (q := c.1) l hc.1 fun p hp hn => fewG_congr fun x _ => jF_snoc_other hn x
  rw [← fewR_sum ok, ← fewR_sum hg] at s1
  have fr := PF.front c.1 hg
  have ha := fr.lt (x := c.2.1) (by have := hc.2; omega)
  have hb := fr.lt (x := c.2.2) hc.2.2
  have ne : frontF r c.1 c.2.1 ≠ frontF r c.1 c.2.2 := fun e => by
    have := back_front r c.1 c.2.1
    rw [e, back_front] at this
    have := hc.2.1
    omega
  have pj := PF.joint c.1 hg
  have st : fewG m (jF (r ++ [c]) c.1) = fewG m (jF r c.1) + 1 ∨ fewG m (jF r c.1) = fewG m (jF (r ++ [c]) c.1) + 1 := by
    rw [fewG_congr (m := m) fun x _ => jF_snoc_at (r := r) (c := c) x]
    rcases Nat.lt_or_gt_of_ne ne with z | z
    · exact fewG_swR hm pj z hb
    · have := fewG_swR hm pj z ha
      rw [fewG_congr (m := m) (f := fun x => jF r c.1 (swapN (frontF r c.1 c.2.2) (frontF r c.1 c.2.1) x)) (g := fun x => jF r c.1 (swapN (frontF r c.1 c.2.1) (frontF r c.1 c.2.2) x)) fun x _ => by rw [swapN_comm]] at this
      exact this
  omega
theorem back_cons (r : List Cut) (c : Cut) (p x : Nat) : backF (c :: r) p x = backF r p (if p = 0 then x else actC c (p - 1) x) := by
  unfold backF
  split
  · rfl
  · rw [List.reverse_cons, lineF_app]; rfl
theorem fewR_cons {m l : Nat} {r : List Cut} {c : Cut} (hm : m ≤ 5) (hg : ∀ c ∈ r, CutOk m l c) (hc : CutOk m l c) : fewR m l (c :: r) = fewR m l r + 1 ∨ fewR m l r = fewR m l (c :: r) + 1 := by
  have ok : ∀ x ∈ c :: r, CutOk m l x := fun x hx => by
    rcases List.mem_cons.mp hx with z | z
    · rw [z]; exact hc
    · exact hg x z
  have s1 := sum_one (f := fun p => fewG m (jF (c :: r) p)) (g := fun p => fewG m (jF r p)) (q := c.1) l hc.1 fun p hp hn => by
    have pj := PF.joint p hg
    by_cases y : c.1 ≤ p
    · have z : p ≠ 0 := by omega
      have e : ∀ x, jF (c :: r) p x = actC c p (jF r p (actC c p x)) := fun x => by
        unfold jF
        rw [back_cons, if_neg z, actC_high (p := p - 1) (by omega), actC_high (p := p) y x]; rfl
      show fewG m (jF (c :: r) p) = _
      rw [fewG_congr (m := m) fun x _ => e x]
      exact fewG_act p hm pj hc
    · refine fewG_congr fun x _ => ?_
      unfold jF
      rw [back_cons]
      have : (if p = 0 then x else actC c (p - 1) x) = x := by
        split
        · rfl
        · exact actC_low (by omega) _
      rw [this]
      exact actC_low y _
  rw [← fewR_sum ok, ← fewR_sum hg] at s1
  have pj := PF.joint c.1 hg
  have e : ∀ x, jF (c :: r) c.1 x = swapN c.2.1 c.2.2 (jF r c.1 x) := fun x => by
    unfold jF
    rw [back_cons]
    have : (if c.1 = 0 then x else actC c (c.1 - 1) x) = x := by
      split
      · rfl
      · exact actC_low (by omega) _
    rw [this]
    exact actC_high (Nat.le_refl _) _
  have st : fewG m (jF (c :: r) c.1) = fewG m (jF r c.1) + 1 ∨ fewG m (jF r c.1) = fewG m (jF (c :: r) c.1) + 1 := by
    rw [fewG_congr (m := m) fun x _ => e x]
    exact fewG_swL hm pj hc.2.1 hc.2.2
  omega
theorem fewR_nil {m l : Nat} (hm : m ≤ 5) : fewR m l [] = 0 := by
  rw [fewR_sum (fun c hc => by cases hc)]
  have : ∀ n, ((List.range n).map fun p => fewG m (jF [] p)).sum = 0 := fun n => by
    induction n with
    | zero => rfl
    | succ n ih =>
      rw [List.range_succ, List.map_append, List.sum_append, ih]
      have e : fewG m (jF [] n) = 0 := (fewG_zero hm (PF.joint (m := m) (l := l) n (fun c hc => by cases hc))).mpr fun x _ => by
        unfold jF backF
        split <;> rfl
      simp [e]
  exact this l
theorem fewR_len {m l : Nat} (hm : m ≤ 5) : ∀ r : List Cut, (∀ c ∈ r, CutOk m l c) → fewR m l r ≤ r.length ∧ (r.length - fewR m l r) % 2 = 0
  | [], _ => by rw [fewR_nil hm]; simp
  | c :: r, h => by
    have hr : ∀ c ∈ r, CutOk m l c := fun x hx => h x (List.mem_cons_of_mem _ hx)
    obtain ⟨i1, i2⟩ := fewR_len hm r hr
    have := fewR_cons hm hr (h c List.mem_cons_self)
    rw [List.length_cons]
    omega
theorem fewR_most {m l : Nat} {r : List Cut} (hm : m ≤ 5) (h1 : 1 ≤ m) (hg : ∀ c ∈ r, CutOk m l c) : fewR m l r ≤ (m - 1) * l := by
  rw [fewR_sum hg]
  have := sum_le (f := fun p => fewG m (jF r p)) (g := fun _ => m - 1) l fun p _ => by have := fewG_le hm h1 (PF.joint p hg); show fewG m (jF r p) ≤ _; omega
  have e : ∀ n, ((List.range n).map fun _ => m - 1).sum = (m - 1) * n := fun n => by
    induction n with
    | zero => simp
    | succ n ih =>
      rw [List.range_succ, List.map_append, List.sum_append, ih]
      simp [Nat.mul_succ]
  rw [e] at this
  exact this
theorem jF_app (r s : List Cut) (p x : Nat) : jF (r ++ s) p x = jF r p (frontF r p (jF s p (backF r p x))) := by
  unfold jF
  rw [back_front, lineF_app]
  congr 2
  unfold backF
  split
  · rfl
  · rw [List.reverse_append, lineF_app]
theorem front_conj {m l : Nat} {r : List Cut} {g : Nat → Nat} (p : Nat) (hm : m ≤ 5) (hg : ∀ c ∈ r, CutOk m l c) (h : PF m g) : fewG m (fun x => frontF r p (g (backF r p x))) = fewG m g := by
  by_cases z : p = 0
  · exact fewG_congr fun x _ => by simp [frontF, backF, z]
  · rw [← fewG_conj (p - 1) hm r g hg h]
    exact fewG_congr fun x _ => by simp [frontF, backF, z]
theorem fewR_app {m l : Nat} {r s : List Cut} (hm : m ≤ 5) (hg : ∀ c ∈ r, CutOk m l c) (hs : ∀ c ∈ s, CutOk m l c) : fewR m l (r ++ s) ≤ fewR m l r + fewR m l s := by
  rw [fewR_sum (app_ok hg hs), fewR_sum hg, fewR_sum hs, ← sum_add]
  refine sum_le l fun p _ => ?_
  have e := front_conj p hm hg (PF.joint p hs)
  rw [← e, fewG_congr (m := m) fun x _ => jF_app r s p x]
  exact fewG_comp' hm (PF.joint p hg) ((PF.front p hg).comp ((PF.joint p hs).comp (PF.back p hg)))
theorem fewR_rev {m l : Nat} {r : List Cut} (hm : m ≤ 5) (hg : ∀ c ∈ r, CutOk m l c) : fewR m l r.reverse = fewR m l r := by
  rw [fewR_sum (rev_ok hg), fewR_sum hg]
  refine sum_congr fun p _ => ?_
  have pinv : PF m fun x => frontF r p (lineF r.reverse p x) := (PF.front p hg).comp (PF.line p (rev_ok hg))
  have e1 := fewG_inv (g := jF r p) (g' := fun x => frontF r p (lineF r.reverse p x)) hm (PF.joint p hg) fun x hx => ⟨pinv.lt hx, by
    show lineF r p (backF r p (frontF r p _)) = x
    rw [back_front]; exact lineF_rev' _ _ _⟩
  rw [← e1, ← fewG_conj p hm r.reverse _ (rev_ok hg) pinv]
  refine fewG_congr fun x _ => ?_
  rw [List.reverse_reverse]
  show lineF r.reverse p (backF r.reverse p x) = _
  rw [lineF_rev]
  congr 1
  unfold backF frontF
  rw [List.reverse_reverse]
theorem fewR_zero {m l : Nat} {r : List Cut} (hm : m ≤ 5) (hg : ∀ c ∈ r, CutOk m l c) : fewR m l r = 0 ↔ doesT m l r = doesT m l [] := by
  constructor
  · intro h
    rw [fewR_sum hg] at h
    have z : ∀ n, ((List.range n).map fun p => fewG m (jF r p)).sum = 0 → ∀ p, p < n → fewG m (jF r p) = 0 := fun n => by
      induction n with
      | zero => intro _ p hp; omega
      | succ n ih =>
        intro h p hp
        rw [List.range_succ, List.map_append, List.sum_append] at h
        simp only [List.map_cons, List.map_nil, List.sum_cons, List.sum_nil] at h
        by_cases y : p = n
        · rw [y]; omega
        · exact ih (by omega) p (by omega)
    have zz := z l h
    refine doesT_eq.mpr fun p => ?_
    induction p with
    | zero =>
      intro hp k hk
      have := (fewG_zero hm (PF.joint 0 hg)).mp (zz 0 hp) k hk
      exact this
    | succ p ih =>
      intro hp k hk
      have e := (fewG_zero hm (PF.joint (p + 1) hg)).mp (zz (p + 1) hp)
      have e1 := e (lineF r p k) ((PF.line p hg).lt hk)
      unfold jF backF at e1
      simp only [Nat.add_sub_cancel, Nat.add_eq_zero_iff, Nat.succ_ne_zero, and_false, if_false, lineF_rev] at e1
      have := ih (by omega) k hk
      rw [e1]; exact this
  · intro h
    unfold fewR
    rw [h]
    exact fewR_nil hm
end PR

namespace PR
open DL LW PS
/-! ### pieces and joints -/
def df (m : Nat) (f g : Nat → Nat) : Nat := ((List.range m).map fun k => if f k = g k then 0 else 1).sum
theorem df_congr {m : Nat} {f g f' g' : Nat → Nat} (h : ∀ k, k < m → (f k = g k ↔ f' k = g' k)) : df m f g = df m f' g' := by
  unfold df
  refine sum_congr fun k hk => ?_
  by_cases z : f k = g k
  · rw [if_pos z, if_pos ((h k hk).mp z)]
  · rw [if_neg z, if_neg fun y => z ((h k hk).mpr y)]
theorem sum_perm {m : Nat} {σ F : Nat → Nat} (h : PF m σ) : ((List.range m).map fun k => F (σ k)).sum = ((List.range m).map F).sum := by
  have : (((List.range m).map σ).map F).Perm ((List.range m).map F) := List.Perm.map F h
  rw [List.map_map] at this
  exact this.sum_nat
theorem df_perm {m : Nat} {σ f g : Nat → Nat} (h : PF m σ) : df m (fun k => f (σ k)) (fun k => g (σ k)) = df m f g := sum_perm (F := fun k => if f k = g k then 0 else 1) h
theorem df_self (m : Nat) (f : Nat → Nat) : df m f f = 0 := by
  unfold df
  have : (List.range m).map (fun k => if f k = f k then 0 else 1) = (List.range m).map fun _ => 0 := map_congr fun k _ => if_pos rfl
  rw [this]
  induction m with
  | zero => rfl
  | succ n ih => rw [List.range_succ, List.map_append, List.sum_append]; rw [ih (map_congr fun k _ => if_pos rfl)]; rfl
theorem sum_ind (a : Nat) : ∀ m, ((List.range m).map fun k => if k = a then 1 else 0).sum ≤ if a < m then 1 else 0
  | 0 => by simp
  | m + 1 => by
    have := sum_ind a m
    rw [List.range_succ, List.map_append, List.sum_append]
    simp only [List.map_cons, List.map_nil, List.sum_cons, List.sum_nil]
    by_cases z : m = a
    · rw [if_pos z, if_pos (by omega)]
      rw [if_neg (by omega)] at this
      omega
    · rw [if_neg z]
      by_cases y : a < m
      · rw [if_pos y] at this; rw [if_pos (by omega)]; omega
      · rw [if_neg y] at this; omega
theorem sum_two {F G : Nat → Nat} {a b : Nat} (m : Nat) (h1 : ∀ k, F k ≤ 1) (h : ∀ k, k ≠ a → k ≠ b → F k = G k) : ((List.range m).map F).sum ≤ ((List.range m).map G).sum + 2 := by
  have st := sum_le (f := F) (g := fun k => G k + ((if k = a then 1 else 0) + if k = b then 1 else 0)) m fun k _ => by
    show F k ≤ G k + _
    have := h1 k
    by_cases z : k = a
    · rw [if_pos z]; omega
    · by_cases y : k = b
      · rw [if_neg z, if_pos y]; omega
      · rw [if_neg z, if_neg y, h k z y]; omega
  rw [sum_add, sum_add] at st
  have i1 := sum_ind a m
  have i2 := sum_ind b m
  have q : ∀ x, (if x < m then 1 else 0) ≤ 1 := fun x => by split <;> omega
  have q1 := q a
  have q2 := q b
  omega
theorem swapN_other {a b k : Nat} (h1 : k ≠ a) (h2 : k ≠ b) : swapN a b k = k := by simp [swapN, h1, h2]
theorem df_swap {m a b : Nat} {f g : Nat → Nat} : df m (fun k => f (swapN a b k)) g ≤ df m f g + 2 ∧ df m f g ≤ df m (fun k => f (swapN a b k)) g + 2 := by
  constructor
  · refine sum_two (a := a) (b := b) m (fun k => by show (if _ then 0 else 1) ≤ 1; split <;> omega) fun k h1 h2 => ?_
    simp only [swapN_other h1 h2]
  · refine sum_two (a := a) (b := b) m (fun k => by show (if _ then 0 else 1) ≤ 1; split <;> omega) fun k h1 h2 => ?_
    simp only [swapN_other h1 h2]
theorem sum_swap (F : Nat → Nat → Nat) (m : Nat) : ∀ i, ((List.range m).map fun r => ((List.range i).map fun p => F r p).sum).sum = ((List.range i).map fun p => ((List.range m).map fun r => F r p).sum).sum
  | 0 => by
    show ((List.range m).map fun _ => 0).sum = 0
    induction m with
    | zero => rfl
    | succ n ih => rw [List.range_succ, List.map_append, List.sum_append, ih]; rfl
  | i + 1 => by
    rw [List.range_succ, List.map_append, List.sum_append, ← sum_swap F m i]
    simp only [List.map_append, List.sum_append, List.map_cons, List.map_nil, List.sum_cons, List.sum_nil, Nat.add_zero]
    rw [← sum_add]
theorem sum_one1 (m : Nat) : ((List.range m).map fun _ => 1).sum = m := by
  induction m with
  | zero => rfl
  | succ n ih => rw [List.range_succ, List.map_append, List.sum_append, ih]; rfl
theorem fsT_at (w : Nat → Nat) : ∀ i, w (fsT w i).2 = w i
  | 0 => rfl
  | i + 1 => by
    unfold fsT
    split
    · rename_i h; exact h.symm
    · rfl
theorem fsT_count (w : Nat → Nat) : ∀ i, (fsT w i).1.length = ((List.range i).map fun p => if w (p + 1) = w p then 0 else 1).sum
  | 0 => rfl
  | i + 1 => by
    rw [List.range_succ, List.map_append, List.sum_append, ← fsT_count w i]
    have e := fsT_at w i
    rw [fsT]
    simp only [List.map_cons, List.map_nil, List.sum_cons, List.sum_nil]
    by_cases z : w (i + 1) = w i
    · rw [if_pos (by rw [e]; exact z), if_pos z]; rfl
    · rw [if_neg (by rw [e]; exact z), if_neg z]; simp
theorem wOf_does {m l p k : Nat} {r : List Cut} (hp : p < l) (hk : k < m) : wOf (doesT m l r) k p = lineF r p k := by
  unfold wOf
  rw [does_get hp, rgD hk]
/-- places where the ribbons lie otherwise than one place ahead -/
def turnsR (m l : Nat) (r : List Cut) : Nat := ((List.range (l - 1)).map fun p => df m (lineF r (p + 1)) (lineF r p)).sum
theorem many_row {m l : Nat} {r : List Cut} (hl : 1 ≤ l) : manyT m l (doesT m l r) = m + turnsR m l r := by
  unfold manyT turnsR df
  rw [← sum_swap]
  rw [show m + ((List.range m).map fun k => ((List.range (l - 1)).map fun p => if lineF r (p + 1) k = lineF r p k then 0 else 1).sum).sum = ((List.range m).map fun _ => 1).sum + ((List.range m).map fun k => ((List.range (l - 1)).map fun p => if lineF r (p + 1) k = lineF r p k then 0 else 1).sum).sum by rw [sum_one1], ← sum_add]
  refine sum_congr fun k hk => ?_
  obtain ⟨i, rfl⟩ : ∃ i, l = i + 1 := ⟨l - 1, by omega⟩
  show ((fsT (wOf (doesT m (i + 1) r) k) i).1 ++ _).length = _
  rw [List.length_append, fsT_count, Nat.add_sub_cancel]
  simp only [List.length_singleton]
  rw [Nat.add_comm]
  congr 1
  refine sum_congr fun p hp => ?_
  rw [wOf_does (by omega) hk, wOf_does (by omega) hk]
theorem turns_nil (m l : Nat) : turnsR m l [] = 0 := by
  unfold turnsR
  have : (List.range (l - 1)).map (fun p => df m (lineF [] (p + 1)) (lineF [] p)) = (List.range (l - 1)).map fun p => df m (fun k => k) (fun k => k) := map_congr fun p _ => rfl
  rw [this, df_self]
  generalize l - 1 = n
  induction n with
  | zero => rfl
  | succ n ih => rw [List.range_succ, List.map_append, List.sum_append, ih]; rfl
theorem turns_rev {m l : Nat} {r : List Cut} (hg : ∀ c ∈ r, CutOk m l c) : turnsR m l r.reverse = turnsR m l r := by
  unfold turnsR
  refine sum_congr fun p _ => ?_
  rw [← df_perm (σ := lineF r (p + 1)) (PF.line (p + 1) hg)]
  refine df_congr fun k hk => ?_
  show lineF r.reverse (p + 1) (lineF r (p + 1) k) = lineF r.reverse p (lineF r (p + 1) k) ↔ _
  rw [lineF_rev]
  constructor
  · intro h
    have := congrArg (lineF r p) h
    rw [lineF_rev'] at this
    exact this.symm
  · intro h
    rw [h, lineF_rev]
theorem turns_snoc {m l : Nat} {r : List Cut} {c : Cut} (hc : CutOk m l c) : turnsR m l (r ++ [c]) ≤ turnsR m l r + 2 ∧ turnsR m l r ≤ turnsR m l (r ++ [c]) + 2 := by
  have hc2 := hc.2
  have same : ∀ p, p + 1 ≠ c.1 → df m (lineF (r ++ [c]) (p + 1)) (lineF (r ++ [c]) p) = df m (lineF r (p + 1)) (lineF r p) := fun p hp => by
    by_cases z : c.1 ≤ p
    · have : df m (lineF (r ++ [c]) (p + 1)) (lineF (r ++ [c]) p) = df m (fun k => lineF r (p + 1) (swapN c.2.1 c.2.2 k)) (fun k => lineF r p (swapN c.2.1 c.2.2 k)) := df_congr fun k _ => by
        rw [line_snoc, line_snoc, actC_high z, actC_high (by omega)]
      rw [this]
      exact df_perm (PF.swap (by omega) hc2.2)
    · exact df_congr fun k _ => by rw [line_snoc, line_snoc, actC_low z, actC_low (by omega)]
  by_cases z : c.1 = 0
  · have : turnsR m l (r ++ [c]) = turnsR m l r := sum_congr fun p _ => same p (by omega)
    omega
  · have hl : c.1 - 1 < l - 1 := by have := hc.1; omega
    have s1 := sum_one (f := fun p => df m (lineF (r ++ [c]) (p + 1)) (lineF (r ++ [c]) p)) (g := fun p => df m (lineF r (p + 1)) (lineF r p)) (q := c.1 - 1) (l - 1) hl fun p _ hn => same p (by omega)
    have e : df m (lineF (r ++ [c]) (c.1 - 1 + 1)) (lineF (r ++ [c]) (c.1 - 1)) = df m (fun k => lineF r (c.1 - 1 + 1) (swapN c.2.1 c.2.2 k)) (lineF r (c.1 - 1)) := df_congr fun k _ => by
      rw [line_snoc, line_snoc, actC_high (by omega), actC_low (p := c.1 - 1) (by omega)]
    have sw := df_swap (m := m) (a := c.2.1) (b := c.2.2) (f := lineF r (c.1 - 1 + 1)) (g := lineF r (c.1 - 1))
    simp only [e] at s1
    unfold turnsR
    omega
/-! joints: how many ribbons they lead elsewhere -/
def mvP (j : List Nat) (k : Nat) : Bool := !decide (k = j.getD k 0)
def mvJ (m : Nat) (j : List Nat) : Nat := ((List.range m).filter (mvP j)).length
theorem mv_all : ((List.range 6).all fun m => (permsT m).all fun j => decide (fewJ m j ≤ mvJ m j) && decide (mvJ m j ≤ 2 * fewJ m j)) = true := by decide +kernel
theorem mv_few {m : Nat} {j : List Nat} (hm : m ≤ 5) (hj : LnOk m j) : fewJ m j ≤ mvJ m j ∧ mvJ m j ≤ 2 * fewJ m j := by
  have := all_perms (P := fun m j => decide (fewJ m j ≤ mvJ m j) && decide (mvJ m j ≤ 2 * fewJ m j)) mv_all hm hj
  simpa using this
theorem filter_sum {p : Nat → Bool} : ∀ l : List Nat, (l.filter p).length = (l.map fun k => if p k then 1 else 0).sum
  | [] => rfl
  | x :: l => by
    rw [List.filter_cons, List.map_cons, List.sum_cons, ← filter_sum l]
    split <;> simp [*, Nat.add_comm]
theorem mv_df {m : Nat} {g : Nat → Nat} : mvJ m ((List.range m).map g) = df m g fun x => x := by
  unfold mvJ df
  rw [filter_sum]
  refine sum_congr fun k hk => ?_
  unfold mvP
  rw [rgD hk]
  by_cases z : k = g k
  · have h1 : (!decide (k = g k)) = false := by rw [decide_eq_true z]; rfl
    rw [h1, if_neg (by decide), if_pos z.symm]
  · have h1 : (!decide (k = g k)) = true := by rw [decide_eq_false z]; rfl
    rw [h1, if_pos rfl, if_neg fun y => z y.symm]
theorem mv_joint {m l p : Nat} {r : List Cut} (hg : ∀ c ∈ r, CutOk m l c) : mvJ m ((List.range m).map (jF r p)) = df m (lineF r p) (frontF r p) := by
  rw [mv_df, ← df_perm (σ := frontF r p) (PF.front p hg)]
  refine df_congr fun k _ => ?_
  show jF r p (frontF r p k) = frontF r p k ↔ _
  unfold jF
  rw [back_front]
def movedT (m l : Nat) (r : List Cut) : List Nat := (joinT m (doesT m l r)).map (mvJ m)
theorem moved_eq {m l : Nat} {r : List Cut} (hg : ∀ c ∈ r, CutOk m l c) : movedT m l r = (List.range l).map fun p => df m (lineF r p) (frontF r p) := by
  unfold movedT
  rw [joinT_does hg, List.map_map]
  exact map_congr fun p _ => mv_joint hg
theorem moved_rest {m l : Nat} {r : List Cut} (hl : 1 ≤ l) (hg : ∀ c ∈ r, CutOk m l c) : ((movedT m l r).drop 1).sum = turnsR m l r := by
  obtain ⟨i, rfl⟩ : ∃ i, l = i + 1 := ⟨l - 1, by omega⟩
  rw [moved_eq hg, List.range_succ_eq_map, List.map_cons, List.drop_one, List.tail_cons, List.map_map]
  unfold turnsR
  rw [Nat.add_sub_cancel]
  exact sum_congr fun p _ => rfl
theorem moved_first {m l : Nat} {r : List Cut} (hl : 1 ≤ l) (hg : ∀ c ∈ r, CutOk m l c) : (movedT m l r)[0]? = some (df m (lineF r 0) fun k => k) := by
  rw [moved_eq hg, map_range_at' hl]
  rfl
where map_range_at' {α : Type} {f : Nat → α} {l k : Nat} (h : k < l) : ((List.range l).map f)[k]? = some (f k) := by simp [h]
theorem moved_few {m l : Nat} {r : List Cut} (hm : m ≤ 5) (hg : ∀ c ∈ r, CutOk m l c) : fewR m l r ≤ (movedT m l r).sum ∧ (movedT m l r).sum ≤ 2 * fewR m l r := by
  have jo := (joinT_ok (does_eff (m := m) (l := l) hg)).2
  unfold fewR fewT movedT
  generalize joinT m (doesT m l r) = js at *
  induction js with
  | nil => simp
  | cons j js ih =>
    have := mv_few hm (jo j List.mem_cons_self)
    have := ih fun x hx => jo x (List.mem_cons_of_mem _ hx)
    simp only [List.map_cons, List.sum_cons]
    omega
end PR

set_option maxHeartbeats 4000000
namespace K78
open PySem PySem.Spec PyProof.Rows L2 DL
def top (i : Nat) : Stmt := PySem.Challenge.pw_tailswap_k78_whole_pieces_and_joints.main.body.getD i (.Pass ⟨0, 0, 0, 0⟩)
def G0 : List (Str × G) := [("len", .blt), ("isinstance", .blt), ("all", .blt), ("sum", .blt), ("max", .blt), ("min", .blt), ("abs", .blt), ("tuple", .blt), ("int", .blt), ("sorted", .blt), ("list", .blt), ("range", .blt), ("enumerate", .blt), ("zip", .blt), ("bool", .blt), ("NoFrame", .exc), ("NoRow", .exc), ("NoEffect", .exc), ("NoRibbon", .exc), ("MOST_RIBBONS", (.cst (.int 5))), ("MOST_PLACES", (.cst (.int 12)))]
/-! is_whole -/
abbrev s_is_whole : Stmt := top 9
def N_is_whole : List Str := ["thing"]
def p_is_whole : List Str := ["thing"]
def G1 : List (Str × G) := ("is_whole", .fn PR.F_is_whole 1) :: G0
theorem c_is_whole : cB (ctxOf s_is_whole N_is_whole G0 [] 0) 60 (defBody s_is_whole) = some PR.B_is_whole := by kernel_rfl
theorem t_is_whole : scopeB N_is_whole p_is_whole (defScope s_is_whole) = true := by decide +kernel
/-! is_whole_from -/
abbrev s_is_whole_from : Stmt := top 10
def N_is_whole_from : List Str := ["thing", "least", "most"]
def p_is_whole_from : List Str := ["thing", "least", "most"]
def G2 : List (Str × G) := ("is_whole_from", .fn PR.F_is_whole_from 3) :: G1
theorem c_is_whole_from : cB (ctxOf s_is_whole_from N_is_whole_from G1 [] 0) 60 (defBody s_is_whole_from) = some PR.B_is_whole_from := by kernel_rfl
theorem t_is_whole_from : scopeB N_is_whole_from p_is_whole_from (defScope s_is_whole_from) = true := by decide +kernel
/-! is_frame -/
abbrev s_is_frame : Stmt := top 11
def N_is_frame : List Str := ["thing", "many", "long"]
def p_is_frame : List Str := ["thing"]
def G3 : List (Str × G) := ("is_frame", .fn PR.F_is_frame 1) :: G2
theorem c_is_frame : cB (ctxOf s_is_frame N_is_frame G2 [] 0) 60 (defBody s_is_frame) = some PR.B_is_frame := by kernel_rfl
theorem t_is_frame : scopeB N_is_frame p_is_frame (defScope s_is_frame) = true := by decide +kernel
/-! need_frame -/
abbrev s_need_frame : Stmt := top 12
def N_need_frame : List Str := ["frame"]
def p_need_frame : List Str := ["frame"]
def G4 : List (Str × G) := ("need_frame", .fn PR.F_need_frame 1) :: G3
theorem c_need_frame : cB (ctxOf s_need_frame N_need_frame G3 [] 0) 60 (defBody s_need_frame) = some PR.B_need_frame := by kernel_rfl
theorem t_need_frame : scopeB N_need_frame p_need_frame (defScope s_need_frame) = true := by decide +kernel
/-! need_ribbon -/
abbrev s_need_ribbon : Stmt := top 13
def N_need_ribbon : List Str := ["frame", "ribbon"]
def p_need_ribbon : List Str := ["frame", "ribbon"]
def G5 : List (Str × G) := ("need_ribbon", .fn PR.F_need_ribbon 2) :: G4
theorem c_need_ribbon : cB (ctxOf s_need_ribbon N_need_ribbon G4 [] 0) 60 (defBody s_need_ribbon) = some PR.B_need_ribbon := by kernel_rfl
theorem t_need_ribbon : scopeB N_need_ribbon p_need_ribbon (defScope s_need_ribbon) = true := by decide +kernel
/-! is_cut -/
abbrev s_is_cut : Stmt := top 15
def N_is_cut : List Str := ["frame", "thing", "many", "long", "place", "one", "other", "part"]
def p_is_cut : List Str := ["frame", "thing"]
def G6 : List (Str × G) := ("is_cut", .fn PR.F_is_cut 2) :: G5
theorem c_is_cut : cB (ctxOf s_is_cut N_is_cut G5 [] 0) 60 (defBody s_is_cut) = some PR.B_is_cut := by kernel_rfl
theorem t_is_cut : scopeB N_is_cut p_is_cut (defScope s_is_cut) = true := by decide +kernel
/-! is_row -/
abbrev s_is_row : Stmt := top 16
def N_is_row : List Str := ["frame", "thing", "cut"]
def p_is_row : List Str := ["frame", "thing"]
def G7 : List (Str × G) := ("is_row", .fn PR.F_is_row 2) :: G6
theorem c_is_row : cB (ctxOf s_is_row N_is_row G6 [] 0) 60 (defBody s_is_row) = some PR.B_is_row := by kernel_rfl
theorem t_is_row : scopeB N_is_row p_is_row (defScope s_is_row) = true := by decide +kernel
/-! need_row -/
abbrev s_need_row : Stmt := top 17
def N_need_row : List Str := ["frame", "row"]
def p_need_row : List Str := ["frame", "row"]
def G8 : List (Str × G) := ("need_row", .fn PR.F_need_row 2) :: G7
theorem c_need_row : cB (ctxOf s_need_row N_need_row G7 [] 0) 60 (defBody s_need_row) = some PR.B_need_row := by kernel_rfl
theorem t_need_row : scopeB N_need_row p_need_row (defScope s_need_row) = true := by decide +kernel
/-! _line_behind -/
abbrev s__line_behind : Stmt := top 18
def N__line_behind : List Str := ["many", "row", "at", "line", "place", "one", "other"]
def p__line_behind : List Str := ["many", "row", "at"]
def G9 : List (Str × G) := ("_line_behind", .fn PR.F__line_behind 3) :: G8
theorem c__line_behind : cB (ctxOf s__line_behind N__line_behind G8 [("line", 1)] 0) 60 (defBody s__line_behind) = some PR.B__line_behind := by kernel_rfl
theorem t__line_behind : scopeB N__line_behind p__line_behind (defScope s__line_behind) = true := by decide +kernel
/-! does -/
abbrev s_does : Stmt := top 19
def N_does : List Str := ["frame", "row", "many", "long", "at"]
def p_does : List Str := ["frame", "row"]
def G10 : List (Str × G) := ("does", .fn PR.F_does 2) :: G9
theorem c_does : cB (ctxOf s_does N_does G9 [] 0) 60 (defBody s_does) = some PR.B_does := by kernel_rfl
theorem t_does : scopeB N_does p_does (defScope s_does) = true := by decide +kernel
/-! is_line -/
abbrev s_is_line : Stmt := top 20
def N_is_line : List Str := ["many", "thing", "ribbon"]
def p_is_line : List Str := ["many", "thing"]
def G11 : List (Str × G) := ("is_line", .fn PR.F_is_line 2) :: G10
theorem c_is_line : cB (ctxOf s_is_line N_is_line G10 [] 0) 60 (defBody s_is_line) = some PR.B_is_line := by kernel_rfl
theorem t_is_line : scopeB N_is_line p_is_line (defScope s_is_line) = true := by decide +kernel
/-! is_effect -/
abbrev s_is_effect : Stmt := top 21
def N_is_effect : List Str := ["frame", "thing", "many", "long", "line"]
def p_is_effect : List Str := ["frame", "thing"]
def G12 : List (Str × G) := ("is_effect", .fn PR.F_is_effect 2) :: G11
theorem c_is_effect : cB (ctxOf s_is_effect N_is_effect G11 [] 0) 60 (defBody s_is_effect) = some PR.B_is_effect := by kernel_rfl
theorem t_is_effect : scopeB N_is_effect p_is_effect (defScope s_is_effect) = true := by decide +kernel
/-! need_effect -/
abbrev s_need_effect : Stmt := top 22
def N_need_effect : List Str := ["frame", "effect"]
def p_need_effect : List Str := ["frame", "effect"]
def G13 : List (Str × G) := ("need_effect", .fn PR.F_need_effect 2) :: G12
theorem c_need_effect : cB (ctxOf s_need_effect N_need_effect G12 [] 0) 60 (defBody s_need_effect) = some PR.B_need_effect := by kernel_rfl
theorem t_need_effect : scopeB N_need_effect p_need_effect (defScope s_need_effect) = true := by decide +kernel
/-! undoing -/
abbrev s_undoing : Stmt := top 23
def N_undoing : List Str := ["frame", "row"]
def p_undoing : List Str := ["frame", "row"]
def G14 : List (Str × G) := ("undoing", .fn PR.F_undoing 2) :: G13
theorem c_undoing : cB (ctxOf s_undoing N_undoing G13 [] 0) 60 (defBody s_undoing) = some PR.B_undoing := by kernel_rfl
theorem t_undoing : scopeB N_undoing p_undoing (defScope s_undoing) = true := by decide +kernel
/-! pieces -/
abbrev s_pieces : Stmt := top 25
def N_pieces : List Str := ["frame", "effect", "ribbon", "told", "place", "line", "first"]
def p_pieces : List Str := ["frame", "effect", "ribbon"]
def G15 : List (Str × G) := ("pieces", .fn PS.F_pieces 3) :: G14
theorem c_pieces : cB (ctxOf s_pieces N_pieces G14 [("told", 1)] 0) 60 (defBody s_pieces) = some PS.B_pieces := by kernel_rfl
theorem t_pieces : scopeB N_pieces p_pieces (defScope s_pieces) = true := by decide +kernel
/-! how_many_pieces -/
abbrev s_how_many_pieces : Stmt := top 26
def N_how_many_pieces : List Str := ["frame", "effect", "ribbon"]
def p_how_many_pieces : List Str := ["frame", "effect"]
def G16 : List (Str × G) := ("how_many_pieces", .fn PS.F_how_many_pieces 2) :: G15
theorem c_how_many_pieces : cB (ctxOf s_how_many_pieces N_how_many_pieces G15 [] 0) 60 (defBody s_how_many_pieces) = some PS.B_how_many_pieces := by kernel_rfl
theorem t_how_many_pieces : scopeB N_how_many_pieces p_how_many_pieces (defScope s_how_many_pieces) = true := by decide +kernel
/-! _joint -/
abbrev s__joint : Stmt := top 28
def N__joint : List Str := ["ahead", "line", "joint", "one", "other"]
def p__joint : List Str := ["ahead", "line"]
def G17 : List (Str × G) := ("_joint", .fn PR.F__joint 2) :: G16
theorem c__joint : cB (ctxOf s__joint N__joint G16 [("joint", 1)] 0) 60 (defBody s__joint) = some PR.B__joint := by kernel_rfl
theorem t__joint : scopeB N__joint p__joint (defScope s__joint) = true := by decide +kernel
/-! joints -/
abbrev s_joints : Stmt := top 29
def N_joints : List Str := ["frame", "effect", "ahead", "told", "line"]
def p_joints : List Str := ["frame", "effect"]
def G18 : List (Str × G) := ("joints", .fn PR.F_joints 2) :: G17
theorem c_joints : cB (ctxOf s_joints N_joints G17 [("told", 1)] 0) 60 (defBody s_joints) = some PR.B_joints := by kernel_rfl
theorem t_joints : scopeB N_joints p_joints (defScope s_joints) = true := by decide +kernel
/-! round_with -/
abbrev s_round_with : Stmt := top 30
def N_round_with : List Str := ["joint", "ribbon", "told"]
def p_round_with : List Str := ["joint", "ribbon"]
def G19 : List (Str × G) := ("round_with", .fn PR.F_round_with 2) :: G18
theorem c_round_with : cB (ctxOf s_round_with N_round_with G18 [("told", 1)] 0) 60 (defBody s_round_with) = some PR.B_round_with := by kernel_rfl
theorem t_round_with : scopeB N_round_with p_round_with (defScope s_round_with) = true := by decide +kernel
/-! rounds_of -/
abbrev s_rounds_of : Stmt := top 31
def N_rounds_of : List Str := ["joint", "told", "ribbon", "ribbons"]
def p_rounds_of : List Str := ["joint"]
def G20 : List (Str × G) := ("rounds_of", .fn PR.F_rounds_of 1) :: G19
theorem c_rounds_of : cB (ctxOf s_rounds_of N_rounds_of G19 [] 0) 60 (defBody s_rounds_of) = some PR.B_rounds_of := by kernel_rfl
theorem t_rounds_of : scopeB N_rounds_of p_rounds_of (defScope s_rounds_of) = true := by decide +kernel
/-! exchanges_in -/
abbrev s_exchanges_in : Stmt := top 32
def N_exchanges_in : List Str := ["joint"]
def p_exchanges_in : List Str := ["joint"]
def G21 : List (Str × G) := ("exchanges_in", .fn PR.F_exchanges_in 1) :: G20
theorem c_exchanges_in : cB (ctxOf s_exchanges_in N_exchanges_in G20 [] 0) 60 (defBody s_exchanges_in) = some PR.B_exchanges_in := by kernel_rfl
theorem t_exchanges_in : scopeB N_exchanges_in p_exchanges_in (defScope s_exchanges_in) = true := by decide +kernel
/-! fewest -/
abbrev s_fewest : Stmt := top 33
def N_fewest : List Str := ["frame", "effect", "joint"]
def p_fewest : List Str := ["frame", "effect"]
def G22 : List (Str × G) := ("fewest", .fn PR.F_fewest 2) :: G21
theorem c_fewest : cB (ctxOf s_fewest N_fewest G21 [] 0) 60 (defBody s_fewest) = some PR.B_fewest := by kernel_rfl
theorem t_fewest : scopeB N_fewest p_fewest (defScope s_fewest) = true := by decide +kernel
/-! _law_cell_at -/
abbrev s__law_cell_at : Stmt := top 35
def N__law_cell_at : List Str := ["_law_script", "_law_k"]
def p__law_cell_at : List Str := ["_law_script", "_law_k"]
def G23 : List (Str × G) := ("_law_cell_at", .fn LW.F__law_cell_at 2) :: G22
theorem c__law_cell_at : cB (ctxOf s__law_cell_at N__law_cell_at G22 [] 0) 60 (defBody s__law_cell_at) = some LW.B__law_cell_at := by kernel_rfl
theorem t__law_cell_at : scopeB N__law_cell_at p__law_cell_at (defScope s__law_cell_at) = true := by decide +kernel
/-! _law_pen -/
abbrev s__law_pen : Stmt := top 36
def N__law_pen : List Str := ["_law_cell"]
def p__law_pen : List Str := ["_law_cell"]
def G24 : List (Str × G) := ("_law_pen", .fn LX.F__law_pen 1) :: G23
theorem c__law_pen : cB (ctxOf s__law_pen N__law_pen G23 [] 1) 60 (defBody s__law_pen) = some LX.B__law_pen := by kernel_rfl
theorem t__law_pen : scopeB N__law_pen p__law_pen (defScope s__law_pen) = true := by decide +kernel
/-! _law_draw -/
abbrev s__law_draw : Stmt := top 37
def N__law_draw : List Str := ["_law_pen_here", "_law_many", "_law_digit", "_law_stir"]
def p__law_draw : List Str := ["_law_pen_here", "_law_many"]
def G25 : List (Str × G) := ("_law_draw", .fn LX.F__law_draw 2) :: G24
theorem c__law_draw : cB (ctxOf s__law_draw N__law_draw G24 [] 0) 60 (defBody s__law_draw) = some LX.B__law_draw := by kernel_rfl
theorem t__law_draw : scopeB N__law_draw p__law_draw (defScope s__law_draw) = true := by decide +kernel
/-! _law_pick -/
abbrev s__law_pick : Stmt := top 38
def N__law_pick : List Str := ["_law_pen_here", "_law_some"]
def p__law_pick : List Str := ["_law_pen_here", "_law_some"]
def G26 : List (Str × G) := ("_law_pick", .fn LX.F__law_pick 2) :: G25
theorem c__law_pick : cB (ctxOf s__law_pick N__law_pick G25 [] 0) 60 (defBody s__law_pick) = some LX.B__law_pick := by kernel_rfl
theorem t__law_pick : scopeB N__law_pick p__law_pick (defScope s__law_pick) = true := by decide +kernel
/-! _law_frame -/
abbrev s__law_frame : Stmt := top 39
def N__law_frame : List Str := ["_law_pen_here"]
def p__law_frame : List Str := ["_law_pen_here"]
def B__law_frame : SemS := (sRet (eApp mkTup (lCons (eBin (opAdd false) (eC (.int 1)) (eApp LX.F__law_draw (lCons (eVar 0) (lCons (eC (.int 5)) lNil)))) (lCons (eBin opIx (eApp (mkLst false) (lCons (eBin (opAdd false) (eC (.int 1)) (eApp LX.F__law_draw (lCons (eVar 0) (lCons (eC (.int 6)) lNil)))) (lCons (eBin (opAdd false) (eC (.int 1)) (eApp LX.F__law_draw (lCons (eVar 0) (lCons (eC (.int 12)) lNil)))) lNil))) (eApp LX.F__law_draw (lCons (eVar 0) (lCons (eC (.int 2)) lNil)))) lNil))))
def F__law_frame : DFun := runF true 1 1 B__law_frame
def G27 : List (Str × G) := ("_law_frame", .fn F__law_frame 1) :: G26
theorem c__law_frame : cB (ctxOf s__law_frame N__law_frame G26 [] 0) 60 (defBody s__law_frame) = some B__law_frame := by kernel_rfl
theorem t__law_frame : scopeB N__law_frame p__law_frame (defScope s__law_frame) = true := by decide +kernel
/-! _law_cuts -/
abbrev s__law_cuts : Stmt := top 40
def N__law_cuts : List Str := ["_law_many", "_law_long", "_law_found", "_law_place", "_law_low", "_law_high"]
def p__law_cuts : List Str := ["_law_many", "_law_long"]
def B__law_cuts : SemS := (sSeq (sAsg (eApp (mkLst false) lNil) (gVar 2)) (sSeq (sFor (iRng (lCons (eVar 1) lNil)) (gVar 3) (sFor (iRng (lCons (eVar 0) lNil)) (gVar 4) (sAsg (eBin (opAdd false) (eVar 2) (eLc false false [5] (iRng (lCons (eBin (opAdd false) (eVar 4) (eC (.int 1))) (lCons (eVar 0) lNil))) (gVar 5) (fun _ _ M => .ok true M) (eApp mkTup (lCons (eVar 3) (lCons (eVar 4) (lCons (eVar 5) lNil)))))) (gVar 2)))) (sRet (eVar 2))))
def F__law_cuts : DFun := runF true 6 2 B__law_cuts
def G28 : List (Str × G) := ("_law_cuts", .fn F__law_cuts 2) :: G27
theorem c__law_cuts : cB (ctxOf s__law_cuts N__law_cuts G27 [] 0) 60 (defBody s__law_cuts) = some B__law_cuts := by kernel_rfl
theorem t__law_cuts : scopeB N__law_cuts p__law_cuts (defScope s__law_cuts) = true := by decide +kernel
/-! _law_row -/
abbrev s__law_row : Stmt := top 41
def N__law_row : List Str := ["_law_pen_here", "_law_many", "_law_long", "_law_most", "_law_some", "_law_turn"]
def p__law_row : List Str := ["_law_pen_here", "_law_many", "_law_long", "_law_most"]
def B__law_row : SemS := (sSeq (sAsg (eApp F__law_cuts (lCons (eVar 1) (lCons (eVar 2) lNil))) (gVar 4)) (sRet (eApp pTuple.op (lCons (eLc false false [5] (iRng (lCons (eIf (tOf (eBin opNe (eVar 4) (eApp (mkLst false) lNil))) (eApp LX.F__law_draw (lCons (eVar 0) (lCons (eBin (opAdd false) (eVar 3) (eC (.int 1))) lNil))) (eC (.int 0))) lNil)) (gVar 5) (fun _ _ M => .ok true M) (eApp LX.F__law_pick (lCons (eVar 0) (lCons (eVar 4) lNil)))) lNil))))
def F__law_row : DFun := runF true 6 4 B__law_row
def G29 : List (Str × G) := ("_law_row", .fn F__law_row 4) :: G28
theorem c__law_row : cB (ctxOf s__law_row N__law_row G28 [] 0) 60 (defBody s__law_row) = some B__law_row := by kernel_rfl
theorem t__law_row : scopeB N__law_row p__law_row (defScope s__law_row) = true := by decide +kernel
/-! _law_side_by_side -/
abbrev s__law_side_by_side : Stmt := top 42
def N__law_side_by_side : List Str := ["_law_effect", "_law_ribbon", "_law_runs", "_law_at", "_law_own", "_law_first", "_law_last", "_law_place", "_law_one", "_law_later"]
def p__law_side_by_side : List Str := ["_law_effect", "_law_ribbon", "_law_runs"]
def B__law_side_by_side : SemS := (sSeq (sAsg (eC (.int 0)) (gVar 3)) (sSeq (sFor (iSeq (eVar 2)) (gLen 3 (gCons (gVar 4) (gCons (gVar 5) (gCons (gVar 6) gNil)))) (sSeq (sIf (tOr (tOf (eBin opNe (eVar 5) (eVar 3))) (tOf (eBin opLt (eVar 6) (eVar 5)))) (sRet (eC (.bl false))) sNil) (sSeq (sIf (tOf (eBin opNe (eLc false false [7] (iRng (lCons (eVar 5) (lCons (eBin (opAdd false) (eVar 6) (eC (.int 1))) lNil))) (gVar 7) (tOf (eBin opNe (eBin opIx (eBin opIx (eVar 0) (eVar 7)) (eVar 1)) (eVar 4))) (eC (.int 1))) (eApp (mkLst false) lNil))) (sRet (eC (.bl false))) sNil) (sAsg (eBin (opAdd false) (eVar 6) (eC (.int 1))) (gVar 3))))) (sRet (eAnd (eBin opEq (eVar 3) (eApp pLen.op (lCons (eVar 0) lNil))) (eBin opEq (eLc false false [8, 9] (iZp (lCons (eVar 2) (lCons (eSl (opSl false) (eVar 2) (oSome (eC (.int 1))) oNone) lNil))) (gLen 2 (gCons (gVar 8) (gCons (gVar 9) gNil))) (tOf (eBin opEq (eBin opIx (eVar 8) (eC (.int 0))) (eBin opIx (eVar 9) (eC (.int 0))))) (eC (.int 1))) (eApp (mkLst false) lNil))))))
def F__law_side_by_side : DFun := runF true 10 3 B__law_side_by_side
def G30 : List (Str × G) := ("_law_side_by_side", .fn F__law_side_by_side 3) :: G29
theorem c__law_side_by_side : cB (ctxOf s__law_side_by_side N__law_side_by_side G29 [] 0) 60 (defBody s__law_side_by_side) = some B__law_side_by_side := by kernel_rfl
theorem t__law_side_by_side : scopeB N__law_side_by_side p__law_side_by_side (defScope s__law_side_by_side) = true := by decide +kernel
/-! _law_right -/
abbrev s__law_right : Stmt := top 43
def N__law_right : List Str := ["_law_frame_here", "_law_effect", "_law_many", "_law_moved", "_law_lots", "_law_joint", "_law_whole", "_law_most", "_law_least", "_law_ribbon", "_law_runs", "_law_later"]
def p__law_right : List Str := ["_law_frame_here", "_law_effect"]
def B__law_right : SemS := (sSeq (sPar 2 3 (lCons (eBin opIx (eVar 0) (eC (.int 0))) (lCons (eApp (mkLst true) lNil) lNil))) (sSeq (sAsg (eLc false false [9] (iRng (lCons (eVar 2) lNil)) (gVar 9) (fun _ _ M => .ok true M) (eApp PS.F_pieces (lCons (eVar 0) (lCons (eVar 1) (lCons (eVar 9) lNil))))) (gVar 4)) (sSeq (sIf (tNot (tOf (eApp pAll.op (lCons (eLc false false [9, 10] (iEnu (lCons (eVar 4) lNil)) (gLen 2 (gCons (gVar 9) (gCons (gVar 10) gNil))) (fun _ _ M => .ok true M) (eApp F__law_side_by_side (lCons (eVar 1) (lCons (eVar 9) (lCons (eVar 10) lNil))))) lNil)))) (sRet (eC (.bl false))) sNil) (sSeq (sFor (iSeq (eApp PR.F_joints (lCons (eVar 0) (lCons (eVar 1) lNil)))) (gVar 5) (sDrop (eMt isLst mApp (eVar 3) (lCons (eApp pLen.op (lCons (eLc false false [9, 11] (iEnu (lCons (eVar 5) lNil)) (gLen 2 (gCons (gVar 9) (gCons (gVar 11) gNil))) (tOf (eBin opNe (eVar 9) (eVar 11))) (eC (.int 1))) lNil)) lNil)))) (sSeq (sAsg (eApp pSum.op (lCons (eLc false false [10] (iSeq (eVar 4)) (gVar 10) (fun _ _ M => .ok true M) (eApp pLen.op (lCons (eVar 10) lNil))) lNil)) (gVar 6)) (sSeq (sIf (tOr (tOf (eBin opNe (eApp PS.F_how_many_pieces (lCons (eVar 0) (lCons (eVar 1) lNil))) (eVar 6))) (tOf (eBin opNe (eVar 6) (eBin (opAdd false) (eVar 2) (eApp pSum.op (lCons (eSl (opSl false) (eVar 3) (oSome (eC (.int 1))) oNone) lNil)))))) (sRet (eC (.bl false))) sNil) (sSeq (sPar 7 8 (lCons (eApp pSum.op (lCons (eVar 3) lNil)) (lCons (eApp PR.F_fewest (lCons (eVar 0) (lCons (eVar 1) lNil))) lNil))) (sSeq (sIf (tOf (eBin opNe (eMt isLst mCnt (eLc false false [9, 10] (iEnu (lCons (eVar 4) lNil)) (gLen 2 (gCons (gVar 9) (gCons (gVar 10) gNil))) (fun _ _ M => .ok true M) (eBin opEq (eBin opIx (eBin opIx (eVar 10) (eC (.int 0))) (eC (.int 0))) (eVar 9))) (lCons (eC (.bl false)) lNil)) (eBin opIx (eVar 3) (eC (.int 0))))) (sRet (eC (.bl false))) sNil) (sRet (eChain .le .le (eVar 8) (eVar 7) (eBin (opMul false) (eC (.int 2)) (eVar 8))))))))))))
def F__law_right : DFun := runF true 12 2 B__law_right
def G31 : List (Str × G) := ("_law_right", .fn F__law_right 2) :: G30
theorem c__law_right : cB (ctxOf s__law_right N__law_right G30 [("_law_moved", 1)] 0) 60 (defBody s__law_right) = some B__law_right := by kernel_rfl
theorem t__law_right : scopeB N__law_right p__law_right (defScope s__law_right) = true := by decide +kernel
/-! law -/
abbrev s_law : Stmt := top 44
def N_law : List Str := ["_law_script", "_law_k", "_law_pen_here", "_law_turn", "_law_frame_here", "_law_many", "_law_long", "_law_row_here", "_law_effect", "_law_cut", "_law_more"]
def p_law : List Str := ["_law_script"]
def B_law : SemS := (sSeq (sFor (iRng (lCons (eApp pMax.op (lCons (eC (.int 1)) (lCons (eApp pMinA.op (lCons (eApp pLen.op (lCons (eVar 0) lNil)) (lCons (eC (.int 4)) lNil))) lNil))) lNil)) (gVar 1) (sSeq (sAsg (eApp LX.F__law_pen (lCons (eApp LW.F__law_cell_at (lCons (eVar 0) (lCons (eVar 1) lNil))) lNil)) (gVar 2)) (sFor (iRng (lCons (eC (.int 2)) lNil)) (gVar 3) (sSeq (sAsg (eApp F__law_frame (lCons (eVar 2) lNil)) (gVar 4)) (sSeq (sAsg (eVar 4) (gLen 2 (gCons (gVar 5) (gCons (gVar 6) gNil)))) (sSeq (sAsg (eApp F__law_row (lCons (eVar 2) (lCons (eVar 5) (lCons (eVar 6) (lCons (eC (.int 20)) lNil))))) (gVar 7)) (sSeq (sAsg (eApp PR.F_does (lCons (eVar 4) (lCons (eVar 7) lNil))) (gVar 8)) (sSeq (sIf (tOr (tNot (tOf (eApp F__law_right (lCons (eVar 4) (lCons (eVar 8) lNil))))) (tOf (eBin opNe (eApp PS.F_how_many_pieces (lCons (eVar 4) (lCons (eApp PR.F_does (lCons (eVar 4) (lCons (eApp mkTup lNil) lNil))) lNil))) (eVar 5)))) (sRet (eC (.bl false))) sNil) (sSeq (sIf (tOf (eBin opNe (eApp PS.F_how_many_pieces (lCons (eVar 4) (lCons (eApp PR.F_does (lCons (eVar 4) (lCons (eApp PR.F_undoing (lCons (eVar 4) (lCons (eVar 7) lNil))) lNil))) lNil))) (eApp PS.F_how_many_pieces (lCons (eVar 4) (lCons (eVar 8) lNil))))) (sRet (eC (.bl false))) sNil) (sFor (iSeq (eApp F__law_row (lCons (eVar 2) (lCons (eVar 5) (lCons (eVar 6) (lCons (eC (.int 3)) lNil)))))) (gVar 9) (sSeq (sAsg (eApp PR.F_does (lCons (eVar 4) (lCons (eBin (opAdd false) (eVar 7) (eApp mkTup (lCons (eVar 9) lNil))) lNil))) (gVar 10)) (sSeq (sIf (tNot (tOf (eApp F__law_right (lCons (eVar 4) (lCons (eVar 10) lNil))))) (sRet (eC (.bl false))) sNil) (sIf (tOf (eBin opNotIn (eApp pAbs.op (lCons (eBin opSub (eApp PS.F_how_many_pieces (lCons (eVar 4) (lCons (eVar 10) lNil))) (eApp PS.F_how_many_pieces (lCons (eVar 4) (lCons (eVar 8) lNil)))) lNil)) (eApp mkTup (lCons (eC (.int 0)) (lCons (eC (.int 1)) (lCons (eC (.int 2)) lNil)))))) (sRet (eC (.bl false))) sNil))))))))))))) (sRet (eC (.bl true))))
def F_law : DFun := runF true 11 1 B_law
def G32 : List (Str × G) := ("law", .fn F_law 1) :: G31
theorem c_law : cB (ctxOf s_law N_law G31 [] 0) 60 (defBody s_law) = some B_law := by kernel_rfl
theorem t_law : scopeB N_law p_law (defScope s_law) = true := by decide +kernel
theorem h_is_whole (kV dc pm : Value) (an : Option Addr) (cdv ct : Value) (us : List Value) (hl : us.length = (p_is_whole).length) : bindArgs (PySem.W.fnOf "is_whole" "is_whole" (defArgs s_is_whole) (defBody s_is_whole) (defScope s_is_whole) .none kV dc pm an cdv ct) ⟨us, []⟩ = pure ((p_is_whole).zip us) :=
  match us, (show us.length = 1 from hl) with | [_], _ => rfl
theorem h_is_whole_from (kV dc pm : Value) (an : Option Addr) (cdv ct : Value) (us : List Value) (hl : us.length = (p_is_whole_from).length) : bindArgs (PySem.W.fnOf "is_whole_from" "is_whole_from" (defArgs s_is_whole_from) (defBody s_is_whole_from) (defScope s_is_whole_from) .none kV dc pm an cdv ct) ⟨us, []⟩ = pure ((p_is_whole_from).zip us) :=
  match us, (show us.length = 3 from hl) with | [_, _, _], _ => rfl
theorem h_is_frame (kV dc pm : Value) (an : Option Addr) (cdv ct : Value) (us : List Value) (hl : us.length = (p_is_frame).length) : bindArgs (PySem.W.fnOf "is_frame" "is_frame" (defArgs s_is_frame) (defBody s_is_frame) (defScope s_is_frame) .none kV dc pm an cdv ct) ⟨us, []⟩ = pure ((p_is_frame).zip us) :=
  match us, (show us.length = 1 from hl) with | [_], _ => rfl
theorem h_need_frame (kV dc pm : Value) (an : Option Addr) (cdv ct : Value) (us : List Value) (hl : us.length = (p_need_frame).length) : bindArgs (PySem.W.fnOf "need_frame" "need_frame" (defArgs s_need_frame) (defBody s_need_frame) (defScope s_need_frame) .none kV dc pm an cdv ct) ⟨us, []⟩ = pure ((p_need_frame).zip us) :=
  match us, (show us.length = 1 from hl) with | [_], _ => rfl
theorem h_need_ribbon (kV dc pm : Value) (an : Option Addr) (cdv ct : Value) (us : List Value) (hl : us.length = (p_need_ribbon).length) : bindArgs (PySem.W.fnOf "need_ribbon" "need_ribbon" (defArgs s_need_ribbon) (defBody s_need_ribbon) (defScope s_need_ribbon) .none kV dc pm an cdv ct) ⟨us, []⟩ = pure ((p_need_ribbon).zip us) :=
  match us, (show us.length = 2 from hl) with | [_, _], _ => rfl
theorem h_is_cut (kV dc pm : Value) (an : Option Addr) (cdv ct : Value) (us : List Value) (hl : us.length = (p_is_cut).length) : bindArgs (PySem.W.fnOf "is_cut" "is_cut" (defArgs s_is_cut) (defBody s_is_cut) (defScope s_is_cut) .none kV dc pm an cdv ct) ⟨us, []⟩ = pure ((p_is_cut).zip us) :=
  match us, (show us.length = 2 from hl) with | [_, _], _ => rfl
theorem h_is_row (kV dc pm : Value) (an : Option Addr) (cdv ct : Value) (us : List Value) (hl : us.length = (p_is_row).length) : bindArgs (PySem.W.fnOf "is_row" "is_row" (defArgs s_is_row) (defBody s_is_row) (defScope s_is_row) .none kV dc pm an cdv ct) ⟨us, []⟩ = pure ((p_is_row).zip us) :=
  match us, (show us.length = 2 from hl) with | [_, _], _ => rfl
theorem h_need_row (kV dc pm : Value) (an : Option Addr) (cdv ct : Value) (us : List Value) (hl : us.length = (p_need_row).length) : bindArgs (PySem.W.fnOf "need_row" "need_row" (defArgs s_need_row) (defBody s_need_row) (defScope s_need_row) .none kV dc pm an cdv ct) ⟨us, []⟩ = pure ((p_need_row).zip us) :=
  match us, (show us.length = 2 from hl) with | [_, _], _ => rfl
theorem h__line_behind (kV dc pm : Value) (an : Option Addr) (cdv ct : Value) (us : List Value) (hl : us.length = (p__line_behind).length) : bindArgs (PySem.W.fnOf "_line_behind" "_line_behind" (defArgs s__line_behind) (defBody s__line_behind) (defScope s__line_behind) .none kV dc pm an cdv ct) ⟨us, []⟩ = pure ((p__line_behind).zip us) :=
  match us, (show us.length = 3 from hl) with | [_, _, _], _ => rfl
theorem h_does (kV dc pm : Value) (an : Option Addr) (cdv ct : Value) (us : List Value) (hl : us.length = (p_does).length) : bindArgs (PySem.W.fnOf "does" "does" (defArgs s_does) (defBody s_does) (defScope s_does) .none kV dc pm an cdv ct) ⟨us, []⟩ = pure ((p_does).zip us) :=
  match us, (show us.length = 2 from hl) with | [_, _], _ => rfl
theorem h_is_line (kV dc pm : Value) (an : Option Addr) (cdv ct : Value) (us : List Value) (hl : us.length = (p_is_line).length) : bindArgs (PySem.W.fnOf "is_line" "is_line" (defArgs s_is_line) (defBody s_is_line) (defScope s_is_line) .none kV dc pm an cdv ct) ⟨us, []⟩ = pure ((p_is_line).zip us) :=
  match us, (show us.length = 2 from hl) with | [_, _], _ => rfl
theorem h_is_effect (kV dc pm : Value) (an : Option Addr) (cdv ct : Value) (us : List Value) (hl : us.length = (p_is_effect).length) : bindArgs (PySem.W.fnOf "is_effect" "is_effect" (defArgs s_is_effect) (defBody s_is_effect) (defScope s_is_effect) .none kV dc pm an cdv ct) ⟨us, []⟩ = pure ((p_is_effect).zip us) :=
  match us, (show us.length = 2 from hl) with | [_, _], _ => rfl
theorem h_need_effect (kV dc pm : Value) (an : Option Addr) (cdv ct : Value) (us : List Value) (hl : us.length = (p_need_effect).length) : bindArgs (PySem.W.fnOf "need_effect" "need_effect" (defArgs s_need_effect) (defBody s_need_effect) (defScope s_need_effect) .none kV dc pm an cdv ct) ⟨us, []⟩ = pure ((p_need_effect).zip us) :=
  match us, (show us.length = 2 from hl) with | [_, _], _ => rfl
theorem h_undoing (kV dc pm : Value) (an : Option Addr) (cdv ct : Value) (us : List Value) (hl : us.length = (p_undoing).length) : bindArgs (PySem.W.fnOf "undoing" "undoing" (defArgs s_undoing) (defBody s_undoing) (defScope s_undoing) .none kV dc pm an cdv ct) ⟨us, []⟩ = pure ((p_undoing).zip us) :=
  match us, (show us.length = 2 from hl) with | [_, _], _ => rfl
theorem h_pieces (kV dc pm : Value) (an : Option Addr) (cdv ct : Value) (us : List Value) (hl : us.length = (p_pieces).length) : bindArgs (PySem.W.fnOf "pieces" "pieces" (defArgs s_pieces) (defBody s_pieces) (defScope s_pieces) .none kV dc pm an cdv ct) ⟨us, []⟩ = pure ((p_pieces).zip us) :=
  match us, (show us.length = 3 from hl) with | [_, _, _], _ => rfl
theorem h_how_many_pieces (kV dc pm : Value) (an : Option Addr) (cdv ct : Value) (us : List Value) (hl : us.length = (p_how_many_pieces).length) : bindArgs (PySem.W.fnOf "how_many_pieces" "how_many_pieces" (defArgs s_how_many_pieces) (defBody s_how_many_pieces) (defScope s_how_many_pieces) .none kV dc pm an cdv ct) ⟨us, []⟩ = pure ((p_how_many_pieces).zip us) :=
  match us, (show us.length = 2 from hl) with | [_, _], _ => rfl
theorem h__joint (kV dc pm : Value) (an : Option Addr) (cdv ct : Value) (us : List Value) (hl : us.length = (p__joint).length) : bindArgs (PySem.W.fnOf "_joint" "_joint" (defArgs s__joint) (defBody s__joint) (defScope s__joint) .none kV dc pm an cdv ct) ⟨us, []⟩ = pure ((p__joint).zip us) :=
  match us, (show us.length = 2 from hl) with | [_, _], _ => rfl
theorem h_joints (kV dc pm : Value) (an : Option Addr) (cdv ct : Value) (us : List Value) (hl : us.length = (p_joints).length) : bindArgs (PySem.W.fnOf "joints" "joints" (defArgs s_joints) (defBody s_joints) (defScope s_joints) .none kV dc pm an cdv ct) ⟨us, []⟩ = pure ((p_joints).zip us) :=
  match us, (show us.length = 2 from hl) with | [_, _], _ => rfl
theorem h_round_with (kV dc pm : Value) (an : Option Addr) (cdv ct : Value) (us : List Value) (hl : us.length = (p_round_with).length) : bindArgs (PySem.W.fnOf "round_with" "round_with" (defArgs s_round_with) (defBody s_round_with) (defScope s_round_with) .none kV dc pm an cdv ct) ⟨us, []⟩ = pure ((p_round_with).zip us) :=
  match us, (show us.length = 2 from hl) with | [_, _], _ => rfl
theorem h_rounds_of (kV dc pm : Value) (an : Option Addr) (cdv ct : Value) (us : List Value) (hl : us.length = (p_rounds_of).length) : bindArgs (PySem.W.fnOf "rounds_of" "rounds_of" (defArgs s_rounds_of) (defBody s_rounds_of) (defScope s_rounds_of) .none kV dc pm an cdv ct) ⟨us, []⟩ = pure ((p_rounds_of).zip us) :=
  match us, (show us.length = 1 from hl) with | [_], _ => rfl
theorem h_exchanges_in (kV dc pm : Value) (an : Option Addr) (cdv ct : Value) (us : List Value) (hl : us.length = (p_exchanges_in).length) : bindArgs (PySem.W.fnOf "exchanges_in" "exchanges_in" (defArgs s_exchanges_in) (defBody s_exchanges_in) (defScope s_exchanges_in) .none kV dc pm an cdv ct) ⟨us, []⟩ = pure ((p_exchanges_in).zip us) :=
  match us, (show us.length = 1 from hl) with | [_], _ => rfl
theorem h_fewest (kV dc pm : Value) (an : Option Addr) (cdv ct : Value) (us : List Value) (hl : us.length = (p_fewest).length) : bindArgs (PySem.W.fnOf "fewest" "fewest" (defArgs s_fewest) (defBody s_fewest) (defScope s_fewest) .none kV dc pm an cdv ct) ⟨us, []⟩ = pure ((p_fewest).zip us) :=
  match us, (show us.length = 2 from hl) with | [_, _], _ => rfl
theorem h__law_cell_at (kV dc pm : Value) (an : Option Addr) (cdv ct : Value) (us : List Value) (hl : us.length = (p__law_cell_at).length) : bindArgs (PySem.W.fnOf "_law_cell_at" "_law_cell_at" (defArgs s__law_cell_at) (defBody s__law_cell_at) (defScope s__law_cell_at) .none kV dc pm an cdv ct) ⟨us, []⟩ = pure ((p__law_cell_at).zip us) :=
  match us, (show us.length = 2 from hl) with | [_, _], _ => rfl
theorem h__law_pen (kV dc pm : Value) (an : Option Addr) (cdv ct : Value) (us : List Value) (hl : us.length = (p__law_pen).length) : bindArgs (PySem.W.fnOf "_law_pen" "_law_pen" (defArgs s__law_pen) (defBody s__law_pen) (defScope s__law_pen) .none kV dc pm an cdv ct) ⟨us, []⟩ = pure ((p__law_pen).zip us) :=
  match us, (show us.length = 1 from hl) with | [_], _ => rfl
theorem h__law_draw (kV dc pm : Value) (an : Option Addr) (cdv ct : Value) (us : List Value) (hl : us.length = (p__law_draw).length) : bindArgs (PySem.W.fnOf "_law_draw" "_law_draw" (defArgs s__law_draw) (defBody s__law_draw) (defScope s__law_draw) .none kV dc pm an cdv ct) ⟨us, []⟩ = pure ((p__law_draw).zip us) :=
  match us, (show us.length = 2 from hl) with | [_, _], _ => rfl
theorem h__law_pick (kV dc pm : Value) (an : Option Addr) (cdv ct : Value) (us : List Value) (hl : us.length = (p__law_pick).length) : bindArgs (PySem.W.fnOf "_law_pick" "_law_pick" (defArgs s__law_pick) (defBody s__law_pick) (defScope s__law_pick) .none kV dc pm an cdv ct) ⟨us, []⟩ = pure ((p__law_pick).zip us) :=
  match us, (show us.length = 2 from hl) with | [_, _], _ => rfl
theorem h__law_frame (kV dc pm : Value) (an : Option Addr) (cdv ct : Value) (us : List Value) (hl : us.length = (p__law_frame).length) : bindArgs (PySem.W.fnOf "_law_frame" "_law_frame" (defArgs s__law_frame) (defBody s__law_frame) (defScope s__law_frame) .none kV dc pm an cdv ct) ⟨us, []⟩ = pure ((p__law_frame).zip us) :=
  match us, (show us.length = 1 from hl) with | [_], _ => rfl
theorem h__law_cuts (kV dc pm : Value) (an : Option Addr) (cdv ct : Value) (us : List Value) (hl : us.length = (p__law_cuts).length) : bindArgs (PySem.W.fnOf "_law_cuts" "_law_cuts" (defArgs s__law_cuts) (defBody s__law_cuts) (defScope s__law_cuts) .none kV dc pm an cdv ct) ⟨us, []⟩ = pure ((p__law_cuts).zip us) :=
  match us, (show us.length = 2 from hl) with | [_, _], _ => rfl
theorem h__law_row (kV dc pm : Value) (an : Option Addr) (cdv ct : Value) (us : List Value) (hl : us.length = (p__law_row).length) : bindArgs (PySem.W.fnOf "_law_row" "_law_row" (defArgs s__law_row) (defBody s__law_row) (defScope s__law_row) .none kV dc pm an cdv ct) ⟨us, []⟩ = pure ((p__law_row).zip us) :=
  match us, (show us.length = 4 from hl) with | [_, _, _, _], _ => rfl
theorem h__law_side_by_side (kV dc pm : Value) (an : Option Addr) (cdv ct : Value) (us : List Value) (hl : us.length = (p__law_side_by_side).length) : bindArgs (PySem.W.fnOf "_law_side_by_side" "_law_side_by_side" (defArgs s__law_side_by_side) (defBody s__law_side_by_side) (defScope s__law_side_by_side) .none kV dc pm an cdv ct) ⟨us, []⟩ = pure ((p__law_side_by_side).zip us) :=
  match us, (show us.length = 3 from hl) with | [_, _, _], _ => rfl
theorem h__law_right (kV dc pm : Value) (an : Option Addr) (cdv ct : Value) (us : List Value) (hl : us.length = (p__law_right).length) : bindArgs (PySem.W.fnOf "_law_right" "_law_right" (defArgs s__law_right) (defBody s__law_right) (defScope s__law_right) .none kV dc pm an cdv ct) ⟨us, []⟩ = pure ((p__law_right).zip us) :=
  match us, (show us.length = 2 from hl) with | [_, _], _ => rfl
theorem h_law (kV dc pm : Value) (an : Option Addr) (cdv ct : Value) (us : List Value) (hl : us.length = (p_law).length) : bindArgs (PySem.W.fnOf "law" "law" (defArgs s_law) (defBody s_law) (defScope s_law) .none kV dc pm an cdv ct) ⟨us, []⟩ = pure ((p_law).zip us) :=
  match us, (show us.length = 1 from hl) with | [_], _ => rfl
theorem core {P : Program} {w : World} {K : PySem.W.Frag} {h : Heap} {mg : Str → Option Value} {fa : Addr} (X : K.In h) (Gh : h.Ns mainGlobals mg) (hfa : mg "law" = some (.ref fa))
    {q0 q1 q2 q3 : Addr}
    {t0 t1 : Tok}
    (A0 : FnAt K mg "is_whole" s_is_whole p_is_whole)
    (A1 : FnAt K mg "is_whole_from" s_is_whole_from p_is_whole_from)
    (A2 : FnAt K mg "is_frame" s_is_frame p_is_frame)
    (A3 : FnAt K mg "need_frame" s_need_frame p_need_frame)
    (A4 : FnAt K mg "need_ribbon" s_need_ribbon p_need_ribbon)
    (A5 : FnAt K mg "is_cut" s_is_cut p_is_cut)
    (A6 : FnAt K mg "is_row" s_is_row p_is_row)
    (A7 : FnAt K mg "need_row" s_need_row p_need_row)
    (A8 : FnAt K mg "_line_behind" s__line_behind p__line_behind)
    (A9 : FnAt K mg "does" s_does p_does)
    (A10 : FnAt K mg "is_line" s_is_line p_is_line)
    (A11 : FnAt K mg "is_effect" s_is_effect p_is_effect)
    (A12 : FnAt K mg "need_effect" s_need_effect p_need_effect)
    (A13 : FnAt K mg "undoing" s_undoing p_undoing)
    (A14 : FnAt K mg "pieces" s_pieces p_pieces)
    (A15 : FnAt K mg "how_many_pieces" s_how_many_pieces p_how_many_pieces)
    (A16 : FnAt K mg "_joint" s__joint p__joint)
    (A17 : FnAt K mg "joints" s_joints p_joints)
    (A18 : FnAt K mg "round_with" s_round_with p_round_with)
    (A19 : FnAt K mg "rounds_of" s_rounds_of p_rounds_of)
    (A20 : FnAt K mg "exchanges_in" s_exchanges_in p_exchanges_in)
    (A21 : FnAt K mg "fewest" s_fewest p_fewest)
    (A22 : FnAt K mg "_law_cell_at" s__law_cell_at p__law_cell_at)
    (A23 : FnAt K mg "_law_pen" s__law_pen p__law_pen)
    (A24 : FnAt K mg "_law_draw" s__law_draw p__law_draw)
    (A25 : FnAt K mg "_law_pick" s__law_pick p__law_pick)
    (A26 : FnAt K mg "_law_frame" s__law_frame p__law_frame)
    (A27 : FnAt K mg "_law_cuts" s__law_cuts p__law_cuts)
    (A28 : FnAt K mg "_law_row" s__law_row p__law_row)
    (A29 : FnAt K mg "_law_side_by_side" s__law_side_by_side p__law_side_by_side)
    (A30 : FnAt K mg "_law_right" s__law_right p__law_right)
    (A31 : FnAt K mg "law" s_law p_law)
    (xa0 : PySem.W.nsIn K mainGlobals "NoFrame" = some (some (.ref q0))) (xb0 : PySem.W.excIn K q0 [.type "ValueError", .type "Exception", .type "BaseException", .type "object"] "ValueError.__new__" = true) (xc0 : PySem.W.keepIn K (.ref q0) = true) (xd0 : PySem.W.subIn K (.ref q0) (.type "BaseException") = some true) (xe0 : PySem.W.typeIn K (.ref q0) = some (.type "type"))
    (xa1 : PySem.W.nsIn K mainGlobals "NoRow" = some (some (.ref q1))) (xb1 : PySem.W.excIn K q1 [.type "ValueError", .type "Exception", .type "BaseException", .type "object"] "ValueError.__new__" = true) (xc1 : PySem.W.keepIn K (.ref q1) = true) (xd1 : PySem.W.subIn K (.ref q1) (.type "BaseException") = some true) (xe1 : PySem.W.typeIn K (.ref q1) = some (.type "type"))
    (xa2 : PySem.W.nsIn K mainGlobals "NoEffect" = some (some (.ref q2))) (xb2 : PySem.W.excIn K q2 [.type "ValueError", .type "Exception", .type "BaseException", .type "object"] "ValueError.__new__" = true) (xc2 : PySem.W.keepIn K (.ref q2) = true) (xd2 : PySem.W.subIn K (.ref q2) (.type "BaseException") = some true) (xe2 : PySem.W.typeIn K (.ref q2) = some (.type "type"))
    (xa3 : PySem.W.nsIn K mainGlobals "NoRibbon" = some (some (.ref q3))) (xb3 : PySem.W.excIn K q3 [.type "ValueError", .type "Exception", .type "BaseException", .type "object"] "ValueError.__new__" = true) (xc3 : PySem.W.keepIn K (.ref q3) = true) (xd3 : PySem.W.subIn K (.ref q3) (.type "BaseException") = some true) (xe3 : PySem.W.typeIn K (.ref q3) = some (.type "type"))
    (m0 : PySem.W.nsIn K mainGlobals "MOST_RIBBONS" = some (some (.int 5 t0)))
    (m1 : PySem.W.nsIn K mainGlobals "MOST_PLACES" = some (some (.int 12 t1)))
    (b0 : PySem.W.nsIn K mainGlobals "len" = some none)
    (b1 : PySem.W.nsIn K mainGlobals "isinstance" = some none)
    (b2 : PySem.W.nsIn K mainGlobals "all" = some none)
    (b3 : PySem.W.nsIn K mainGlobals "sum" = some none)
    (b4 : PySem.W.nsIn K mainGlobals "max" = some none)
    (b5 : PySem.W.nsIn K mainGlobals "min" = some none)
    (b6 : PySem.W.nsIn K mainGlobals "abs" = some none)
    (b7 : PySem.W.nsIn K mainGlobals "tuple" = some none)
    (b8 : PySem.W.nsIn K mainGlobals "int" = some none)
    (b9 : PySem.W.nsIn K mainGlobals "sorted" = some none)
    (b10 : PySem.W.nsIn K mainGlobals "list" = some none)
    (b11 : PySem.W.nsIn K mainGlobals "range" = some none)
    (b12 : PySem.W.nsIn K mainGlobals "enumerate" = some none)
    (b13 : PySem.W.nsIn K mainGlobals "zip" = some none)
    (b14 : PySem.W.nsIn K mainGlobals "bool" = some none)
    (hl : ∀ ns : List Int, ns.length ≤ 63 → ∃ M, F_law [.ro (ns.map .int)] [] = .ok (.bl true) M) :
    ∃ fd : FuncData, (∀ (s : Shared) (u : Value), BindsTo s fd ⟨[u], []⟩ [("_law_script", u)]) ∧ ∀ base : Heap, K.In base → base.Ns mainGlobals mg → FnG P w K mg base 32 fa fd ["_law_script"] (spLaw K) := by
  let C : Str → Addr := fun z => if z = ("NoFrame" : Str) then q0 else if z = ("NoRow" : Str) then q1 else if z = ("NoEffect" : Str) then q2 else if z = ("NoRibbon" : Str) then q3 else (0 : Addr)
  have e0 : C "NoFrame" = q0 := by with_unfolding_all rfl
  have e1 : C "NoRow" = q1 := by with_unfolding_all rfl
  have e2 : C "NoEffect" = q2 := by with_unfolding_all rfl
  have e3 : C "NoRibbon" = q3 := by with_unfolding_all rfl
  have R0 : ∀ base, Ready ⟨P, w, K, mg, base, C⟩ 0 G0 := fun base => (Ready.cons (gf_blt X Gh b0) (Ready.cons (gf_blt X Gh b1) (Ready.cons (gf_blt X Gh b2) (Ready.cons (gf_blt X Gh b3) (Ready.cons (gf_blt X Gh b4) (Ready.cons (gf_blt X Gh b5) (Ready.cons (gf_blt X Gh b6) (Ready.cons (gf_blt X Gh b7) (Ready.cons (gf_blt X Gh b8) (Ready.cons (gf_blt X Gh b9) (Ready.cons (gf_blt X Gh b10) (Ready.cons (gf_blt X Gh b11) (Ready.cons (gf_blt X Gh b12) (Ready.cons (gf_blt X Gh b13) (Ready.cons (gf_blt X Gh b14) (Ready.cons (gf_exc X Gh e0 xa0 xb0 xc0 xd0 xe0) (Ready.cons (gf_exc X Gh e1 xa1 xb1 xc1 xd1 xe1) (Ready.cons (gf_exc X Gh e2 xa2 xb2 xc2 xd2 xe2) (Ready.cons (gf_exc X Gh e3 xa3 xb3 xc3 xd3 xe3) (Ready.cons (gf_int X Gh m0) (Ready.cons (gf_int X Gh m1) Ready.nil)))))))))))))))))))))
  have R1 : ∀ base, Ready ⟨P, w, K, mg, base, C⟩ 1 G1 := fun base => ready_fn A0 t_is_whole (R0 base) c_is_whole rfl
  have R2 : ∀ base, Ready ⟨P, w, K, mg, base, C⟩ 2 G2 := fun base => ready_fn A1 t_is_whole_from (R1 base) c_is_whole_from rfl
  have R3 : ∀ base, Ready ⟨P, w, K, mg, base, C⟩ 3 G3 := fun base => ready_fn A2 t_is_frame (R2 base) c_is_frame rfl
  have R4 : ∀ base, Ready ⟨P, w, K, mg, base, C⟩ 4 G4 := fun base => ready_fn A3 t_need_frame (R3 base) c_need_frame rfl
  have R5 : ∀ base, Ready ⟨P, w, K, mg, base, C⟩ 5 G5 := fun base => ready_fn A4 t_need_ribbon (R4 base) c_need_ribbon rfl
  have R6 : ∀ base, Ready ⟨P, w, K, mg, base, C⟩ 6 G6 := fun base => ready_fn A5 t_is_cut (R5 base) c_is_cut rfl
  have R7 : ∀ base, Ready ⟨P, w, K, mg, base, C⟩ 7 G7 := fun base => ready_fn A6 t_is_row (R6 base) c_is_row rfl
  have R8 : ∀ base, Ready ⟨P, w, K, mg, base, C⟩ 8 G8 := fun base => ready_fn A7 t_need_row (R7 base) c_need_row rfl
  have R9 : ∀ base, Ready ⟨P, w, K, mg, base, C⟩ 9 G9 := fun base => ready_fn A8 t__line_behind (R8 base) c__line_behind rfl
  have R10 : ∀ base, Ready ⟨P, w, K, mg, base, C⟩ 10 G10 := fun base => ready_fn A9 t_does (R9 base) c_does rfl
  have R11 : ∀ base, Ready ⟨P, w, K, mg, base, C⟩ 11 G11 := fun base => ready_fn A10 t_is_line (R10 base) c_is_line rfl
  have R12 : ∀ base, Ready ⟨P, w, K, mg, base, C⟩ 12 G12 := fun base => ready_fn A11 t_is_effect (R11 base) c_is_effect rfl
  have R13 : ∀ base, Ready ⟨P, w, K, mg, base, C⟩ 13 G13 := fun base => ready_fn A12 t_need_effect (R12 base) c_need_effect rfl
  have R14 : ∀ base, Ready ⟨P, w, K, mg, base, C⟩ 14 G14 := fun base => ready_fn A13 t_undoing (R13 base) c_undoing rfl
  have R15 : ∀ base, Ready ⟨P, w, K, mg, base, C⟩ 15 G15 := fun base => ready_fn A14 t_pieces (R14 base) c_pieces rfl
  have R16 : ∀ base, Ready ⟨P, w, K, mg, base, C⟩ 16 G16 := fun base => ready_fn A15 t_how_many_pieces (R15 base) c_how_many_pieces rfl
  have R17 : ∀ base, Ready ⟨P, w, K, mg, base, C⟩ 17 G17 := fun base => ready_fn A16 t__joint (R16 base) c__joint rfl
  have R18 : ∀ base, Ready ⟨P, w, K, mg, base, C⟩ 18 G18 := fun base => ready_fn A17 t_joints (R17 base) c_joints rfl
  have R19 : ∀ base, Ready ⟨P, w, K, mg, base, C⟩ 19 G19 := fun base => ready_fn A18 t_round_with (R18 base) c_round_with rfl
  have R20 : ∀ base, Ready ⟨P, w, K, mg, base, C⟩ 20 G20 := fun base => ready_fn A19 t_rounds_of (R19 base) c_rounds_of rfl
  have R21 : ∀ base, Ready ⟨P, w, K, mg, base, C⟩ 21 G21 := fun base => ready_fn A20 t_exchanges_in (R20 base) c_exchanges_in rfl
  have R22 : ∀ base, Ready ⟨P, w, K, mg, base, C⟩ 22 G22 := fun base => ready_fn A21 t_fewest (R21 base) c_fewest rfl
  have R23 : ∀ base, Ready ⟨P, w, K, mg, base, C⟩ 23 G23 := fun base => ready_fn A22 t__law_cell_at (R22 base) c__law_cell_at rfl
  have R24 : ∀ base, Ready ⟨P, w, K, mg, base, C⟩ 24 G24 := fun base => ready_fn A23 t__law_pen (R23 base) c__law_pen rfl
  have R25 : ∀ base, Ready ⟨P, w, K, mg, base, C⟩ 25 G25 := fun base => ready_fn A24 t__law_draw (R24 base) c__law_draw rfl
  have R26 : ∀ base, Ready ⟨P, w, K, mg, base, C⟩ 26 G26 := fun base => ready_fn A25 t__law_pick (R25 base) c__law_pick rfl
  have R27 : ∀ base, Ready ⟨P, w, K, mg, base, C⟩ 27 G27 := fun base => ready_fn A26 t__law_frame (R26 base) c__law_frame rfl
  have R28 : ∀ base, Ready ⟨P, w, K, mg, base, C⟩ 28 G28 := fun base => ready_fn A27 t__law_cuts (R27 base) c__law_cuts rfl
  have R29 : ∀ base, Ready ⟨P, w, K, mg, base, C⟩ 29 G29 := fun base => ready_fn A28 t__law_row (R28 base) c__law_row rfl
  have R30 : ∀ base, Ready ⟨P, w, K, mg, base, C⟩ 30 G30 := fun base => ready_fn A29 t__law_side_by_side (R29 base) c__law_side_by_side rfl
  have R31 : ∀ base, Ready ⟨P, w, K, mg, base, C⟩ 31 G31 := fun base => ready_fn A30 t__law_right (R30 base) c__law_right rfl
  exact law_end hfa A31 t_law R31 c_law hl
end K78

namespace K78
open DL LW PR
open LX (PenOb PenAt Drew)
theorem frame_ok {N p : Nat} {M : Hep} (hp : PenAt N p M) (hN : N < 1000000) : ∃ m l M', F__law_frame [.ref p] M = .ok (frD m l) M' ∧ 1 ≤ m ∧ m ≤ 5 ∧ 1 ≤ l ∧ l ≤ 12 ∧ Drew (N + 4) p M M' := by
  obtain ⟨k1, M1, e1, h1, d1⟩ := LX.draw_ok (n := 5) hp (by omega) (by omega) (by omega)
  have p1 := d1.pen hp
  obtain ⟨k2, M2, e2, h2, d2⟩ := LX.draw_ok (n := 6) p1 (by omega) (by omega) (by omega)
  have p2 := d2.pen p1
  obtain ⟨k3, M3, e3, h3, d3⟩ := LX.draw_ok (n := 12) p2 (by omega) (by omega) (by omega)
  have p3 := d3.pen p2
  obtain ⟨k4, M4, e4, h4, d4⟩ := LX.draw_ok (n := 2) p3 (by omega) (by omega) (by omega)
  have d14 := ((d1.trans d2).trans d3).trans d4
  have c1 : 1 + (k1 : Int) = ((k1 + 1 : Nat) : Int) := by omega
  have c2 : 1 + (k2 : Int) = ((k2 + 1 : Nat) : Int) := by omega
  have c3 : 1 + (k3 : Int) = ((k3 + 1 : Nat) : Int) := by omega
  refine ⟨k1 + 1, if k4 = 0 then k2 + 1 else k3 + 1, M4, run_eq rfl ?_, by omega, by omega, by split <;> omega, by split <;> omega, d14⟩
  rw [← d14.len]
  have k4' : k4 = 0 ∨ k4 = 1 := by omega
  rcases k4' with rfl | rfl
  · simp -implicitDefEqProofs [B__law_frame, e1, e2, e3, e4, frD, c1, c2, c3, -Int.natCast_add]
  · simp -implicitDefEqProofs [B__law_frame, e1, e2, e3, e4, frD, c1, c2, c3, -Int.natCast_add]
def CB : SemS := (sAsg (eBin (opAdd false) (eVar 2) (eLc false false [5] (iRng (lCons (eBin (opAdd false) (eVar 4) (eC (.int 1))) (lCons (eVar 0) lNil))) (gVar 5) (fun _ _ M => .ok true M) (eApp mkTup (lCons (eVar 3) (lCons (eVar 4) (lCons (eVar 5) lNil)))))) (gVar 2))
def newC (m i j : Nat) : List Cut := (List.range (m - (j + 1))).map fun k => (i, j, j + 1 + k)
theorem cturn {m l i j : Nat} {cs : List Cut} {M : Hep} {w4 w5 : Option D} (hf : Flat M) (hm : m ≤ 5) (hj : j < m) (hc : cs.length < 1000) :
    turnF (DL.gVar 4) CB M.length M.length (.int (j : Int)) [some (.int (m : Int)), some (.int (l : Int)), some (.fz (cs.map LW.cutD)), some (.int (i : Int)), w4, w5] M = .ok [some (.int (m : Int)), some (.int (l : Int)), some (.fz ((cs ++ newC m i j).map LW.cutD)), some (.int (i : Int)), some (.int (j : Int)), w5] M := by
  have lc := lc_all (vs := [5]) (n0 := M.length) (σ := [some (.int (m : Int)), some (.int (l : Int)), some (.fz (cs.map LW.cutD)), some (.int (i : Int)), some (.int (j : Int)), w5]) (fi := iRng (lCons (eBin (opAdd false) (eVar 4) (eC (.int 1))) (lCons (eVar 0) lNil))) (g := DL.gVar 5) (te := (eApp mkTup (lCons (eVar 3) (lCons (eVar 4) (lCons (eVar 5) lNil))))) (M := M) (M1 := M) (List.range (m - (j + 1))) (fun k : Nat => .int (((j + 1 : Nat) : Int) + (k : Nat))) (fun k : Nat => LW.cutD (i, j, j + 1 + k)) (rng_eval2 (i := j + 1) (j := m) (ls_cons (ev_bin (ev_var rfl) ev_c (by rw [add_int]; rfl)) (ls_cons (ev_var rfl) ls_nil)) (by omega) (by omega)) (Nat.le_refl _) hf (by simp; omega) (fun _ _ => rfl) fun k acc hk hfl => by
    refine ⟨[some (.int (m : Int)), some (.int (l : Int)), some (.fz (cs.map LW.cutD)), some (.int (i : Int)), some (.int (j : Int)), some (.int (((j + 1 : Nat) : Int) + (k : Nat)))], rfl, ?_⟩
    simp -implicitDefEqProofs [LW.cutD]
  have e : (List.range (m - (j + 1))).map (fun k : Nat => LW.cutD (i, j, j + 1 + k)) = (newC m i j).map LW.cutD := by unfold newC; rw [List.map_map]; rfl
  rw [e] at lc
  have nl : (newC m i j).length ≤ 5 := by simp [newC]; omega
  have h1 : (cs.map LW.cutD).length + ((newC m i j).map LW.cutD).length ≤ 1000000 := by simp; omega
  have ad := a_fz (M := M) h1
  simp -implicitDefEqProofs [turnF, CB, lc, ad]
theorem newC_ok {m l i j : Nat} (hi : i < l) (hj : j < m) : ∀ c ∈ newC m i j, CutOk m l c := by
  intro c hc
  obtain ⟨k, hk, rfl⟩ := List.mem_map.mp hc
  have := List.mem_range.mp hk
  exact ⟨hi, by show j < j + 1 + k; omega, by show j + 1 + k < m; omega⟩
theorem cuts_ok {m l : Nat} {M : Hep} (hf : Flat M) (hm : m ≤ 5) (hl : l ≤ 12) : ∃ cs : List Cut, F__law_cuts [.int (m : Int), .int (l : Int)] M = .ok (.fz (cs.map LW.cutD)) M ∧ (∀ c ∈ cs, CutOk m l c) ∧ cs.length ≤ 300 := by
  obtain ⟨σ', M', e, rfl, cs, w3, w4, w5, rfl, hg, hb⟩ := for_inv (g := DL.gVar 3) (b := sFor (iRng (lCons (eVar 0) lNil)) (DL.gVar 4) CB) (n1 := M.length) (n0 := M.length) (fun i σ M' => M' = M ∧ ∃ (cs : List Cut) (w3 w4 w5 : Option D), σ = [some (.int (m : Int)), some (.int (l : Int)), some (.fz (cs.map LW.cutD)), w3, w4, w5] ∧ (∀ c ∈ cs, CutOk m l c) ∧ cs.length ≤ i * 25) (natsD l) (natsD l) 0 [some (.int (m : Int)), some (.int (l : Int)), some (.fz []), none, none, none] M ⟨rfl, [], none, none, none, rfl, (by intro c h; cases h), by simp⟩ (by
    rintro i d σ M' hd ⟨rfl, cs, w3, w4, w5, rfl, hg, hb⟩
    obtain ⟨hi, rfl⟩ := LX.nats_get hd
    obtain ⟨σ', M2, e, rfl, cs', w4', w5', rfl, hg', hb'⟩ := for_inv (g := DL.gVar 4) (b := CB) (n1 := M'.length) (n0 := M'.length) (fun j σ M2 => M2 = M' ∧ ∃ (cs : List Cut) (w4 w5 : Option D), σ = [some (.int (m : Int)), some (.int (l : Int)), some (.fz (cs.map LW.cutD)), some (.int (i : Int)), w4, w5] ∧ (∀ c ∈ cs, CutOk m l c) ∧ cs.length ≤ i * 25 + j * 5) (natsD m) (natsD m) 0 [some (.int (m : Int)), some (.int (l : Int)), some (.fz (cs.map LW.cutD)), some (.int (i : Int)), w4, w5] M' ⟨rfl, cs, w4, w5, rfl, hg, by omega⟩ (by
      rintro j d σ M2 hd ⟨rfl, cs, w4, w5, rfl, hg, hb⟩
      obtain ⟨hj, rfl⟩ := LX.nats_get hd
      refine ⟨_, _, cturn hf hm hj (by omega), rfl, cs ++ newC m i j, some (.int (j : Int)), w5, rfl, fun c hc => ?_, by simp [newC]; omega⟩
      rcases List.mem_append.mp hc with z | z
      · exact hg c z
      · exact newC_ok hi hj c z)
    refine ⟨[some (.int (m : Int)), some (.int (l : Int)), some (.fz (cs'.map LW.cutD)), some (.int (i : Int)), w4', w5'], M2, ?_, rfl, cs', _, _, _, rfl, hg', by simp at hb'; omega⟩
    have rg := SK.rng_nat (l := m) (n0 := M2.length) (σ := [some (.int (m : Int)), some (.int (l : Int)), some (.fz (cs.map LW.cutD)), some (.int (i : Int)), w4, w5]) (M := M2) (ls_cons (ev_var (i := 0) rfl) ls_nil) (by omega)
    simp -implicitDefEqProofs [-r_rng1, turnF, rg, e])
  refine ⟨cs, run_eq rfl ?_, hg, by simp at hb; omega⟩
  have rg := SK.rng_nat (l := l) (n0 := M'.length) (σ := [some (.int (m : Int)), some (.int (l : Int)), some (.fz []), none, none, none]) (M := M') (ls_cons (ev_var (i := 1) rfl) ls_nil) (by omega)
  unfold CB at e
  have lw : lows 0 (cs.map LW.cutD) = true := lows_map low_cut cs
  simp -implicitDefEqProofs [-r_rng1, B__law_cuts, rg, e, lw]
theorem row_ok {N p m l most : Nat} {M : Hep} (hp : PenAt N p M) (hN : N < 1000000) (hf : Flat M) (hm : m ≤ 5) (hl : l ≤ 12) (hk : most ≤ 60) : ∃ (r : List Cut) (M' : Hep), F__law_row [.ref p, .int (m : Int), .int (l : Int), .int (most : Int)] M = .ok (rowD r) M' ∧ Drew (N + 100) p M M' ∧ (∀ c ∈ r, CutOk m l c) ∧ r.length ≤ most := by
  obtain ⟨cs, ec, hg, hb⟩ := cuts_ok (M := M) hf hm hl
  obtain ⟨k, M1, e1, k1, d1⟩ := LX.draw_ok (n := (most : Int) + 1) hp (by omega) (by omega) (by omega)
  let t : Nat := if cs = [] then 0 else k
  let Mt : Hep := if cs = [] then M else M1
  have dt : Drew (N + 1) p M Mt := by
    show Drew (N + 1) p M (if cs = [] then M else M1)
    split
    · exact hp.refl.mono (by omega)
    · exact d1
  have lt : t ≤ most := by
    show (if cs = [] then 0 else k) ≤ most
    split <;> omega
  have ht : cs = [] → t = 0 := fun h => if_pos h
  have nc := ne_cuts cs M
  have fi : iRng (lCons (eIf (tOf (eBin opNe (eVar 4) (eApp (mkLst false) lNil))) (eApp LX.F__law_draw (lCons (eVar 0) (lCons (eBin (opAdd false) (eVar 3) (eC (.int 1))) lNil))) (eC (.int 0))) lNil) M.length [some (.ref p), some (.int (m : Int)), some (.int (l : Int)), some (.int (most : Int)), some (.fz (cs.map LW.cutD)), none] M = .ok ⟨natsD t, none⟩ Mt := by
    refine SK.rng_nat (l := t) ?_ (by omega)
    show _ = Res.ok [D.int ((if cs = [] then 0 else k : Nat) : Int)] (if cs = [] then M else M1)
    by_cases h : cs = []
    · subst h
      have nc0 : opNe (.fz []) (.fz []) M = .ok (.bl false) M := nc
      simp -implicitDefEqProofs [nc0]
    · have : cs.isEmpty = false := by cases cs; exact (h rfl).elim; rfl
      simp -implicitDefEqProofs [nc, e1, h, this]
  obtain ⟨r, M2, e2, hr, hq, d2⟩ := lc_draw (en := LW.cutD) (Q := fun _ c => CutOk m l c) (K := 1) (N := N + 1) (p := p) (vs := [5]) (g := DL.gVar 5) (te := (eApp LX.F__law_pick (lCons (eVar 0) (lCons (eVar 4) lNil)))) fi (by rw [dt.len]; exact Nat.le_refl _) (dt.pen hp) (dt.flat hf) (by simp; omega) (fun _ _ _ => rfl) (by
    intro i d acc M2 hd hp2 hl2 hf2
    obtain ⟨hi, rfl⟩ := LX.nats_get hd
    have hne : cs ≠ [] := fun h => by have := ht h; omega
    have hpos : 0 < (cs.map LW.cutD).length := by rw [List.length_map]; exact List.length_pos_iff.mpr hne
    obtain ⟨j, x, M3, hx, e3, d3⟩ := LX.pick_fz (ds := cs.map LW.cutD) (hp2.app [.lst acc]) (by omega) hpos (by rw [List.length_map]; omega) (lows_map low_cut cs)
    obtain ⟨M4, rfl, d4⟩ := Drew.app hp2.lt d3
    rw [List.getElem?_map] at hx
    obtain ⟨c, hc, rfl⟩ := Option.map_eq_some_iff.mp hx
    refine ⟨[some (.ref p), some (.int (m : Int)), some (.int (l : Int)), some (.int (most : Int)), some (.fz (cs.map LW.cutD)), some (.int (i : Int))], c, M4, rfl, ?_, hg c (List.mem_of_getElem? hc), d4.mono (by omega)⟩
    simp -implicitDefEqProofs [e3])
  have dd := dt.trans d2
  rw [nats_len] at dd hr
  refine ⟨r, M2, run_eq rfl ?_, dd.mono (by omega), fun c hc => ?_, by omega⟩
  · rw [← dd.len]
    have lw : lows 0 (r.map LW.cutD) = true := lows_map low_cut r
    rw [← dd.len] at e2
    simp -implicitDefEqProofs [B__law_row, ec, e2, lw, rowD]
  · obtain ⟨i, hi⟩ := List.mem_iff_getElem?.mp hc
    exact hq i c hi
end K78

namespace K78
open DL LW PR PS
/-! ### pieces lie side by side -/
def Til (w : Nat → Nat) : Nat → List Cut → Nat → Prop
  | a, [], b => a = b
  | a, c :: cs, b => c.2.1 = a ∧ a ≤ c.2.2 ∧ (∀ p, a ≤ p → p ≤ c.2.2 → w p = c.1) ∧ Til w (c.2.2 + 1) cs b
theorem til_snoc {w : Nat → Nat} {c : Cut} : ∀ (cs : List Cut) (a b : Nat), Til w a cs b → c.2.1 = b → b ≤ c.2.2 → (∀ p, b ≤ p → p ≤ c.2.2 → w p = c.1) → Til w a (cs ++ [c]) (c.2.2 + 1)
  | [], a, b, h, h1, h2, h3 => by
    cases h
    exact ⟨h1, h2, h3, rfl⟩
  | d :: cs, a, b, h, h1, h2, h3 => ⟨h.1, h.2.1, h.2.2.1, til_snoc cs _ b h.2.2.2 h1 h2 h3⟩
theorem til_le {w : Nat → Nat} : ∀ (cs : List Cut) (a b : Nat), Til w a cs b → a ≤ b
  | [], a, b, h => Nat.le_of_eq h
  | c :: cs, a, b, h => by have := til_le cs _ b h.2.2.2; have := h.2.1; omega
theorem fsT_til (w : Nat → Nat) : ∀ i, Til w 0 (fsT w i).1 (fsT w i).2 ∧ ∀ p, (fsT w i).2 ≤ p → p ≤ i → w p = w (fsT w i).2
  | 0 => ⟨rfl, fun p _ h => by have : p = 0 := by omega
                               rw [this]; rfl⟩
  | i + 1 => by
    obtain ⟨h1, h2⟩ := fsT_til w i
    have hl := fsT_le w i
    unfold fsT
    split
    · rename_i z
      refine ⟨h1, fun p a b => ?_⟩
      by_cases y : p = i + 1
      · rw [y]; exact z
      · exact h2 p a (by omega)
    · refine ⟨til_snoc (c := (w (fsT w i).2, (fsT w i).2, i)) _ _ _ h1 rfl hl h2, fun p a b => ?_⟩
      have : p = i + 1 := by
        have a : i + 1 ≤ p := a
        omega
      rw [this]
theorem toldT_til (w : Nat → Nat) {l : Nat} (hl : 1 ≤ l) : Til w 0 (toldT w l) l := by
  obtain ⟨i, rfl⟩ : ∃ i, l = i + 1 := ⟨l - 1, by omega⟩
  obtain ⟨h1, h2⟩ := fsT_til w i
  exact til_snoc (c := (w (fsT w i).2, (fsT w i).2, i)) _ _ _ h1 rfl (fsT_le w i) h2
def AdjI (cs : List Cut) : Prop := ∀ k a b, cs[k]? = some a → cs[k + 1]? = some b → a.1 ≠ b.1
theorem adj_snoc {cs : List Cut} {c : Cut} (h : AdjI cs) (hl : ∀ k a, cs[k]? = some a → k + 1 = cs.length → a.1 ≠ c.1) : AdjI (cs ++ [c]) := by
  intro k a b ha hb
  by_cases z : k + 1 < cs.length
  · rw [List.getElem?_append_left (by omega)] at ha
    rw [List.getElem?_append_left z] at hb
    exact h k a b ha hb
  · have : k + 1 < (cs ++ [c]).length := by
      by_cases y : k + 1 < (cs ++ [c]).length
      · exact y
      · rw [List.getElem?_eq_none (by omega)] at hb; cases hb
    rw [List.length_append, List.length_singleton] at this
    rw [List.getElem?_append_left (by omega)] at ha
    rw [List.getElem?_append_right (by omega)] at hb
    rw [show k + 1 - cs.length = 0 by omega] at hb
    cases hb
    exact hl k a ha (by omega)
theorem last_snoc {cs : List Cut} {c : Cut} {k : Nat} {a : Cut} (h : (cs ++ [c])[k]? = some a) (hk : k + 1 = (cs ++ [c]).length) : a = c := by
  rw [List.length_append, List.length_singleton] at hk
  rw [List.getElem?_append_right (by omega)] at h
  rw [show k - cs.length = 0 by omega] at h
  cases h; rfl
theorem fsT_adj (w : Nat → Nat) : ∀ i, AdjI (fsT w i).1 ∧ ∀ k a, (fsT w i).1[k]? = some a → k + 1 = (fsT w i).1.length → a.1 ≠ w (fsT w i).2
  | 0 => ⟨fun k a b h => by simp [fsT] at h, fun k a h => by simp [fsT] at h⟩
  | i + 1 => by
    obtain ⟨h1, h2⟩ := fsT_adj w i
    unfold fsT
    split
    · exact ⟨h1, h2⟩
    · rename_i z
      refine ⟨adj_snoc h1 h2, fun k a h hk => ?_⟩
      rw [last_snoc h hk]
      exact fun e => z e.symm
theorem toldT_adj (w : Nat → Nat) (l : Nat) : AdjI (toldT w l) := by
  cases l with
  | zero => intro k a b h; simp [toldT] at h
  | succ i => exact adj_snoc (fsT_adj w i).1 (fsT_adj w i).2
theorem zip_next {cs : List Cut} {ab : Cut × Cut} (h : ab ∈ cs.zip (cs.drop 1)) : ∃ k, cs[k]? = some ab.1 ∧ cs[k + 1]? = some ab.2 := by
  obtain ⟨k, hk⟩ := List.mem_iff_getElem?.mp h
  obtain ⟨h1, h2⟩ := List.getElem?_zip_eq_some.mp hk
  rw [List.getElem?_drop] at h2
  exact ⟨k, h1, by rw [show k + 1 = 1 + k by omega]; exact h2⟩
def SB : SemS := (sSeq (sIf (tOr (tOf (eBin opNe (eVar 5) (eVar 3))) (tOf (eBin opLt (eVar 6) (eVar 5)))) (sRet (eC (.bl false))) sNil) (sSeq (sIf (tOf (eBin opNe (eLc false false [7] (iRng (lCons (eVar 5) (lCons (eBin (opAdd false) (eVar 6) (eC (.int 1))) lNil))) (gVar 7) (tOf (eBin opNe (eBin opIx (eBin opIx (eVar 0) (eVar 7)) (eVar 1)) (eVar 4))) (eC (.int 1))) (eApp (mkLst false) lNil))) (sRet (eC (.bl false))) sNil) (sAsg (eBin (opAdd false) (eVar 6) (eC (.int 1))) (gVar 3))))
def SG : SemG := (gLen 3 (gCons (gVar 4) (gCons (gVar 5) (gCons (gVar 6) gNil))))
theorem sturn {m l r a : Nat} {e : List (List Nat)} {cs : List Cut} {c : Cut} {M : Hep} {w4 w5 w6 w7 w8 w9 : Option D} (hf : Flat M) (hl : l ≤ 12) (he : EffOk m l e) (hr : r < m) (h1 : c.2.1 = a) (h2 : a ≤ c.2.2) (h3 : c.2.2 < l) (hw : ∀ p, a ≤ p → p ≤ c.2.2 → wOf e r p = c.1) :
    turnF SG SB M.length M.length (LW.cutD c) [some (effD e), some (.int (r : Int)), some (rowD cs), some (.int ((a : Nat) : Int)), w4, w5, w6, w7, w8, w9] M = .ok [some (effD e), some (.int (r : Int)), some (rowD cs), some (.int ((c.2.2 + 1 : Nat) : Int)), some (.int (c.1 : Int)), some (.int (c.2.1 : Int)), some (.int (c.2.2 : Int)), w7, w8, w9] M := by
  obtain ⟨o, f, t⟩ := c
  simp only at h1 h2 h3 hw ⊢
  subst h1
  have g3 : SG M.length (LW.cutD (o, f, t)) [some (effD e), some (.int (r : Int)), some (rowD cs), some (.int ((f : Nat) : Int)), w4, w5, w6, w7, w8, w9] M = .ok [some (effD e), some (.int (r : Int)), some (rowD cs), some (.int ((f : Nat) : Int)), some (.int (o : Int)), some (.int (f : Int)), some (.int (t : Int)), w7, w8, w9] M := rfl
  have lc := lc_map (vs := [7]) (n0 := M.length) (σ := [some (effD e), some (.int (r : Int)), some (rowD cs), some (.int ((f : Nat) : Int)), some (.int (o : Int)), some (.int (f : Int)), some (.int (t : Int)), w7, w8, w9]) (fi := iRng (lCons (eVar 5) (lCons (eBin (opAdd false) (eVar 6) (eC (.int 1))) lNil))) (g := DL.gVar 7) (tt := tOf (eBin opNe (eBin opIx (eBin opIx (eVar 0) (eVar 7)) (eVar 1)) (eVar 4))) (te := eC (.int 1)) (M := M) (M1 := M) (List.range (t + 1 - f)) (fun k : Nat => .int ((f : Int) + (k : Nat))) (fun _ : Nat => .int 1) (fun _ => false) (rng_eval2 (i := f) (j := t + 1) (ls_cons (ev_var rfl) (ls_cons (ev_bin (ev_var rfl) ev_c (by rw [add_int]; rfl)) ls_nil)) (by omega) (by omega)) (Nat.le_refl _) hf (by simp; omega) (fun _ _ h => by cases h) fun k acc hk hfl => by
    have hk := List.mem_range.mp hk
    have hp : f + k < l := by omega
    have cast : (f : Int) + (k : Nat) = ((f + k : Nat) : Int) := by omega
    refine ⟨[some (effD e), some (.int (r : Int)), some (rowD cs), some (.int ((f : Nat) : Int)), some (.int (o : Int)), some (.int (f : Int)), some (.int (t : Int)), some (.int ((f : Int) + (k : Nat))), w8, w9], rfl, ?_, fun h => by cases h⟩
    have hle : (e.getD (f + k) []).length = m := ln_len (eff_get he hp)
    have ix : ∀ M, opIx (effD e) (.int ((f : Int) + (k : Nat))) M = .ok (.tup (lnD (e.getD (f + k) []))) M := fun M => by
      rw [cast]
      refine ix_tup ?_
      rw [List.getElem?_map, get_D (x := []) (by rw [he.1]; exact hp)]; rfl
    have vx : ∀ M, opIx (.tup (lnD (e.getD (f + k) []))) (.int (r : Int)) M = .ok (.int ((wOf e r (f + k) : Nat) : Int)) M := fun M => ix_tup (lnD_get (by rw [hle]; exact hr))
    rw [hw (f + k) (by omega) (by omega)] at vx
    generalize e.getD (f + k) [] = ln at *
    refine t_of (ev_bin (ev_bin (ev_bin (ev_var rfl) (ev_var rfl) (ix _)) (ev_var rfl) (vx _)) (ev_var rfl) ?_)
    rw [ne_int]
    simp
  have fe : ((List.range (t + 1 - f)).filter fun _ => false).map (fun _ : Nat => D.int 1) = [] := by simp
  rw [fe] at lc
  have n0e : opNe (.fz []) (.fz []) M = .ok (.bl false) M := ne_self (x := .fz []) rfl (by simp [D.dep, deps])
  have lt : decide ((t : Int) < (f : Int)) = false := decide_eq_false (by omega)
  have lt' : decide (t < f) = false := decide_eq_false (by omega)
  have c1 : (t : Int) + 1 = ((t + 1 : Nat) : Int) := by omega
  simp -implicitDefEqProofs [-decide_eq_false_iff_not, -Int.natCast_add, turnF, g3, SB, lc, n0e, lt, lt', c1]
theorem side_ok {m l r : Nat} {e : List (List Nat)} {M : Hep} (hf : Flat M) (h2 : m ≤ 5) (h3 : 1 ≤ l) (h4 : l ≤ 12) (he : EffOk m l e) (hr : r < m) : F__law_side_by_side [effD e, .int (r : Int), rowD (toldT (wOf e r) l)] M = .ok (.bl true) M := by
  have tl := toldT_til (wOf e r) h3
  have ad := toldT_adj (wOf e r) l
  have ln := toldT_len (wOf e r) l
  generalize toldT (wOf e r) l = cs at *
  obtain ⟨σ', M', eL, rfl, a, w4, w5, w6, w7, w8, w9, rfl, ta⟩ := for_inv (g := SG) (b := SB) (n1 := M.length) (n0 := M.length) (fun i σ M' => M' = M ∧ ∃ a w4 w5 w6 w7 w8 w9, σ = [some (effD e), some (.int (r : Int)), some (rowD cs), some (.int ((a : Nat) : Int)), w4, w5, w6, w7, w8, w9] ∧ Til (wOf e r) a (cs.drop i) l) (cs.map LW.cutD) (cs.map LW.cutD) 0 [some (effD e), some (.int (r : Int)), some (rowD cs), some (.int ((0 : Nat) : Int)), none, none, none, none, none, none] M ⟨rfl, 0, none, none, none, none, none, none, rfl, tl⟩ (by
    rintro i d σ M' hd ⟨rfl, a, w4, w5, w6, w7, w8, w9, rfl, ta⟩
    rw [show 0 + i = i by omega] at ta ⊢
    rw [List.getElem?_map] at hd
    obtain ⟨c, hc, rfl⟩ := Option.map_eq_some_iff.mp hd
    obtain ⟨hi, rfl⟩ := List.getElem?_eq_some_iff.mp hc
    rw [List.drop_eq_getElem_cons hi] at ta
    obtain ⟨t1, t2, t3, t4⟩ := ta
    have := til_le _ _ _ t4
    exact ⟨_, _, sturn hf h4 he hr t1 t2 (by omega) t3, rfl, _, _, _, _, _, _, _, rfl, t4⟩)
  rw [List.length_map, Nat.zero_add, List.drop_length] at ta
  have ta : a = l := ta
  subst ta
  have zi : ∀ w4 w5 w6 w7 w8 w9, iZp (lCons (eVar 2) (lCons (eSl (opSl false) (eVar 2) (oSome (eC (.int 1))) oNone) lNil)) M'.length [some (effD e), some (.int (r : Int)), some (rowD cs), some (.int ((a : Nat) : Int)), w4, w5, w6, w7, w8, w9] M' = .ok ⟨(cs.zip (cs.drop 1)).map fun ab => .tup [LW.cutD ab.1, LW.cutD ab.2], none⟩ M' := fun w4 w5 w6 w7 w8 w9 => by
    have sl : opSl false (rowD cs) (some 1) none M' = .ok (rowD (cs.drop 1)) M' := by
      show Res.ok (D.tup (DL.cutD (cs.map LW.cutD) (some 1) none)) M' = _
      rw [cut_from (i := 1) (cs.map LW.cutD) (by omega)]
      unfold rowD
      rw [List.map_drop]; rfl
    have zz : zipD (cs.map LW.cutD) ((cs.drop 1).map LW.cutD) = (cs.zip (cs.drop 1)).map fun ab => .tup [LW.cutD ab.1, LW.cutD ab.2] := by
      unfold zipD
      rw [List.zipWith_map, List.zip, List.map_zipWith]
    have iz : ∀ (f : SemL) n σ M', iZp f n σ M' = (f n σ M').bind fun ds M1 => .of (zipOf ds) M1 := fun _ _ _ _ => rfl
    have zo : zipOf [rowD cs, rowD (cs.drop 1)] = some ⟨zipD (cs.map LW.cutD) ((cs.drop 1).map LW.cutD), none⟩ := rfl
    rw [zz] at zo
    simp -implicitDefEqProofs [-List.drop_one, iz, sl, zo]
  have lc := fun w4 w5 w6 w7 w8 w9 => lc_map (vs := [8, 9]) (n0 := M'.length) (σ := [some (effD e), some (.int (r : Int)), some (rowD cs), some (.int ((a : Nat) : Int)), w4, w5, w6, w7, w8, w9]) (fi := iZp (lCons (eVar 2) (lCons (eSl (opSl false) (eVar 2) (oSome (eC (.int 1))) oNone) lNil))) (g := gLen 2 (gCons (gVar 8) (gCons (gVar 9) gNil))) (tt := tOf (eBin opEq (eBin opIx (eVar 8) (eC (.int 0))) (eBin opIx (eVar 9) (eC (.int 0))))) (te := eC (.int 1)) (M := M') (M1 := M') (cs.zip (cs.drop 1)) (fun ab : Cut × Cut => .tup [LW.cutD ab.1, LW.cutD ab.2]) (fun _ => .int 1) (fun _ => false) (zi w4 w5 w6 w7 w8 w9) (Nat.le_refl _) hf (by rw [List.length_zip]; omega) (fun _ _ h => by cases h) fun ab acc hx hfl => by
    obtain ⟨k, q1, q2⟩ := zip_next hx
    have ne := ad k _ _ q1 q2
    refine ⟨[some (effD e), some (.int (r : Int)), some (rowD cs), some (.int ((a : Nat) : Int)), w4, w5, w6, w7, some (LW.cutD ab.1), some (LW.cutD ab.2)], rfl, ?_, fun h => by cases h⟩
    refine t_of (ev_bin (ev_bin (ev_var rfl) ev_c LX.cut_0) (ev_bin (ev_var rfl) ev_c LX.cut_0) ?_)
    rw [eq_int, decide_eq_false (by omega)]
  have fe : ((cs.zip (cs.drop 1)).filter fun _ => false).map (fun _ : Cut × Cut => D.int 1) = [] := by simp
  simp only [fe] at lc
  have ln2 : pLen.op [effD e] M' = .ok (.int (a : Int)) M' := by
    have := len_tup (M := M') (e.map fun ln => D.tup (lnD ln))
    rwa [List.length_map, he.1] at this
  have n0e : opEq (.fz []) (.fz []) M' = .ok (.bl true) M' := rfl
  refine run_eq rfl ?_
  have it : itmOf (rowD cs) M' = some ⟨cs.map LW.cutD, none⟩ := rfl
  unfold SG SB at eL
  rw [show ((0 : Nat) : Int) = 0 from rfl] at eL
  simp -implicitDefEqProofs [-List.drop_one, B__law_side_by_side, it, eL, ln2, lc, n0e]
end K78

namespace K78
open DL LW PR PS
theorem enu_range {m : Nat} (f : Nat → D) : enuF 0 ((List.range m).map f) = (List.range m).map fun r => .tup [.int ((r : Nat) : Int), f r] := by
  refine List.ext_getElem? fun i => ?_
  rw [enuF_get, List.getElem?_map, List.getElem?_map]
  by_cases h : i < m
  · simp [h]
  · simp [h]
def JB : SemS := (sDrop (eMt isLst mApp (eVar 3) (lCons (eApp pLen.op (lCons (eLc false false [9, 11] (iEnu (lCons (eVar 5) lNil)) (gLen 2 (gCons (gVar 9) (gCons (gVar 11) gNil))) (tOf (eBin opNe (eVar 9) (eVar 11))) (eC (.int 1))) lNil)) lNil)))
theorem jturn {m i : Nat} {d0 d1 : D} {js : List (List Nat)} {M : Hep} {w4 w5 w6 w7 w8 w9 w10 w11 : Option D} (hf : Flat M) (hm : m ≤ 5) (hz : js.length ≤ 100) (hi : i < js.length) (hj : LnOk m (js.getD i [])) :
    turnF (DL.gVar 5) JB (M.length + 1) M.length (tpD (js.getD i [])) [some d0, some d1, some (.int (m : Int)), some (.ref M.length), w4, w5, w6, w7, w8, w9, w10, w11] (M ++ [(.lst ((js.take (i)).map fun j => .int ((mvJ m j : Nat) : Int)))]) = .ok [some d0, some d1, some (.int (m : Int)), some (.ref M.length), w4, some (tpD (js.getD i [])), w6, w7, w8, w9, w10, w11] (M ++ [(.lst ((js.take (i + 1)).map fun j => .int ((mvJ m j : Nat) : Int)))]) := by
  rw [take_snoc (x := []) hi, List.map_append]
  have sz : ((js.take i).map fun j => D.int ((mvJ m j : Nat) : Int)).length < 1000000 := by rw [List.length_map, List.length_take]; omega
  have fl : Flat (M ++ [.lst ((js.take i).map fun j => D.int ((mvJ m j : Nat) : Int))]) := by
    intro o ho
    rcases List.mem_append.mp ho with z | z
    · exact hf o z
    · rw [List.mem_singleton.mp z]
      exact lows_map (f := fun j => D.int ((mvJ m j : Nat) : Int)) (fun _ => rfl) _
  generalize ((js.take i).map fun j => D.int ((mvJ m j : Nat) : Int)) = T at *
  generalize js.getD i [] = j at *
  have en : iEnu (lCons (eVar 5) lNil) M.length [some d0, some d1, some (.int (m : Int)), some (.ref M.length), w4, some (tpD j), w6, w7, w8, w9, w10, w11] (M ++ [.lst T]) = .ok ⟨(List.range m).map fun k => .tup [.int ((k : Nat) : Int), .int ((j.getD k 0 : Nat) : Int)], none⟩ (M ++ [.lst T]) := by
    have : lnD j = (List.range m).map fun k => .int ((j.getD k 0 : Nat) : Int) := by
      have e := ln_eqs (ln_len hj)
      unfold lnD
      conv => lhs; rw [e]
      rw [List.map_map]; rfl
    show Res.ok (Itm.mk (enuF 0 (lnD j)) none) _ = _
    rw [this, enu_range]
  have lc := lc_map (vs := [9, 11]) (n0 := M.length) (σ := [some d0, some d1, some (.int (m : Int)), some (.ref M.length), w4, some (tpD j), w6, w7, w8, w9, w10, w11]) (fi := iEnu (lCons (eVar 5) lNil)) (g := gLen 2 (gCons (gVar 9) (gCons (gVar 11) gNil))) (tt := tOf (eBin opNe (eVar 9) (eVar 11))) (te := eC (.int 1)) (M := M ++ [.lst T]) (M1 := M ++ [.lst T]) (List.range m) (fun k : Nat => .tup [.int ((k : Nat) : Int), .int ((j.getD k 0 : Nat) : Int)]) (fun _ : Nat => .int 1) (mvP j) en (by simp) fl (by simp; omega) (fun _ _ _ => rfl) fun k acc hk hfl => by
    refine ⟨[some d0, some d1, some (.int (m : Int)), some (.ref M.length), w4, some (tpD j), w6, w7, w8, some (.int ((k : Nat) : Int)), w10, some (.int ((j.getD k 0 : Nat) : Int))], rfl, ?_, fun _ => rfl⟩
    refine t_of (ev_bin (ev_var rfl) (ev_var rfl) ?_)
    rw [ne_int]
    unfold mvP
    by_cases z : k = j.getD k 0
    · rw [decide_eq_true z, decide_eq_true (by omega)]
    · rw [decide_eq_false z, decide_eq_false (by omega)]
  have ln := len_fz (M := M ++ [.lst T]) (((List.range m).filter (mvP j)).map fun _ : Nat => D.int 1)
  rw [List.length_map] at ln
  have ln : pLen.op [.fz (((List.range m).filter (mvP j)).map fun _ : Nat => D.int 1)] (M ++ [.lst T]) = .ok (.int ((mvJ m j : Nat) : Int)) (M ++ [.lst T]) := ln
  generalize (((List.range m).filter (mvP j)).map fun _ : Nat => D.int 1) = F at *
  simp -implicitDefEqProofs [turnF, JB, lc, ln, sz]
theorem cnt_df {m : Nat} {w : Nat → Nat} {M : Hep} {n : Nat} : mCnt n (.fz ((List.range m).map fun r => .bl (decide (w r = r)))) [.bl false] M = .ok (.int ((df m w fun k => k : Nat) : Int)) M := by
  have e1 : ((List.range m).map fun r => D.bl (decide (w r = r))).all flatB = true := by simp [flatB]
  have e2 : ((List.range m).map fun r => D.bl (decide (w r = r))).countP (fun z => eqF z (.bl false)) = df m w fun k => k := by
    rw [List.countP_map, List.countP_eq_length_filter, filter_sum]
    unfold df
    refine sum_congr fun k _ => ?_
    by_cases z : w k = k
    · simp [eqF, z]
    · simp [eqF, z]
  unfold mCnt
  simp only [lst?]
  rw [e1, e2]
  rfl
theorem sum_ref {q : Nat} {ks : List Nat} {M : Hep} (h : M[q]? = some (.lst (ks.map fun k => .int ((k : Nat) : Int)))) : pSum.op [.ref q] M = .ok (.int ((ks.sum : Nat) : Int)) M := by
  have := sum_nats (xs := ks) (f := fun k => k) (M := M)
  rw [List.map_id'] at this
  simp only [PL.op, pSum, lst?, h] at this ⊢
  exact this
theorem right_ok {m l : Nat} {r : List Cut} {M : Hep} (hf : Flat M) (h1 : 1 ≤ m) (h2 : m ≤ 5) (h3 : 1 ≤ l) (h4 : l ≤ 12) (hg : ∀ c ∈ r, CutOk m l c) : F__law_right [frD m l, effD (doesT m l r)] M = .ok (.bl true) M := by
  have he := does_eff (m := m) (l := l) hg
  have jk := joinT_ok he
  have w0 : ∀ k, k < m → wOf (doesT m l r) k 0 = lineF r 0 k := fun k hk => wOf_does (by omega) hk
  have q1 := many_row (m := m) (r := r) h3
  have q2 := moved_rest (m := m) h3 hg
  have q3 := moved_first (m := m) h3 hg
  have q4 := moved_few (m := m) (l := l) h2 hg
  have few : ∀ M : Hep, Flat M → F_fewest [frD m l, effD (doesT m l r)] M = .ok (.int ((fewR m l r : Nat) : Int)) M := fun M hf => fewest_ok hf h1 h2 h3 h4 he
  unfold movedT at q2 q3 q4
  generalize fewR m l r = fr at *
  generalize turnsR m l r = tr at *
  generalize doesT m l r = e at *
  have hf1 : Flat (M ++ [.lst []]) := by
    intro o ho
    rcases List.mem_append.mp ho with z | z
    · exact hf o z
    · rw [List.mem_singleton.mp z]; rfl
  have lots := fun w4 w5 w6 w7 w8 w9 w10 w11 => lc_all (vs := [9]) (n0 := M.length) (σ := [some (frD m l), some (effD e), some (.int (m : Int)), some (.ref M.length), w4, w5, w6, w7, w8, w9, w10, w11]) (fi := iRng (lCons (eVar 2) lNil)) (g := DL.gVar 9) (te := eApp PS.F_pieces (lCons (eVar 0) (lCons (eVar 1) (lCons (eVar 9) lNil)))) (M := M ++ [.lst []]) (M1 := M ++ [.lst []]) (List.range m) (fun a : Nat => .int (a : Int)) (fun a : Nat => rowD (toldT (wOf e a) l)) (SK.rng_nat (l := m) (ls_cons (ev_var rfl) ls_nil) (by omega)) (by simp) hf1 (by simp; omega) (fun _ _ => low_rowD _) fun a acc ha hfl =>
    ⟨[some (frD m l), some (effD e), some (.int (m : Int)), some (.ref M.length), w4, w5, w6, w7, w8, some (.int (a : Int)), w10, w11], rfl, ev_app3 (ev_var rfl) (ev_var rfl) (ev_var rfl) (pieces_ok hfl h1 h2 h3 h4 he (List.mem_range.mp ha))⟩
  have enL : ∀ (w5 w6 w7 w8 w9 w10 w11 : Option D) (M2 : Hep), iEnu (lCons (eVar 4) lNil) M.length [some (frD m l), some (effD e), some (.int (m : Int)), some (.ref M.length), some (.fz ((List.range m).map fun r => rowD (toldT (wOf e r) l))), w5, w6, w7, w8, w9, w10, w11] M2 = .ok ⟨(List.range m).map fun k => .tup [.int ((k : Nat) : Int), rowD (toldT (wOf e k) l)], none⟩ M2 := fun _ _ _ _ _ _ _ _ => by
    show Res.ok (Itm.mk (enuF 0 ((List.range m).map fun r => rowD (toldT (wOf e r) l))) none) _ = _
    rw [enu_range]
  have alls := fun w5 w6 w7 w8 w9 w10 w11 => lc_all (vs := [9, 10]) (n0 := M.length) (σ := [some (frD m l), some (effD e), some (.int (m : Int)), some (.ref M.length), some (.fz ((List.range m).map fun r => rowD (toldT (wOf e r) l))), w5, w6, w7, w8, w9, w10, w11]) (fi := iEnu (lCons (eVar 4) lNil)) (g := gLen 2 (gCons (gVar 9) (gCons (gVar 10) gNil))) (te := eApp F__law_side_by_side (lCons (eVar 1) (lCons (eVar 9) (lCons (eVar 10) lNil)))) (M := M ++ [.lst []]) (M1 := M ++ [.lst []]) (List.range m) (fun k : Nat => .tup [.int ((k : Nat) : Int), rowD (toldT (wOf e k) l)]) (fun _ : Nat => .bl true) (enL w5 w6 w7 w8 w9 w10 w11 _) (by simp) hf1 (by simp; omega) (fun _ _ => rfl) fun a acc ha hfl =>
    ⟨[some (frD m l), some (effD e), some (.int (m : Int)), some (.ref M.length), some (.fz ((List.range m).map fun r => rowD (toldT (wOf e r) l))), w5, w6, w7, w8, some (.int (a : Int)), some (rowD (toldT (wOf e a) l)), w11], rfl, ev_app3 (ev_var rfl) (ev_var rfl) (ev_var rfl) (side_ok hfl h2 h3 h4 he (List.mem_range.mp ha))⟩
  have allt : pAll.op [.fz ((List.range m).map fun _ => D.bl true)] (M ++ [.lst []]) = .ok (.bl true) (M ++ [.lst []]) := by
    have := all_fz (f := fun _ : Nat => true) (xs := List.range m) (M := M ++ [.lst []])
    rw [this]; simp
  have jo := joints_ok (M := M ++ [.lst []]) hf1 h1 h2 h3 h4 he
  have jl : (joinT m e).length = l := jk.1
  have jk2 := jk.2
  generalize joinT m e = js at *
  obtain ⟨σ', M', eL, w5, rfl, rfl⟩ := for_inv (g := DL.gVar 5) (b := JB) (n1 := M.length + 1) (n0 := M.length) (fun i σ M' => ∃ w5, σ = [some (frD m l), some (effD e), some (.int (m : Int)), some (.ref M.length), some (.fz ((List.range m).map fun r => rowD (toldT (wOf e r) l))), w5, none, none, none, none, none, none] ∧ M' = M ++ [(.lst ((js.take (i)).map fun j => .int ((mvJ m j : Nat) : Int)))]) (js.map tpD) (js.map tpD) 0 [some (frD m l), some (effD e), some (.int (m : Int)), some (.ref M.length), some (.fz ((List.range m).map fun r => rowD (toldT (wOf e r) l))), none, none, none, none, none, none, none] (M ++ [.lst []]) ⟨none, rfl, rfl⟩ (by
    rintro i d σ M' hd ⟨w5, rfl, rfl⟩
    rw [show 0 + i = i by omega]
    have hi : i < js.length := by
      by_cases z : i < js.length
      · exact z
      · rw [List.getElem?_eq_none (by rw [List.length_map]; omega)] at hd; cases hd
    rw [List.getElem?_map, get_D (x := []) hi] at hd
    cases hd
    exact ⟨_, _, jturn hf h2 (by omega) hi (jk2 _ (List.mem_of_getElem? (get_D (x := []) hi))), _, rfl, rfl⟩)
  rw [List.length_map, Nat.zero_add, List.take_length] at eL
  have mvm : js.map (fun j => D.int ((mvJ m j : Nat) : Int)) = (js.map (mvJ m)).map fun k => .int ((k : Nat) : Int) := by rw [List.map_map]; rfl
  rw [mvm] at eL
  have kl : (js.map (mvJ m)).length = l := by rw [List.length_map, jl]
  generalize js.map (mvJ m) = ks at *
  have at1 : (M ++ [Ob.lst (ks.map fun k => .int ((k : Nat) : Int))])[M.length]? = some (.lst (ks.map fun k => .int ((k : Nat) : Int))) := by simp
  have hf2 : Flat (M ++ [.lst (ks.map fun k => .int ((k : Nat) : Int))]) := by
    intro o ho
    rcases List.mem_append.mp ho with z | z
    · exact hf o z
    · rw [List.mem_singleton.mp z]
      exact lows_map (f := fun k => D.int ((k : Nat) : Int)) (fun _ => rfl) _
  have l2 : (M ++ [Ob.lst (ks.map fun k => .int ((k : Nat) : Int))]).take M.length = M := by simp
  have n2 : M.length ≤ (M ++ [Ob.lst (ks.map fun k => .int ((k : Nat) : Int))]).length := by simp
  generalize hM2 : M ++ [Ob.lst (ks.map fun k => .int ((k : Nat) : Int))] = M2 at *
  have lens := fun w5 w6 w7 w8 w9 w10 w11 => lc_all (vs := [10]) (n0 := M.length) (σ := [some (frD m l), some (effD e), some (.int (m : Int)), some (.ref M.length), some (.fz ((List.range m).map fun r => rowD (toldT (wOf e r) l))), w5, w6, w7, w8, w9, w10, w11]) (fi := iSeq (eVar 4)) (g := DL.gVar 10) (te := eApp pLen.op (lCons (eVar 10) lNil)) (M := M2) (M1 := M2) (List.range m) (fun k : Nat => rowD (toldT (wOf e k) l)) (fun k : Nat => .int (((toldT (wOf e k) l).length : Nat) : Int)) rfl n2 hf2 (by simp; omega) (fun _ _ => rfl) fun a acc ha hfl => by
    refine ⟨[some (frD m l), some (effD e), some (.int (m : Int)), some (.ref M.length), some (.fz ((List.range m).map fun r => rowD (toldT (wOf e r) l))), w5, w6, w7, w8, w9, some (rowD (toldT (wOf e a) l)), w11], rfl, ?_⟩
    have ln := len_tup (M := M2 ++ [.lst acc]) ((toldT (wOf e a) l).map LW.cutD)
    rw [List.length_map] at ln
    exact ev_app1 (ev_var rfl) ln
  have sm := sum_nats (xs := List.range m) (f := fun a => (toldT (wOf e a) l).length) (M := M2)
  have sm' : pSum.op [.fz ((List.range m).map fun r => .int (((toldT (wOf e r) l).length : Nat) : Int))] M2 = .ok (.int (manyT m l e : Int)) M2 := sm
  have hm := how_many_pieces_ok (M := M2) hf2 h1 h2 h3 h4 he
  have fw := few M2 hf2
  have sl : opSl false (.ref M.length) (some 1) none M2 = .ok (.fz ((ks.drop 1).map fun k => .int ((k : Nat) : Int))) M2 := by
    unfold opSl
    simp only [lst?, at1]
    rw [cut_from (i := 1) _ (by omega), r_mkfz (by rw [List.length_drop, List.length_map]; exact small_line (by omega)), List.map_drop]; rfl
  have sd := sum_nats (xs := ks.drop 1) (f := fun k => k) (M := M2)
  rw [List.map_id', q2] at sd
  have sa := sum_ref at1
  have i0 : opIx (.ref M.length) (.int 0) M2 = .ok (.int ((df m (lineF r 0) fun k => k : Nat) : Int)) M2 := ix_ref (k := 0) at1 (by rw [List.getElem?_map, q3]; rfl)
  have first := fun w5 w6 w7 w8 w9 w10 w11 => lc_all (vs := [9, 10]) (n0 := M.length) (σ := [some (frD m l), some (effD e), some (.int (m : Int)), some (.ref M.length), some (.fz ((List.range m).map fun r => rowD (toldT (wOf e r) l))), w5, w6, w7, w8, w9, w10, w11]) (fi := iEnu (lCons (eVar 4) lNil)) (g := gLen 2 (gCons (gVar 9) (gCons (gVar 10) gNil))) (te := eBin opEq (eBin opIx (eBin opIx (eVar 10) (eC (.int 0))) (eC (.int 0))) (eVar 9)) (M := M2) (M1 := M2) (List.range m) (fun k : Nat => .tup [.int ((k : Nat) : Int), rowD (toldT (wOf e k) l)]) (fun k : Nat => .bl (decide (lineF r 0 k = k))) (enL w5 w6 w7 w8 w9 w10 w11 _) n2 hf2 (by simp; omega) (fun _ _ => rfl) fun a acc ha hfl => by
    have ha := List.mem_range.mp ha
    refine ⟨[some (frD m l), some (effD e), some (.int (m : Int)), some (.ref M.length), some (.fz ((List.range m).map fun r => rowD (toldT (wOf e r) l))), w5, w6, w7, w8, some (.int (a : Int)), some (rowD (toldT (wOf e a) l)), w11], rfl, ?_⟩
    have hd : ∃ c, (toldT (wOf e a) l)[0]? = some c ∧ c.1 = lineF r 0 a := by
      have tl := toldT_til (wOf e a) h3
      generalize toldT (wOf e a) l = cs at *
      match cs, tl with
      | [], tl => have : 0 = l := tl; omega
      | c :: cs, tl => exact ⟨c, rfl, by rw [← w0 a ha]; exact (tl.2.2.1 0 (Nat.le_refl _) (Nat.zero_le _)).symm⟩
    obtain ⟨c, hc, c1⟩ := hd
    have ix : opIx (rowD (toldT (wOf e a) l)) (.int 0) (M2 ++ [.lst acc]) = .ok (LW.cutD c) (M2 ++ [.lst acc]) := ix_tup (k := 0) (by rw [List.getElem?_map, hc]; rfl)
    refine ev_bin (ev_bin (ev_bin (ev_var rfl) ev_c ix) ev_c LX.cut_0) (ev_var rfl) ?_
    rw [eq_int, c1]
    by_cases z : lineF r 0 a = a
    · rw [decide_eq_true z, decide_eq_true (by omega)]
    · rw [decide_eq_false z, decide_eq_false (by omega)]
  have ct := cnt_df (m := m) (w := lineF r 0) (M := M2) (n := M.length)
  have isl : isLst (.fz ((List.range m).map fun r_1 => .bl (decide (lineF r 0 r_1 = r_1)))) M2 = true := rfl
  have itm : itmOf (effD js) (M ++ [Ob.lst []]) = some ⟨js.map tpD, none⟩ := rfl
  have ml : (M ++ [Ob.lst []]).length = M.length + 1 := by simp
  have mul : opMul false (.int 2) (.int (fr : Int)) M2 = .ok (.int ((2 * fr : Nat) : Int)) M2 := by
    rw [mul_int _ (by rw [mulFits, small_const (i := 2) (by omega) (by omega), Bool.true_or])]
    simp
  have le1 : decide (fr ≤ ks.sum) = true := decide_eq_true q4.1
  have le2 : decide (ks.sum ≤ 2 * fr) = true := decide_eq_true q4.2
  have le1' : opLe (.int (fr : Int)) (.int ((ks.sum : Nat) : Int)) M2 = .ok (.bl true) M2 := by
    show Res.ok (D.bl (decide ((fr : Int) ≤ ((ks.sum : Nat) : Int)))) M2 = _
    rw [decide_eq_true (by omega)]
  have le2' : opLe (.int ((ks.sum : Nat) : Int)) (.int ((2 * fr : Nat) : Int)) M2 = .ok (.bl true) M2 := by
    show Res.ok (D.bl (decide (((ks.sum : Nat) : Int) ≤ ((2 * fr : Nat) : Int)))) M2 = _
    rw [decide_eq_true (by omega)]
  have ad : (m : Int) + (tr : Int) = ((m + tr : Nat) : Int) := by omega
  rw [q1] at sm' hm
  unfold JB at eL
  have nz : (Ob.lst ([] : List D)) = Ob.lst [] := rfl
  generalize manyT m l e = mt at *
  refine run_eq rfl ?_
  generalize ks.sum = su at *
  generalize (df m (lineF r 0) fun k => k) = dd at *
  generalize ks.drop 1 = kd at *
  simp -implicitDefEqProofs [-List.map_map, -Int.natCast_add, -Int.natCast_mul, -r_glen, -r_isl, B__law_right, lots, alls, allt, jo, itm, ml, eL, lens, sm', hm, sl, sd, ad, sa, fw, first, ct, isl, i0, le1', mul, le2', l2]
end K78

namespace K78
open DL LW PR PS
open LX (PenOb PenAt Drew)
def BL : SemS := (sSeq (sAsg (eApp F__law_frame (lCons (eVar 2) lNil)) (gVar 4)) (sSeq (sAsg (eVar 4) (gLen 2 (gCons (gVar 5) (gCons (gVar 6) gNil)))) (sSeq (sAsg (eApp F__law_row (lCons (eVar 2) (lCons (eVar 5) (lCons (eVar 6) (lCons (eC (.int 20)) lNil))))) (gVar 7)) (sSeq (sAsg (eApp PR.F_does (lCons (eVar 4) (lCons (eVar 7) lNil))) (gVar 8)) (sSeq (sIf (tOr (tNot (tOf (eApp F__law_right (lCons (eVar 4) (lCons (eVar 8) lNil))))) (tOf (eBin opNe (eApp PS.F_how_many_pieces (lCons (eVar 4) (lCons (eApp PR.F_does (lCons (eVar 4) (lCons (eApp mkTup lNil) lNil))) lNil))) (eVar 5)))) (sRet (eC (.bl false))) sNil) (sSeq (sIf (tOf (eBin opNe (eApp PS.F_how_many_pieces (lCons (eVar 4) (lCons (eApp PR.F_does (lCons (eVar 4) (lCons (eApp PR.F_undoing (lCons (eVar 4) (lCons (eVar 7) lNil))) lNil))) lNil))) (eApp PS.F_how_many_pieces (lCons (eVar 4) (lCons (eVar 8) lNil))))) (sRet (eC (.bl false))) sNil) (sFor (iSeq (eApp F__law_row (lCons (eVar 2) (lCons (eVar 5) (lCons (eVar 6) (lCons (eC (.int 3)) lNil)))))) (gVar 9) (sSeq (sAsg (eApp PR.F_does (lCons (eVar 4) (lCons (eBin (opAdd false) (eVar 7) (eApp mkTup (lCons (eVar 9) lNil))) lNil))) (gVar 10)) (sSeq (sIf (tNot (tOf (eApp F__law_right (lCons (eVar 4) (lCons (eVar 10) lNil))))) (sRet (eC (.bl false))) sNil) (sIf (tOf (eBin opNotIn (eApp pAbs.op (lCons (eBin opSub (eApp PS.F_how_many_pieces (lCons (eVar 4) (lCons (eVar 10) lNil))) (eApp PS.F_how_many_pieces (lCons (eVar 4) (lCons (eVar 8) lNil)))) lNil)) (eApp mkTup (lCons (eC (.int 0)) (lCons (eC (.int 1)) (lCons (eC (.int 2)) lNil)))))) (sRet (eC (.bl false))) sNil))))))))))
def CDB : SemS := (sSeq (sAsg (eApp PR.F_does (lCons (eVar 4) (lCons (eBin (opAdd false) (eVar 7) (eApp mkTup (lCons (eVar 9) lNil))) lNil))) (gVar 10)) (sSeq (sIf (tNot (tOf (eApp F__law_right (lCons (eVar 4) (lCons (eVar 10) lNil))))) (sRet (eC (.bl false))) sNil) (sIf (tOf (eBin opNotIn (eApp pAbs.op (lCons (eBin opSub (eApp PS.F_how_many_pieces (lCons (eVar 4) (lCons (eVar 10) lNil))) (eApp PS.F_how_many_pieces (lCons (eVar 4) (lCons (eVar 8) lNil)))) lNil)) (eApp mkTup (lCons (eC (.int 0)) (lCons (eC (.int 1)) (lCons (eC (.int 2)) lNil)))))) (sRet (eC (.bl false))) sNil)))
theorem notin {v : Int} (h : v = 0 ∨ v = 1 ∨ v = 2) (M : Hep) : opNotIn (.int v) (.tup [.int 0, .int 1, .int 2]) M = .ok (.bl false) M := by
  rcases h with rfl | rfl | rfl <;> rfl
theorem cdturn {m l : Nat} {r : List Cut} {c : Cut} {M : Hep} {a0 a1 a3 w9 w10 : Option D} (hf : Flat M) (h1 : 1 ≤ m) (h2 : m ≤ 5) (h3 : 1 ≤ l) (h4 : l ≤ 12) (hr : r.length < 400) (hg : ∀ c ∈ r, CutOk m l c) (hc : CutOk m l c) :
    ∃ w10', turnF (DL.gVar 9) CDB M.length 0 (LW.cutD c) [a0, a1, some (.ref 0), a3, some (frD m l), some (.int (m : Int)), some (.int (l : Int)), some (rowD r), some (effD (doesT m l r)), w9, w10] M = .ok [a0, a1, some (.ref 0), a3, some (frD m l), some (.int (m : Int)), some (.int (l : Int)), some (rowD r), some (effD (doesT m l r)), some (LW.cutD c), w10'] M := by
  have ok1 := app_ok hg (s := [c]) fun x hx => by rw [List.mem_singleton.mp hx]; exact hc
  have d1 := does_T (M := M) hf h1 h2 h3 h4 (by rw [List.length_append]; simp; omega) ok1
  have ri := right_ok (M := M) hf h1 h2 h3 h4 ok1
  have a1' : opAdd false (rowD r) (.tup [LW.cutD c]) M = .ok (rowD (r ++ [c])) M := row_add (s := [c]) (by simp; omega)
  have m1 := how_many_pieces_ok (M := M) hf h1 h2 h3 h4 (does_eff ok1)
  have m0 := how_many_pieces_ok (M := M) hf h1 h2 h3 h4 (does_eff hg)
  rw [many_row h3] at m1 m0
  have sn := turns_snoc (r := r) hc
  generalize hx : turnsR m l (r ++ [c]) = x at *
  generalize hy : turnsR m l r = y at *
  refine ⟨some (effD (doesT m l (r ++ [c]))), ?_⟩
  have ab : pAbs.op [.int (((m + x : Nat) : Int) - ((m + y : Nat) : Int))] M = .ok (.int (if ((m + x : Nat) : Int) - ((m + y : Nat) : Int) < 0 then -(((m + x : Nat) : Int) - ((m + y : Nat) : Int)) else ((m + x : Nat) : Int) - ((m + y : Nat) : Int))) M := rfl
  have ni := notin (v := if ((m + x : Nat) : Int) - ((m + y : Nat) : Int) < 0 then -(((m + x : Nat) : Int) - ((m + y : Nat) : Int)) else ((m + x : Nat) : Int) - ((m + y : Nat) : Int)) (by split <;> omega) M
  generalize (if ((m + x : Nat) : Int) - ((m + y : Nat) : Int) < 0 then -(((m + x : Nat) : Int) - ((m + y : Nat) : Int)) else ((m + x : Nat) : Int) - ((m + y : Nat) : Int)) = z at *
  simp -implicitDefEqProofs [-Int.natCast_add, turnF, CDB, a1', d1, ri, m1, m0, ab, ni]
theorem bl_ok {N : Nat} {M : Hep} {a0 a1 a3 w4 w5 w6 w7 w8 w9 w10 : Option D} (hN : N < 100000) (hp : PenAt N 0 M) (hf : Flat M) (hM : M.length = 1) :
    ∃ w4' w5' w6' w7' w8' w9' w10' M', BL 0 [a0, a1, some (.ref 0), a3, w4, w5, w6, w7, w8, w9, w10] M = .ok (.nx, [a0, a1, some (.ref 0), a3, w4', w5', w6', w7', w8', w9', w10']) M' ∧ Drew (N + 204) 0 M M' := by
  obtain ⟨m, l, M1, e1, m1, m2, l1, l2, d1⟩ := frame_ok hp (by omega)
  have p1 := d1.pen hp
  have f1 := d1.flat hf
  obtain ⟨r, M2, e2, d2, hg, hr⟩ := row_ok (m := m) (l := l) (most := 20) p1 (by omega) f1 m2 l2 (by omega)
  have p2 := d2.pen p1
  have f2 := d2.flat f1
  obtain ⟨s, M3, e3, d3, hgs, hrs⟩ := row_ok (m := m) (l := l) (most := 3) p2 (by omega) f2 m2 l2 (by omega)
  have f3 := d3.flat f2
  have d13 := (d1.trans d2).trans d3
  have l13 := d13.len
  have dT := does_T (M := M2) f2 m1 m2 l1 l2 (by omega) hg
  have dN : F_does [frD m l, .tup []] M2 = .ok (effD (doesT m l [])) M2 := does_T (r := []) (M := M2) f2 m1 m2 l1 l2 (by simp) (fun c hc => by cases hc)
  have un := undoing_ok (M := M2) f2 m1 m2 l1 l2 (by omega : r.length < 1000) hg
  have dR := does_T (M := M2) f2 m1 m2 l1 l2 (by rw [List.length_reverse]; omega) (rev_ok hg)
  have ri := right_ok (M := M2) f2 m1 m2 l1 l2 hg
  have hT := how_many_pieces_ok (M := M2) f2 m1 m2 l1 l2 (does_eff hg)
  have hN := how_many_pieces_ok (M := M2) (m := m) (l := l) f2 m1 m2 l1 l2 (does_eff (r := []) (fun c hc => by cases hc))
  have hR := how_many_pieces_ok (M := M2) f2 m1 m2 l1 l2 (does_eff (rev_ok hg))
  rw [many_row l1] at hT hN hR
  rw [turns_nil] at hN
  rw [turns_rev hg] at hR
  obtain ⟨σ', M', eL, rfl, w9', w10', rfl⟩ := for_inv (g := DL.gVar 9) (b := CDB) (n1 := M3.length) (n0 := 0) (fun i σ M' => M' = M3 ∧ ∃ w9 w10, σ = [a0, a1, some (.ref 0), a3, some (frD m l), some (.int (m : Int)), some (.int (l : Int)), some (rowD r), some (effD (doesT m l r)), w9, w10]) (s.map LW.cutD) (s.map LW.cutD) 0 [a0, a1, some (.ref 0), a3, some (frD m l), some (.int (m : Int)), some (.int (l : Int)), some (rowD r), some (effD (doesT m l r)), w9, w10] M3 ⟨rfl, w9, w10, rfl⟩ (by
    rintro i d σ M' hd ⟨rfl, w9, w10, rfl⟩
    rw [List.getElem?_map] at hd
    obtain ⟨c, hc, rfl⟩ := Option.map_eq_some_iff.mp hd
    obtain ⟨x10, e⟩ := cdturn (a0 := a0) (a1 := a1) (a3 := a3) (w9 := w9) (w10 := w10) f3 m1 m2 l1 l2 (by omega) hg (hgs c (List.mem_of_getElem? hc))
    exact ⟨_, _, e, rfl, _, _, rfl⟩)
  refine ⟨some (frD m l), some (.int (m : Int)), some (.int (l : Int)), some (rowD r), some (effD (doesT m l r)), w9', w10', M', ?_, d13.mono (by omega)⟩
  have e2' : F__law_row [.ref 0, .int (m : Int), .int (l : Int), .int 20] M1 = .ok (rowD r) M2 := e2
  have e3' : F__law_row [.ref 0, .int (m : Int), .int (l : Int), .int 3] M2 = .ok (rowD s) M' := e3
  have g2 : gLen 2 (DL.gCons (DL.gVar 5) (DL.gCons (DL.gVar 6) DL.gNil)) 0 (frD m l) [a0, a1, some (.ref 0), a3, some (frD m l), w5, w6, w7, w8, w9, w10] M1 = .ok [a0, a1, some (.ref 0), a3, some (frD m l), some (.int (m : Int)), some (.int (l : Int)), w7, w8, w9, w10] M1 := rfl
  have it : itmOf (rowD s) M' = some ⟨s.map LW.cutD, none⟩ := rfl
  unfold CDB at eL
  generalize turnsR m l r = t at *
  simp -implicitDefEqProofs [-Int.natCast_add, -r_glen, BL, e1, g2, e2', dT, ri, dN, hN, un, dR, hR, hT, e3', it, eL]
theorem law_true (ns : List Int) (hn : ns.length ≤ 63) : ∃ M, F_law [.ro (ns.map .int)] [] = .ok (.bl true) M := by
  have H := SK.law_pens (N := 8) (cap := 4) (PO := PenOb 0) ns (by omega) (fun k M => LW.cell_ok ns k M) (fun c => LX.pen_new c []) (REST := sFor (iRng (lCons (eC (.int 2)) lNil)) (DL.gVar 3) BL) (by
    intro ob k ws hob hw
    match ws, hw with
    | [w3, w4, w5, w6, w7, w8, w9, w10], _ =>
      have hf : Flat [ob] := by
        obtain ⟨a, b, c, rfl, _⟩ := hob
        intro o ho
        rw [List.mem_singleton.mp ho]; rfl
      have hp : PenAt 0 0 [ob] := ⟨ob, rfl, hob⟩
      obtain ⟨σ', M', e, d, w3', w4', w5', w6', w7', w8', w9', w10', rfl⟩ := for_inv (g := DL.gVar 3) (b := BL) (n1 := 1) (n0 := 0) (fun i σ M' => Drew (i * 204) 0 [ob] M' ∧ ∃ w3 w4 w5 w6 w7 w8 w9 w10, σ = [some (.ro (ns.map .int)), some (.int (k : Int)), some (.ref 0), w3, w4, w5, w6, w7, w8, w9, w10]) (natsD 2) (natsD 2) 0 _ [ob] ⟨hp.refl, w3, w4, w5, w6, w7, w8, w9, w10, rfl⟩ (by
        rintro i d σ M' hd ⟨dr, w3, w4, w5, w6, w7, w8, w9, w10, rfl⟩
        obtain ⟨hi, rfl⟩ := LX.nats_get hd
        obtain ⟨x4, x5, x6, x7, x8, x9, x10, M2, e, d2⟩ := bl_ok (a0 := some (.ro (ns.map .int))) (a1 := some (.int (k : Int))) (a3 := some (.int (i : Int))) (w4 := w4) (w5 := w5) (w6 := w6) (w7 := w7) (w8 := w8) (w9 := w9) (w10 := w10) (by omega) (dr.pen hp) (dr.flat hf) (by rw [dr.len]; rfl)
        have hl : M2.length ≤ 1 := by rw [d2.len, dr.len]; exact Nat.le_refl _
        refine ⟨_, M2, ?_, (dr.trans d2).mono (by omega), some (.int (i : Int)), x4, x5, x6, x7, x8, x9, x10, rfl⟩
        simp -implicitDefEqProofs [turnF, e, hl])
      refine ⟨some (.int (k : Int)), some (.ref 0), [w3', w4', w5', w6', w7', w8', w9', w10'], M', ?_, rfl, by rw [d.len]; simp⟩
      have rg : ∀ σ : Sl, iRng (lCons (eC (.int 2)) lNil) 0 σ [ob] = .ok ⟨natsD 2, none⟩ [ob] := fun σ => SK.rng_nat (l := 2) (ls_cons ev_c ls_nil) (by decide)
      rw [r_for, rg, Res.bind_ok]
      exact e)
  rw [← SK.minA_app] at H
  exact H
end K78

open PySem PySem.W PyProof.Rows in
set_option maxRecDepth 100000 in
set_option maxHeartbeats 0 in
theorem PySem.Challenge.cw_tailswap_k78_whole_pieces_and_joints_holds : PySem.Challenge.rw_tailswap_k78_whole_pieces_and_joints.Holds := by
  w_on; o_law; k_head; (case hw => w_witness2)
  k_fill
  refine DL.walkG (l := PySem.Challenge.rw_tailswap_k78_whole_pieces_and_joints) (k := 32) (x := "_law_script") ⟨rfl, by decide, by decide⟩ rfl rfl (fun w h Y => PySem.W.kIn_of Y) ?F
  case F =>
    intro w mg fa h KX Gh hmg
    refine' K78.core KX Gh hmg (DL.fnAt_mk KX Gh ?a0 ?l0 ?c0 ?k0 K78.h_is_whole) (DL.fnAt_mk KX Gh ?a1 ?l1 ?c1 ?k1 K78.h_is_whole_from) (DL.fnAt_mk KX Gh ?a2 ?l2 ?c2 ?k2 K78.h_is_frame) (DL.fnAt_mk KX Gh ?a3 ?l3 ?c3 ?k3 K78.h_need_frame) (DL.fnAt_mk KX Gh ?a4 ?l4 ?c4 ?k4 K78.h_need_ribbon) (DL.fnAt_mk KX Gh ?a5 ?l5 ?c5 ?k5 K78.h_is_cut) (DL.fnAt_mk KX Gh ?a6 ?l6 ?c6 ?k6 K78.h_is_row) (DL.fnAt_mk KX Gh ?a7 ?l7 ?c7 ?k7 K78.h_need_row) (DL.fnAt_mk KX Gh ?a8 ?l8 ?c8 ?k8 K78.h__line_behind) (DL.fnAt_mk KX Gh ?a9 ?l9 ?c9 ?k9 K78.h_does) (DL.fnAt_mk KX Gh ?a10 ?l10 ?c10 ?k10 K78.h_is_line) (DL.fnAt_mk KX Gh ?a11 ?l11 ?c11 ?k11 K78.h_is_effect) (DL.fnAt_mk KX Gh ?a12 ?l12 ?c12 ?k12 K78.h_need_effect) (DL.fnAt_mk KX Gh ?a13 ?l13 ?c13 ?k13 K78.h_undoing) (DL.fnAt_mk KX Gh ?a14 ?l14 ?c14 ?k14 K78.h_pieces) (DL.fnAt_mk KX Gh ?a15 ?l15 ?c15 ?k15 K78.h_how_many_pieces) (DL.fnAt_mk KX Gh ?a16 ?l16 ?c16 ?k16 K78.h__joint) (DL.fnAt_mk KX Gh ?a17 ?l17 ?c17 ?k17 K78.h_joints) (DL.fnAt_mk KX Gh ?a18 ?l18 ?c18 ?k18 K78.h_round_with) (DL.fnAt_mk KX Gh ?a19 ?l19 ?c19 ?k19 K78.h_rounds_of) (DL.fnAt_mk KX Gh ?a20 ?l20 ?c20 ?k20 K78.h_exchanges_in) (DL.fnAt_mk KX Gh ?a21 ?l21 ?c21 ?k21 K78.h_fewest) (DL.fnAt_mk KX Gh ?a22 ?l22 ?c22 ?k22 K78.h__law_cell_at) (DL.fnAt_mk KX Gh ?a23 ?l23 ?c23 ?k23 K78.h__law_pen) (DL.fnAt_mk KX Gh ?a24 ?l24 ?c24 ?k24 K78.h__law_draw) (DL.fnAt_mk KX Gh ?a25 ?l25 ?c25 ?k25 K78.h__law_pick) (DL.fnAt_mk KX Gh ?a26 ?l26 ?c26 ?k26 K78.h__law_frame) (DL.fnAt_mk KX Gh ?a27 ?l27 ?c27 ?k27 K78.h__law_cuts) (DL.fnAt_mk KX Gh ?a28 ?l28 ?c28 ?k28 K78.h__law_row) (DL.fnAt_mk KX Gh ?a29 ?l29 ?c29 ?k29 K78.h__law_side_by_side) (DL.fnAt_mk KX Gh ?a30 ?l30 ?c30 ?k30 K78.h__law_right) (DL.fnAt_mk KX Gh ?a31 ?l31 ?c31 ?k31 K78.h_law) ?xa0 ?xb0 ?xc0 ?xd0 ?xe0 ?xa1 ?xb1 ?xc1 ?xd1 ?xe1 ?xa2 ?xb2 ?xc2 ?xd2 ?xe2 ?xa3 ?xb3 ?xc3 ?xd3 ?xe3 ?m0 ?m1 ?b0 ?b1 ?b2 ?b3 ?b4 ?b5 ?b6 ?b7 ?b8 ?b9 ?b10 ?b11 ?b12 ?b13 ?b14 K78.law_true
    (case a0 => k_is)
    (case l0 => k_is)
    (case c0 => k_is)
    (case k0 => k_is)
    (case a1 => k_is)
    (case l1 => k_is)
    (case c1 => k_is)
    (case k1 => k_is)
    (case a2 => k_is)
    (case l2 => k_is)
    (case c2 => k_is)
    (case k2 => k_is)
    (case a3 => k_is)
    (case l3 => k_is)
    (case c3 => k_is)
    (case k3 => k_is)
    (case a4 => k_is)
    (case l4 => k_is)
    (case c4 => k_is)
    (case k4 => k_is)
    (case a5 => k_is)
    (case l5 => k_is)
    (case c5 => k_is)
    (case k5 => k_is)
    (case a6 => k_is)
    (case l6 => k_is)
    (case c6 => k_is)
    (case k6 => k_is)
    (case a7 => k_is)
    (case l7 => k_is)
    (case c7 => k_is)
    (case k7 => k_is)
    (case a8 => k_is)
    (case l8 => k_is)
    (case c8 => k_is)
    (case k8 => k_is)
    (case a9 => k_is)
    (case l9 => k_is)
    (case c9 => k_is)
    (case k9 => k_is)
    (case a10 => k_is)
    (case l10 => k_is)
    (case c10 => k_is)
    (case k10 => k_is)
    (case a11 => k_is)
    (case l11 => k_is)
    (case c11 => k_is)
    (case k11 => k_is)
    (case a12 => k_is)
    (case l12 => k_is)
    (case c12 => k_is)
    (case k12 => k_is)
    (case a13 => k_is)
    (case l13 => k_is)
    (case c13 => k_is)
    (case k13 => k_is)
    (case a14 => k_is)
    (case l14 => k_is)
    (case c14 => k_is)
    (case k14 => k_is)
    (case a15 => k_is)
    (case l15 => k_is)
    (case c15 => k_is)
    (case k15 => k_is)
    (case a16 => k_is)
    (case l16 => k_is)
    (case c16 => k_is)
    (case k16 => k_is)
    (case a17 => k_is)
    (case l17 => k_is)
    (case c17 => k_is)
    (case k17 => k_is)
    (case a18 => k_is)
    (case l18 => k_is)
    (case c18 => k_is)
    (case k18 => k_is)
    (case a19 => k_is)
    (case l19 => k_is)
    (case c19 => k_is)
    (case k19 => k_is)
    (case a20 => k_is)
    (case l20 => k_is)
    (case c20 => k_is)
    (case k20 => k_is)
    (case a21 => k_is)
    (case l21 => k_is)
    (case c21 => k_is)
    (case k21 => k_is)
    (case a22 => k_is)
    (case l22 => k_is)
    (case c22 => k_is)
    (case k22 => k_is)
    (case a23 => k_is)
    (case l23 => k_is)
    (case c23 => k_is)
    (case k23 => k_is)
    (case a24 => k_is)
    (case l24 => k_is)
    (case c24 => k_is)
    (case k24 => k_is)
    (case a25 => k_is)
    (case l25 => k_is)
    (case c25 => k_is)
    (case k25 => k_is)
    (case a26 => k_is)
    (case l26 => k_is)
    (case c26 => k_is)
    (case k26 => k_is)
    (case a27 => k_is)
    (case l27 => k_is)
    (case c27 => k_is)
    (case k27 => k_is)
    (case a28 => k_is)
    (case l28 => k_is)
    (case c28 => k_is)
    (case k28 => k_is)
    (case a29 => k_is)
    (case l29 => k_is)
    (case c29 => k_is)
    (case k29 => k_is)
    (case a30 => k_is)
    (case l30 => k_is)
    (case c30 => k_is)
    (case k30 => k_is)
    (case a31 => k_is)
    (case l31 => k_is)
    (case c31 => k_is)
    (case k31 => k_is)
    (case xa0 => k_is)
    (case xb0 => kernel_rfl)
    (case xc0 => k_is)
    (case xd0 => k_is)
    (case xe0 => k_is)
    (case xa1 => k_is)
    (case xb1 => kernel_rfl)
    (case xc1 => k_is)
    (case xd1 => k_is)
    (case xe1 => k_is)
    (case xa2 => k_is)
    (case xb2 => kernel_rfl)
    (case xc2 => k_is)
    (case xd2 => k_is)
    (case xe2 => k_is)
    (case xa3 => k_is)
    (case xb3 => kernel_rfl)
    (case xc3 => k_is)
    (case xd3 => k_is)
    (case xe3 => k_is)
    (case m0 => k_is)
    (case m1 => k_is)
    (case b0 => k_is)
    (case b1 => k_is)
    (case b2 => k_is)
    (case b3 => k_is)
    (case b4 => k_is)
    (case b5 => k_is)
    (case b6 => k_is)
    (case b7 => k_is)
    (case b8 => k_is)
    (case b9 => k_is)
    (case b10 => k_is)
    (case b11 => k_is)
    (case b12 => k_is)
    (case b13 => k_is)
    (case b14 => k_is)

