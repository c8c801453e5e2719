import PyProof.Rows.All
import Wide.All
import OpenK.AllK
import Wide.FinOn
import HandS.ForMost
import HandS.Exc
import HandS.ExcOwn
import HandS.TryOnly
import HandS.IsInst
import HandS.Wide
import HandS.Gcd
import HandS.TupAny
import HandS.RaiseMore
import HandS.CallSlots
import HandS.WordsExc
import PyProof.ReprRoads
import HandS.List
import PyProof.EqKinds
import PyProof.FactsAll.subtypes_3
import PyProof.FactsAll.subtypes_4
import PyProof.FactsAll.dict_1
import HandS.DictComp
import KE.KEqDict
import HandS.Defaults
import PyProof.RowDictHeap
import HandS.ExcIs
import HandS.Deep
import HandS.Zip
import HandS.More
import KE.DataFind
import HandS.Star
import HandS.Iter
import PyProof.EnumMake
import HandS.TupSets
import PyProof.MaxThree
import PyProof.SeqI3
import HandS.Words
import HandS.HeadHook2
import PyProof.ReprLen
import PyProof.Rows.RegStrFacts
import PySem.Challenge.RW_wherewhen_k33_gap_lines_told
section
set_option Elab.async false
set_option linter.all false
set_option autoImplicit false
set_option maxRecDepth 100000
namespace MI
open PySem L2
/-- a plain value: a tuple is its items, a list is the number of its cell, the script its ints -/
inductive D where
  | non | bl (b : Bool) | int (i : Int) | str (x : Str) | tup (l : List D) | ref (n : Nat) | scr (l : List Int) | opq | adr (a : Addr) | ty (n : String)
/-- a cell -/
inductive Cell where
  | lst (l : List D)
  | dct (l : List (L2.Key × D))
abbrev Hq := List Cell
/-- what is raised: the class by its name, what it keeps -/
structure Xn where
  cls : Str
  val : Option (Str × D) := none
inductive Rs (α : Type) where
  | ok (a : α) (h : Hq)
  | exc (x : Xn) (h : Hq)
  | no
namespace Rs
variable {α β γ : Type}
def bind (r : Rs α) (f : α → Hq → Rs β) : Rs β := match r with
  | ok a h => f a h
  | exc x h => exc x h
  | no => no
@[simp] theorem bind_ok (a : α) (h : Hq) (f : α → Hq → Rs β) : (ok a h).bind f = f a h := rfl
@[simp] theorem bind_exc (x : Xn) (h : Hq) (f : α → Hq → Rs β) : (exc x h : Rs α).bind f = exc x h := rfl
@[simp] theorem bind_no (f : α → Hq → Rs β) : (no : Rs α).bind f = no := rfl
end Rs
abbrev Fr := List (Option D)
/-- an expression's, a test's, an argument list's worth -/
abbrev Sx := Fr → Hq → Rs D
abbrev Sb := Fr → Hq → Rs Bool
abbrev Sa := Fr → Hq → Rs (List D)
/-- a def's -/
abbrev Sf := List D → Hq → Rs D
/-- the script's list, which nothing changes -/
def Scr (K : PySem.W.Frag) (H : Hp) (a : Addr) (l : List Int) : Prop :=
  (∃ o, H a = some (.frz o (.lst (l.map V.int)))) ∨
    ∃ (o : Obj) (its : Array Value) (n : Nat), K.lookup a = some o ∧ o.cls = .type "list" ∧ o.dict = none ∧ o.data = .seq its n ∧ its.size ≤ sizeLine ∧ Vals (l.map V.int) its.toList
theorem Scr.sq {K : PySem.W.Frag} {H : Hp} {a : Addr} {l : List Int} (h : Scr K H a l) : SqL K H a (l.map V.int) := by
  rcases h with ⟨o, h⟩ | h
  · exact .inl (.inr ⟨o, h⟩)
  · exact .inr h
mutual
inductive VR (K : PySem.W.Frag) (ι : List Addr) (H : Hp) : V → D → Prop
  | non : VR K ι H .non .non
  | bl (b : Bool) : VR K ι H (.bl b) (.bl b)
  | int (i : Int) : VR K ι H (.int i) (.int i)
  | str (x : Str) : VR K ι H (.str x) (.str x)
  | tup {a : Addr} {vs : List V} {l : List D} : H a = some (.tup vs) → VRs K ι H vs l → VR K ι H (.ref a) (.tup l)
  | ref {a : Addr} {n : Nat} : ι[n]? = some a → VR K ι H (.ref a) (.ref n)
  | scr {a : Addr} {l : List Int} : Scr K H a l → VR K ι H (.ref a) (.scr l)
  | opq (v : V) : VR K ι H v .opq
  | adr (a : Addr) : VR K ι H (.ref a) (.adr a)
  | ty (n : String) : VR K ι H (.ty n) (.ty n)
inductive VRs (K : PySem.W.Frag) (ι : List Addr) (H : Hp) : List V → List D → Prop
  | nil : VRs K ι H [] []
  | cons {v : V} {vs : List V} {d : D} {l : List D} : VR K ι H v d → VRs K ι H vs l → VRs K ι H (v :: vs) (d :: l)
end
/-- what grows: cells are added, what was tracked beside the cells stays -/
structure Ext (ι : List Addr) (H : Hp) (ι' : List Addr) (H' : Hp) : Prop where
  pre : ∃ t, ι' = ι ++ t ∧ ∀ a ∈ t, H a = none
  tups : ∀ a xs, H a = some (.tup xs) → H' a = some (.tup xs)
  frzs : ∀ a o u, H a = some (.frz o u) → H' a = some (.frz o u)
  keep : ∀ a o, H a = some o → a ∉ ι → H' a = some o
  live : ∀ a, H a ≠ none → H' a ≠ none
theorem Ext.refl (ι : List Addr) (H : Hp) : Ext ι H ι H := ⟨⟨[], by simp, fun a h => (nomatch h)⟩, fun _ _ h => h, fun _ _ _ h => h, fun _ _ h _ => h, fun _ h => h⟩
theorem Ext.get {ι ι' : List Addr} {H H' : Hp} (e : Ext ι H ι' H') {n : Nat} {a : Addr} (h : ι[n]? = some a) : ι'[n]? = some a := by
  obtain ⟨t, rfl, _⟩ := e.pre
  rw [List.getElem?_append_left (List.getElem?_eq_some_iff.mp h).1]
  exact h
theorem Ext.trans {ι ι1 ι2 : List Addr} {H H1 H2 : Hp} (e : Ext ι H ι1 H1) (f : Ext ι1 H1 ι2 H2) : Ext ι H ι2 H2 := by
  obtain ⟨t, rfl, ht⟩ := e.pre
  obtain ⟨u, rfl, hu⟩ := f.pre
  refine ⟨⟨t ++ u, by rw [List.append_assoc], fun a ha => ?_⟩, fun a xs h => f.tups a xs (e.tups a xs h), fun a o x h => f.frzs a o x (e.frzs a o x h), fun a o h n => ?_, fun a h => f.live a (e.live a h)⟩
  · rcases List.mem_append.mp ha with ha | ha
    · exact ht a ha
    · cases q : H a with
      | none => rfl
      | some o => exact absurd (hu a ha) (e.live a (by rw [q]; exact Option.some_ne_none o))
  · refine f.keep a o (e.keep a o h n) fun hm => ?_
    rcases List.mem_append.mp hm with hm | hm
    · exact n hm
    · rw [ht a hm] at h; cases h
theorem Scr.ext {K : PySem.W.Frag} {ι ι' : List Addr} {H H' : Hp} {a : Addr} {l : List Int} (h : Scr K H a l) (e : Ext ι H ι' H') : Scr K H' a l := by
  rcases h with ⟨o, h⟩ | h
  · exact .inl ⟨o, e.frzs _ _ _ h⟩
  · exact .inr h
mutual
theorem VR.ext {K : PySem.W.Frag} {ι ι' : List Addr} {H H' : Hp} (e : Ext ι H ι' H') : ∀ {v : V} {d : D}, VR K ι H v d → VR K ι' H' v d
  | _, _, .non => .non
  | _, _, .bl b => .bl b
  | _, _, .int i => .int i
  | _, _, .str x => .str x
  | _, _, .tup h r => .tup (e.tups _ _ h) (VRs.ext e r)
  | _, _, .ref h => .ref (e.get h)
  | _, _, .scr h => .scr (h.ext e)
  | _, _, .opq v => .opq v
  | _, _, .adr a => .adr a
  | _, _, .ty n => .ty n
theorem VRs.ext {K : PySem.W.Frag} {ι ι' : List Addr} {H H' : Hp} (e : Ext ι H ι' H') : ∀ {vs : List V} {l : List D}, VRs K ι H vs l → VRs K ι' H' vs l
  | _, _, .nil => .nil
  | _, _, .cons r t => .cons (VR.ext e r) (VRs.ext e t)
end
section
variable {K : PySem.W.Frag} {ι : List Addr} {H : Hp}
theorem VRs.length : ∀ {vs : List V} {l : List D}, VRs K ι H vs l → vs.length = l.length
  | _, _, .nil => rfl
  | _, _, .cons _ t => by rw [List.length_cons, List.length_cons, VRs.length t]
theorem VRs.append : ∀ {vs ws : List V} {l m : List D}, VRs K ι H vs l → VRs K ι H ws m → VRs K ι H (vs ++ ws) (l ++ m)
  | _, _, _, _, .nil, s => s
  | _, _, _, _, .cons r t, s => .cons r (VRs.append t s)
theorem VRs.get : ∀ {vs : List V} {l : List D} {i : Nat} {d : D}, VRs K ι H vs l → l[i]? = some d → ∃ v, vs[i]? = some v ∧ VR K ι H v d
  | _, _, _, _, .nil, e => by simp at e
  | _, _, 0, _, .cons r _, e => by simp at e; subst e; exact ⟨_, rfl, r⟩
  | _, _, i + 1, d, .cons _ t, e => by
    obtain ⟨v, h1, h2⟩ := VRs.get (i := i) (d := d) t (by simpa using e)
    exact ⟨v, by simpa using h1, h2⟩
theorem VRs.set {v : V} {d : D} (r : VR K ι H v d) : ∀ {vs : List V} {l : List D} (i : Nat), VRs K ι H vs l → VRs K ι H (vs.set i v) (l.set i d)
  | _, _, _, .nil => .nil
  | _, _, 0, .cons _ t => .cons r t
  | _, _, i + 1, .cons q t => .cons q (VRs.set r i t)
theorem VRs.take : ∀ {vs : List V} {l : List D} (n : Nat), VRs K ι H vs l → VRs K ι H (vs.take n) (l.take n)
  | _, _, 0, _ => .nil
  | _, _, _ + 1, .nil => .nil
  | _, _, n + 1, .cons r t => .cons r (VRs.take n t)
theorem VRs.drop : ∀ {vs : List V} {l : List D} (n : Nat), VRs K ι H vs l → VRs K ι H (vs.drop n) (l.drop n)
  | _, _, 0, r => r
  | _, _, _ + 1, .nil => .nil
  | _, _, n + 1, .cons _ t => VRs.drop n t
theorem VRs.one {vs : List V} {d : D} (r : VRs K ι H vs [d]) : ∃ v, vs = [v] ∧ VR K ι H v d := by
  cases r with
  | cons a b => cases b; exact ⟨_, rfl, a⟩
theorem VRs.two {vs : List V} {d e : D} (r : VRs K ι H vs [d, e]) : ∃ v w, vs = [v, w] ∧ VR K ι H v d ∧ VR K ι H w e := by
  cases r with
  | cons a b => obtain ⟨w, rfl, q⟩ := b.one; exact ⟨_, _, rfl, a, q⟩
end
theorem ixA {l : List Addr} (hN : l.Nodup) {i j : Nat} {x : Addr} (a : l[i]? = some x) (b : l[j]? = some x) : i = j := by
  obtain ⟨h1, e1⟩ := List.getElem?_eq_some_iff.mp a
  obtain ⟨h2, e2⟩ := List.getElem?_eq_some_iff.mp b
  exact (List.getElem_inj hN).mp (e1.trans e2.symm)
/-- a cell as it lies -/
def CR (K : PySem.W.Frag) (ι : List Addr) (H : Hp) (a : Addr) : Cell → Prop
  | .lst l => ∃ vs, H a = some (.lst vs) ∧ VRs K ι H vs l
  | .dct l => ∃ kvs, H a = some (.dK kvs) ∧ kvs.map (·.1) = l.map (·.1) ∧ VRs K ι H (kvs.map (·.2)) (l.map (·.2))
structure HR (K : PySem.W.Frag) (ι : List Addr) (h : Hq) (H : Hp) : Prop where
  len : ι.length = h.length
  nd : ι.Nodup
  cells : ∀ (n : Nat) (c : Cell) (a : Addr), h[n]? = some c → ι[n]? = some a → CR K ι H a c
theorem CR.tracked {K : PySem.W.Frag} {ι : List Addr} {H : Hp} {a : Addr} {c : Cell} (r : CR K ι H a c) : ∃ o, H a = some o ∧ (∀ xs, o ≠ .tup xs) ∧ ∀ b u, o ≠ .frz b u := by
  cases c with
  | lst l => obtain ⟨vs, h, _⟩ := r; exact ⟨_, h, fun _ z => (nomatch z), fun _ _ z => (nomatch z)⟩
  | dct l => obtain ⟨kvs, h, _⟩ := r; exact ⟨_, h, fun _ z => (nomatch z), fun _ _ z => (nomatch z)⟩
section
variable {K : PySem.W.Frag} {ι ι' : List Addr} {h h' : Hq} {H H' : Hp}
theorem HR.mem (r : HR K ι h H) {a : Addr} (m : a ∈ ι) : ∃ o, H a = some o ∧ (∀ xs, o ≠ .tup xs) ∧ ∀ b u, o ≠ .frz b u := by
  obtain ⟨n, hn, rfl⟩ := List.getElem_of_mem m
  have hh : n < h.length := by rw [← r.len]; exact hn
  exact (r.cells n h[n] _ (List.getElem?_eq_getElem hh) (List.getElem?_eq_getElem hn)).tracked
theorem CR.ext (e : Ext ι H ι' H') {a : Addr} {c : Cell} (r : CR K ι H a c) (s : H' a = H a) : CR K ι' H' a c := by
  cases c with
  | lst l => obtain ⟨vs, q, t⟩ := r; exact ⟨vs, s.trans q, t.ext e⟩
  | dct l => obtain ⟨kvs, q, k, t⟩ := r; exact ⟨kvs, s.trans q, k, t.ext e⟩
/-- a new tuple -/
theorem HR.tup (r : HR K ι h H) {p : Addr} (np : H p = none) (vs : List V) : Ext ι H ι (upd H p (.tup vs)) ∧ HR K ι h (upd H p (.tup vs)) := by
  have ne : ∀ a o, H a = some o → a ≠ p := fun a o q => ne_of_none q np
  have e : Ext ι H ι (upd H p (.tup vs)) := ⟨⟨[], by simp, fun a z => (nomatch z)⟩, fun a xs q => by rw [upd_ne (ne a _ q)]; exact q, fun a o u q => by rw [upd_ne (ne a _ q)]; exact q,
    fun a o q _ => by rw [upd_ne (ne a _ q)]; exact q, fun a q => by
      by_cases hp : a = p
      · subst hp; exact absurd np q
      · rw [upd_ne hp]; exact q⟩
  refine ⟨e, r.len, r.nd, fun n c a h1 h2 => (r.cells n c a h1 h2).ext e ?_⟩
  obtain ⟨o, q, _⟩ := r.mem (List.mem_of_getElem? h2)
  rw [upd_ne (ne a o q)]
/-- a new cell -/
theorem HR.new (r : HR K ι h H) {p : Addr} (np : H p = none) {o : HO} {c : Cell} (hc : ∀ ι' H', Ext ι H ι' H' → H' p = some o → CR K ι' H' p c) :
    Ext ι H (ι ++ [p]) (upd H p o) ∧ HR K (ι ++ [p]) (h ++ [c]) (upd H p o) := by
  have ne : ∀ a u, H a = some u → a ≠ p := fun a u q => ne_of_none q np
  have e : Ext ι H (ι ++ [p]) (upd H p o) := ⟨⟨[p], rfl, fun a z => by rw [List.mem_singleton.mp z]; exact np⟩, fun a xs q => by rw [upd_ne (ne a _ q)]; exact q, fun a b u q => by rw [upd_ne (ne a _ q)]; exact q,
    fun a u q _ => by rw [upd_ne (ne a _ q)]; exact q, fun a q => by
      by_cases hp : a = p
      · subst hp; exact absurd np q
      · rw [upd_ne hp]; exact q⟩
  have hp : p ∉ ι := fun m => by
    obtain ⟨u, q, _⟩ := r.mem m
    rw [np] at q; cases q
  refine ⟨e, by simp [r.len], List.nodup_append.mpr ⟨r.nd, by simp, fun a ha b hb => by
    rw [List.mem_singleton.mp hb]; rintro rfl; exact hp ha⟩, fun n d a h1 h2 => ?_⟩
  by_cases hn : n < h.length
  · rw [List.getElem?_append_left hn] at h1
    rw [List.getElem?_append_left (by rw [r.len]; exact hn)] at h2
    refine (r.cells n d a h1 h2).ext e ?_
    obtain ⟨u, q, _⟩ := r.mem (List.mem_of_getElem? h2)
    rw [upd_ne (ne a u q)]
  · have hl : n = h.length := by
      have := (List.getElem?_eq_some_iff.mp h1).1
      simp at this; omega
    subst hl
    rw [List.getElem?_append_right (Nat.le_refl _)] at h1
    rw [List.getElem?_append_right (by rw [r.len]; exact Nat.le_refl _)] at h2
    have hz : h.length - ι.length = 0 := by rw [r.len]; omega
    rw [hz] at h2
    have e1 : c = d := by simpa using h1
    have e2 : p = a := by simpa using h2
    subst e1 e2
    exact hc _ _ e upd_same
/-- a cell written -/
theorem HR.put (r : HR K ι h H) {n : Nat} {a : Addr} {c0 : Cell} (h0 : h[n]? = some c0) (ha : ι[n]? = some a) {o : HO} {c : Cell} (hc : ∀ H', Ext ι H ι H' → H' a = some o → CR K ι H' a c) :
    Ext ι H ι (upd H a o) ∧ HR K ι (h.set n c) (upd H a o) := by
  obtain ⟨u0, q0, nt, nf⟩ := r.mem (List.mem_of_getElem? ha)
  have e : Ext ι H ι (upd H a o) := ⟨⟨[], by simp, fun b z => (nomatch z)⟩, fun b xs q => by
      rw [upd_ne (fun z => by subst z; rw [q0] at q; exact nt _ (Option.some.inj q))]; exact q, fun b y u q => by
      rw [upd_ne (fun z => by subst z; rw [q0] at q; exact nf _ _ (Option.some.inj q))]; exact q, fun b u q m => by
      rw [upd_ne (fun z => by subst z; exact m (List.mem_of_getElem? ha))]; exact q, fun b q => by
      by_cases hb : b = a
      · subst hb; rw [upd_same]; exact Option.some_ne_none _
      · rw [upd_ne hb]; exact q⟩
  refine ⟨e, by simp [r.len], r.nd, fun m d b h1 h2 => ?_⟩
  by_cases hm : m = n
  · subst hm
    rw [ha] at h2; cases h2
    rw [List.getElem?_set_self (List.getElem?_eq_some_iff.mp h0).1] at h1
    cases h1
    exact hc _ e upd_same
  · rw [List.getElem?_set_ne (Ne.symm hm)] at h1
    refine (r.cells m d b h1 h2).ext e ?_
    rw [upd_ne fun z => ?_]
    subst z
    exact hm (ixA r.nd h2 ha)
end
/-- slots -/
structure FR (K : PySem.W.Frag) (ι : List Addr) (H : Hp) (σ : L2.St) (fr : Fr) : Prop where
  len : σ.length = fr.length
  val : ∀ (i : Nat) (d : D), fr[i]? = some (some d) → ∃ v, σ[i]? = some (some v) ∧ VR K ι H v d
section
variable {K : PySem.W.Frag} {ι ι' : List Addr} {H H' : Hp} {σ : L2.St} {fr : Fr}
theorem FR.ext (e : Ext ι H ι' H') (r : FR K ι H σ fr) : FR K ι' H' σ fr := ⟨r.len, fun i d q => let ⟨v, a, b⟩ := r.val i d q; ⟨v, a, b.ext e⟩⟩
theorem FR.set (r : FR K ι H σ fr) {i : Nat} {v : V} {d : D} (q : VR K ι H v d) : FR K ι H (σ.set i (some v)) (fr.set i (some d)) := by
  refine ⟨by simp [r.len], fun j e h => ?_⟩
  by_cases hj : j = i
  · subst hj
    have hl : j < fr.length := by
      have := (List.getElem?_eq_some_iff.mp h).1
      simpa using this
    rw [List.getElem?_set_self hl] at h
    cases h
    exact ⟨v, List.getElem?_set_self (by rw [r.len]; exact hl), q⟩
  · rw [List.getElem?_set_ne (Ne.symm hj)] at h ⊢
    exact r.val j e h
theorem FR.wipe (r : FR K ι H σ fr) (i : Nat) : FR K ι H (σ.set i none) (fr.set i none) := by
  refine ⟨by simp [r.len], fun j e h => ?_⟩
  by_cases hj : j = i
  · subst hj
    have hl : j < fr.length := by
      have := (List.getElem?_eq_some_iff.mp h).1
      simpa using this
    rw [List.getElem?_set_self hl] at h
    cases h
  · rw [List.getElem?_set_ne (Ne.symm hj)] at h ⊢
    exact r.val j e h
end
/-- what lies of an exception -/
def XR (K : PySem.W.Frag) (mg : Str → Option Value) (ι : List Addr) (H : Hp) (x : Xn) (cls : Value) (d : Option Addr) : Prop :=
  ∃ C : Addr, mg x.cls = some (.ref C) ∧ cls = .ref C ∧ match x.val with
    | none => d = none
    | some (f, w) => ∃ a v, d = some a ∧ H a = some (.xd [(f, v)]) ∧ VR K ι H v w
/-- what is wanted of a worth: of each way that things may lie behind it -/
def Po (K : PySem.W.Frag) (mg : Str → Option Value) {α β : Type} (R : List Addr → Hp → β → α → Prop) (ι : List Addr) (H : Hp) (Q : β → Hp → Prop) (E : XK) : Rs α → Prop
  | .ok a h' => ∀ ι' H' v, Ext ι H ι' H' → HR K ι' h' H' → R ι' H' v a → Q v H'
  | .exc x h' => ∀ ι' H' cls d, Ext ι H ι' H' → HR K ι' h' H' → XR K mg ι' H' x cls d → E cls d H'
  | .no => False
abbrev PoV (K : PySem.W.Frag) (mg : Str → Option Value) (ι : List Addr) (H : Hp) (Q : VK) (E : XK) : Rs D → Prop := Po K mg (VR K) ι H Q E
abbrev PoB (K : PySem.W.Frag) (mg : Str → Option Value) (ι : List Addr) (H : Hp) (Q : Bool → Hp → Prop) (E : XK) : Rs Bool → Prop := Po K mg (fun _ _ (b c : Bool) => b = c) ι H Q E
abbrev PoA (K : PySem.W.Frag) (mg : Str → Option Value) (ι : List Addr) (H : Hp) (Q : List V → Hp → Prop) (E : XK) : Rs (List D) → Prop := Po K mg (VRs K) ι H Q E
section
variable {K : PySem.W.Frag} {mg : Str → Option Value} {ι ι' : List Addr} {H H' : Hp} {E : XK}
theorem Po.ext {α β : Type} {R : List Addr → Hp → β → α → Prop} {Q : β → Hp → Prop} (e : Ext ι H ι' H') : ∀ {r : Rs α}, Po K mg R ι H Q E r → Po K mg R ι' H' Q E r
  | .ok _ _, h => fun i2 H2 v e2 => h i2 H2 v (e.trans e2)
  | .exc _ _, h => fun i2 H2 c d e2 => h i2 H2 c d (e.trans e2)
  | .no, h => h
/-- the first of two: what it is worth, and behind it what is wanted of the rest -/
theorem Po.bind {α β γ δ : Type} {R : List Addr → Hp → β → α → Prop} {S : List Addr → Hp → δ → γ → Prop} {Q : δ → Hp → Prop} {f : α → Hq → Rs γ} : ∀ {r : Rs α}, Po K mg S ι H Q E (r.bind f) →
    Po K mg R ι H (fun v H1 => ∃ ι1 h1 a, Ext ι H ι1 H1 ∧ HR K ι1 h1 H1 ∧ R ι1 H1 v a ∧ Po K mg S ι1 H1 Q E (f a h1)) E r
  | .ok a h1, h => fun i1 H1 v e1 r1 q => ⟨i1, h1, a, e1, r1, q, Po.ext e1 h⟩
  | .exc _ _, h => h
  | .no, h => h
end
end MI
end
section
set_option Elab.async false
set_option linter.all false
set_option autoImplicit false
set_option maxRecDepth 100000
set_option maxHeartbeats 4000000
namespace MI
open PySem L2
theorem line_eq : (sizeLine : Nat) = 16777216 := PySem.sizeLine_eq
section
variable {K : PySem.W.Frag} {mg : Str → Option Value} {ι ι' : List Addr} {H H' : Hp} {E : XK}
theorem Po.mono {α β : Type} {R : List Addr → Hp → β → α → Prop} {Q Q' : β → Hp → Prop} (m : ∀ v H1, Q v H1 → Q' v H1) : ∀ {r : Rs α}, Po K mg R ι H Q E r → Po K mg R ι H Q' E r
  | .ok _ _, h => fun i1 H1 v e1 r1 q => m _ _ (h i1 H1 v e1 r1 q)
  | .exc _ _, h => h
  | .no, h => h
end
/-- where one stands -/
def tM (K : PySem.W.Frag) (mg : Str → Option Value) (E : XK) (f : Sx) : TE := fun σ H Q => ∃ ι h fr, HR K ι h H ∧ FR K ι H σ fr ∧ PoV K mg ι H Q E (f fr h)
def tMb (K : PySem.W.Frag) (mg : Str → Option Value) (E : XK) (f : Sb) : TT := fun σ H Q => ∃ ι h fr, HR K ι h H ∧ FR K ι H σ fr ∧ PoB K mg ι H Q E (f fr h)
def tMa (K : PySem.W.Frag) (mg : Str → Option Value) (E : XK) (f : Sa) : TA := fun σ H Q => ∃ ι h fr, HR K ι h H ∧ FR K ι H σ fr ∧ PoA K mg ι H Q E (f fr h)
abbrev PM (X : Cx) (E : XK) (e : Expr) (f : Sx) : Prop := PE X e (tM X.K X.mg E f)
abbrev PMb (X : Cx) (E : XK) (e : Expr) (f : Sb) : Prop := PT X e (tMb X.K X.mg E f)
abbrev PMw (X : Cx) (E : XK) (e : Expr) (f : Sb) : Prop := PW X e (tMb X.K X.mg E f)
abbrev PMa (X : Cx) (E : XK) (es : List Expr) (f : Sa) : Prop := PA X es (tMa X.K X.mg E f)
section
variable {X : Cx} {e : Expr} {es : List Expr}
theorem pe_imp {t t' : TE} (h : PE X e t) (m : ∀ σ H Q, t' σ H Q → t σ H Q) : PE X e t' := ⟨fun pins s σ H Q I q => h.run pins s σ H Q I (m σ H Q q)⟩
theorem pt_imp {t t' : TT} (h : PT X e t) (m : ∀ σ H Q, t' σ H Q → t σ H Q) : PT X e t' := ⟨fun pins s σ H Q I q => h.run pins s σ H Q I (m σ H Q q)⟩
theorem pw_imp {t t' : TT} (h : PW X e t) (m : ∀ σ H Q, t' σ H Q → t σ H Q) : PW X e t' := ⟨fun wh pins s σ H Q I q => h.run wh pins s σ H Q I (m σ H Q q)⟩
theorem pa_imp {t t' : TA} (h : PA X es t) (m : ∀ σ H Q, t' σ H Q → t σ H Q) : PA X es t' := ⟨fun pos pins s σ H Q I q => h.run pos pins s σ H Q I (m σ H Q q)⟩
end
def eK (d : D) : Sx := fun _ h => .ok d h
def eV (i : Nat) : Sx := fun fr h => match fr[i]? with
  | some (some d) => .ok d h
  | _ => .no
section
variable {X : Cx} {E : XK}
theorem m_int {i : Int} {j : Nat} {pos : Pos} : PM X E (.Constant (.int i) j pos) (eK (.int i)) := pe_imp pe_int fun σ H Q ⟨ι, h, fr, R, F, P⟩ => P ι H _ (Ext.refl _ _) R (.int i)
theorem m_bl {b : Bool} {j : Nat} {pos : Pos} : PM X E (.Constant (.bool b) j pos) (eK (.bl b)) := pe_imp pe_bl fun σ H Q ⟨ι, h, fr, R, F, P⟩ => P ι H _ (Ext.refl _ _) R (.bl b)
theorem m_non {j : Nat} {pos : Pos} : PM X E (.Constant .none j pos) (eK .non) := pe_imp pe_non fun σ H Q ⟨ι, h, fr, R, F, P⟩ => P ι H _ (Ext.refl _ _) R .non
theorem m_var (i : Nat) {x : Str} {pos : Pos} (hN : X.N[i]? = some x := by rfl) (hv : Vis X.env.scope x := by first | exact Or.inl rfl | exact Or.inr (Or.inl rfl) | exact Or.inr (Or.inr rfl)) (hd : (x == ("__debug__" : Str)) = false := by decide)
    (hcd : (x == ("__classdict__" : Str)) = false := by decide) : PM X E (.Name x pos) (eV i) := pe_imp (pe_var hN hv hd hcd) fun σ H Q ⟨ι, h, fr, R, F, P⟩ => by
  unfold eV at P
  split at P
  · rename_i d q
    obtain ⟨v, e, r⟩ := F.val i d q
    exact ⟨v, e, P ι H v (Ext.refl _ _) R r⟩
  · exact P.elim
/-- a module's number -/
theorem m_glob {x : Str} {i : Int} {t : Tok} {pos : Pos} (hm : X.mg x = some (.int i t)) (hg : Gl X x := by rfl) (hd : (x == ("__debug__" : Str)) = false := by decide) : PM X E (.Name x pos) (eK (.int i)) :=
  pe_imp (pe_glob (v := V.int i) hg hm ⟨t, rfl⟩ hd) fun σ H Q ⟨ι, h, fr, R, F, P⟩ => P ι H _ (Ext.refl _ _) R (.int i)
end
def eOp (g : D → D → Hq → Rs D) (a b : Sx) : Sx := fun fr h => (a fr h).bind fun x h1 => (b fr h1).bind fun y h2 => g x y h2
def OpS (K : PySem.W.Frag) (mg : Str → Option Value) (E : XK) (g : D → D → Hq → Rs D) (r : R2) : Prop :=
  ∀ (ι : List Addr) (h : Hq) (H : Hp) (x y : D) (v w : V) (Q : VK), HR K ι h H → VR K ι H v x → VR K ι H w y → PoV K mg ι H Q E (g x y h) → r v w H Q
theorem op_in {K : PySem.W.Frag} {mg : Str → Option Value} {E : XK} {g : D → D → Hq → Rs D} {r : R2} (hs : OpS K mg E g r) {fa fb : Sx} {σ : L2.St} {H : Hp} {Q : VK} (q : tM K mg E (eOp g fa fb) σ H Q) :
    tOp r (tM K mg E fa) (tM K mg E fb) σ H Q := by
  obtain ⟨ι, h, fr, R, F, P⟩ := q
  refine ⟨ι, h, fr, R, F, Po.mono ?_ (Po.bind P)⟩
  rintro v H1 ⟨ι1, h1, x, e1, R1, r1, P1⟩
  refine ⟨ι1, h1, fr, R1, F.ext e1, Po.mono ?_ (Po.bind P1)⟩
  rintro w H2 ⟨ι2, h2, y, e2, R2, r2, P2⟩
  exact hs ι2 h2 H2 x y v w Q R2 (r1.ext e2) r2 P2
section
variable {X : Cx} {E : XK} {a b : Expr} {fa fb : Sx} {pos : Pos}
theorem m_bin {op : Operator} {g : D → D → Hq → Rs D} {r : R2} (ho : OpR X (binaryOp op) r) (hs : OpS X.K X.mg E g r) (ha : PM X E a fa) (hb : PM X E b fb) : PM X E (.BinOp a op b pos) (eOp g fa fb) :=
  pe_imp (pe_op ho ha hb) fun _ _ _ q => op_in hs q
theorem m_cmpV {op : CmpOp} {g : D → D → Hq → Rs D} {r : R2} (ho : OpR X (compareOp op) r) (hs : OpS X.K X.mg E g r) (ha : PM X E a fa) (hb : PM X E b fb) (hm : behindInMarks op b = false := by first | rfl | decide) :
    PM X E (.Compare a [op] [b] pos) (eOp g fa fb) := pe_imp (pe_cmpR ho ha hb hm) fun _ _ _ q => op_in hs q
end
/-- a worth that is a truth -/
def isB (r : Rs D) : Rs Bool := r.bind fun x h => match x with
  | .bl b => .ok b h
  | _ => .no
def bOf (f : Sx) : Sb := fun fr h => isB (f fr h)
theorem test_in {K : PySem.W.Frag} {mg : Str → Option Value} {E : XK} {f : Sx} {σ : L2.St} {H : Hp} {Q : Bool → Hp → Prop} (q : tMb K mg E (bOf f) σ H Q) :
    tM K mg E f σ H fun x H1 => ∃ c, x = .bl c ∧ Q c H1 := by
  obtain ⟨ι, h, fr, R, F, P⟩ := q
  refine ⟨ι, h, fr, R, F, Po.mono ?_ (Po.bind P)⟩
  rintro v H1 ⟨ι1, h1, x, e1, R1, r1, P1⟩
  cases x with
  | bl b =>
    cases r1
    exact ⟨b, rfl, P1 ι1 H1 b (Ext.refl _ _) R1 rfl⟩
  | _ => exact P1.elim
section
variable {X : Cx} {E : XK} {a b c : Expr} {fa fb : Sx} {pos : Pos}
theorem m_cmp {op : CmpOp} {g : D → D → Hq → Rs D} {r : R2} (ho : OpR X (compareOp op) r) (hs : OpS X.K X.mg E g r) (ha : PM X E a fa) (hb : PM X E b fb) (hm : behindInMarks op b = false := by first | rfl | decide) :
    PMb X E (.Compare a [op] [b] pos) (bOf (eOp g fa fb)) := pt_imp (pt_cmpR ho ha hb hm) fun σ H Q q => op_in hs (test_in q)
/-- an expression whose worth is a truth, as a test -/
theorem m_test (ha : PM X E a fa) (he : ∀ whole, isTrue a X.env whole = (do let v ← whole; standAt a.pos; holding [v] (truthy v)) := by intro _; rfl) : PMb X E a (bOf fa) :=
  pt_imp (pt_val ha he) fun σ H Q q => test_in q
/-- a test as a worth -/
def eB (f : Sb) : Sx := fun fr h => (f fr h).bind fun b h1 => .ok (.bl b) h1
end
def bAnd (f g : Sb) : Sb := fun fr h => (f fr h).bind fun c h1 => if c = true then g fr h1 else .ok false h1
def bOr (f g : Sb) : Sb := fun fr h => (f fr h).bind fun c h1 => if c = true then .ok true h1 else g fr h1
def bNot (f : Sb) : Sb := fun fr h => (f fr h).bind fun c h1 => .ok (!c) h1
section
variable {X : Cx} {E : XK} {a b : Expr} {fa fb : Sb} {rest : List Expr} {pos : Pos}
theorem m_and1 (ha : PMb X E a fa) : PMw X E (.BoolOp .And [a] pos) fa := pw_and1 ha
theorem m_or1 (ha : PMb X E a fa) : PMw X E (.BoolOp .Or [a] pos) fa := pw_or1 ha
theorem m_and (ha : PMb X E a fa) (hb : PMw X E (.BoolOp .And (b :: rest) pos) fb) : PMw X E (.BoolOp .And (a :: b :: rest) pos) (bAnd fa fb) := pw_imp (pw_and ha hb) fun σ H Q ⟨ι, h, fr, R, F, P⟩ => by
  refine ⟨ι, h, fr, R, F, Po.mono ?_ (Po.bind P)⟩
  rintro c H1 ⟨ι1, h1, d, e1, R1, r1, P1⟩
  subst r1
  cases c with
  | true => exact ⟨ι1, h1, fr, R1, F.ext e1, P1⟩
  | false => exact P1 ι1 H1 false (Ext.refl _ _) R1 rfl
theorem m_or (ha : PMb X E a fa) (hb : PMw X E (.BoolOp .Or (b :: rest) pos) fb) : PMw X E (.BoolOp .Or (a :: b :: rest) pos) (bOr fa fb) := pw_imp (pw_or ha hb) fun σ H Q ⟨ι, h, fr, R, F, P⟩ => by
  refine ⟨ι, h, fr, R, F, Po.mono ?_ (Po.bind P)⟩
  rintro c H1 ⟨ι1, h1, d, e1, R1, r1, P1⟩
  subst r1
  cases c with
  | false => exact ⟨ι1, h1, fr, R1, F.ext e1, P1⟩
  | true => exact P1 ι1 H1 true (Ext.refl _ _) R1 rfl
theorem m_w (h : PMw X E a fa) : PMb X E a fa := h.pt
theorem m_not (ha : PMb X E a fa) : PMb X E (.UnaryOp .Not a pos) (bNot fa) := pt_imp (pt_not ha) fun σ H Q ⟨ι, h, fr, R, F, P⟩ => by
  refine ⟨ι, h, fr, R, F, Po.mono ?_ (Po.bind P)⟩
  rintro c H1 ⟨ι1, h1, d, e1, R1, r1, P1⟩
  subst r1
  exact P1 ι1 H1 _ (Ext.refl _ _) R1 rfl
end
/-- .. as values -/
def eAnd (f g : Sx) : Sx := fun fr h => (isB (f fr h)).bind fun c h1 => if c = true then g fr h1 else .ok (.bl false) h1
def eOr (f g : Sx) : Sx := fun fr h => (isB (f fr h)).bind fun c h1 => if c = true then .ok (.bl true) h1 else g fr h1
def eNot (f : Sx) : Sx := fun fr h => (isB (f fr h)).bind fun c h1 => .ok (.bl (!c)) h1
theorem isB_in {K : PySem.W.Frag} {mg : Str → Option Value} {ι : List Addr} {H : Hp} {E : XK} {δ γ : Type} {S : List Addr → Hp → δ → γ → Prop} {Q : δ → Hp → Prop} {k : Bool → Hq → Rs γ} {r : Rs D} (P : Po K mg S ι H Q E ((isB r).bind k)) :
    PoV K mg ι H (fun v H1 => ∃ c, v = .bl c ∧ ∃ ι1 h1, Ext ι H ι1 H1 ∧ HR K ι1 h1 H1 ∧ Po K mg S ι1 H1 Q E (k c h1)) E r := by
  have P' : Po K mg S ι H Q E (r.bind fun x h => (match x with | .bl b => (.ok b h : Rs Bool) | _ => .no).bind k) := by
    cases r with
    | ok a h => exact P
    | exc x h => exact P
    | no => exact P
  refine Po.mono ?_ (Po.bind P')
  rintro v H1 ⟨ι1, h1, d, e1, R1, r1, P1⟩
  cases d with
  | bl b => cases r1; exact ⟨b, rfl, ι1, h1, e1, R1, P1⟩
  | _ => exact P1.elim
section
variable {X : Cx} {E : XK} {a b : Expr} {fa fb : Sx} {rest : List Expr} {pos : Pos}
theorem m_one {op : BoolOp} (ha : PM X E a fa) : PM X E (.BoolOp op [a] pos) fa := pe_one ha
theorem m_andV (ha : PM X E a fa) (hb : PM X E (.BoolOp .And (b :: rest) pos) fb) : PM X E (.BoolOp .And (a :: b :: rest) pos) (eAnd fa fb) := pe_imp (pe_and ha hb) fun σ H Q ⟨ι, h, fr, R, F, P⟩ => by
  refine ⟨ι, h, fr, R, F, Po.mono ?_ (isB_in P)⟩
  rintro v H1 ⟨c, rfl, ι1, h1, e1, R1, P1⟩
  refine ⟨c, rfl, ?_⟩
  cases c with
  | true => exact ⟨ι1, h1, fr, R1, F.ext e1, P1⟩
  | false => exact P1 ι1 H1 _ (Ext.refl _ _) R1 (.bl false)
theorem m_orV (ha : PM X E a fa) (hb : PM X E (.BoolOp .Or (b :: rest) pos) fb) : PM X E (.BoolOp .Or (a :: b :: rest) pos) (eOr fa fb) := pe_imp (pe_or ha hb) fun σ H Q ⟨ι, h, fr, R, F, P⟩ => by
  refine ⟨ι, h, fr, R, F, Po.mono ?_ (isB_in P)⟩
  rintro v H1 ⟨c, rfl, ι1, h1, e1, R1, P1⟩
  refine ⟨c, rfl, ?_⟩
  cases c with
  | true => exact P1 ι1 H1 _ (Ext.refl _ _) R1 (.bl true)
  | false => exact ⟨ι1, h1, fr, R1, F.ext e1, P1⟩
def eIf (t : Sb) (f g : Sx) : Sx := fun fr h => (t fr h).bind fun c h1 => if c = true then f fr h1 else g fr h1
theorem m_if {c : Expr} {fc : Sb} (hc : PMb X E c fc) (ha : PM X E a fa) (hb : PM X E b fb) : PM X E (.IfExp c a b pos) (eIf fc fa fb) := pe_imp (pe_ifExp hc ha hb) fun σ H Q ⟨ι, h, fr, R, F, P⟩ => by
  refine ⟨ι, h, fr, R, F, Po.mono ?_ (Po.bind P)⟩
  rintro c H1 ⟨ι1, h1, d, e1, R1, r1, P1⟩
  subst r1
  cases c with
  | true => rw [if_pos rfl]; exact ⟨ι1, h1, fr, R1, F.ext e1, P1⟩
  | false => rw [if_neg Bool.false_ne_true]; exact ⟨ι1, h1, fr, R1, F.ext e1, P1⟩
end
def aNil : Sa := fun _ h => .ok [] h
def aCons (f : Sx) (g : Sa) : Sa := fun fr h => (f fr h).bind fun x h1 => (g fr h1).bind fun xs h2 => .ok (x :: xs) h2
section
variable {X : Cx} {E : XK} {a : Expr} {as : List Expr} {fa : Sx} {fs : Sa} {pos : Pos}
theorem m_nil : PMa X E [] aNil := pa_imp pa_nil fun σ H Q ⟨ι, h, fr, R, F, P⟩ => P ι H [] (Ext.refl _ _) R .nil
theorem m_cons (ha : PM X E a fa) (hr : PMa X E as fs) (hs : starEach (a :: as) X.env = (false, eval a X.env) :: starEach as X.env := by rfl) : PMa X E (a :: as) (aCons fa fs) := pa_imp (pa_cons ha hr hs) fun σ H Q ⟨ι, h, fr, R, F, P⟩ => by
  refine ⟨ι, h, fr, R, F, Po.mono ?_ (Po.bind P)⟩
  rintro v H1 ⟨ι1, h1, x, e1, R1, r1, P1⟩
  refine ⟨ι1, h1, fr, R1, F.ext e1, Po.mono ?_ (Po.bind P1)⟩
  rintro vs H2 ⟨ι2, h2, xs, e2, R2, r2, P2⟩
  exact P2 ι2 H2 _ (Ext.refl _ _) R2 (.cons (r1.ext e2) r2)
def small (n : Nat) : Bool := decide (n ≤ 16777216)
def eTup (f : Sa) : Sx := fun fr h => (f fr h).bind fun xs h1 => if small xs.length = true then .ok (.tup xs) h1 else .no
def eLst (f : Sa) : Sx := fun fr h => (f fr h).bind fun xs h1 => if small xs.length = true then .ok (.ref h1.length) (h1 ++ [.lst xs]) else .no
theorem small_le {n : Nat} (h : small n = true) : n ≤ sizeLine := by rw [line_eq]; exact of_decide_eq_true h
theorem m_tup {k : Nat} (h : PMa X E as fs) : PM X E (.Tuple as k pos) (eTup fs) := pe_imp (pe_tup h) fun σ H Q ⟨ι, h, fr, R, F, P⟩ => by
  refine ⟨ι, h, fr, R, F, Po.mono ?_ (Po.bind P)⟩
  rintro vs H1 ⟨ι1, h1, xs, e1, R1, r1, P1⟩
  split at P1
  · rename_i hz
    refine ⟨by rw [r1.length]; exact small_le hz, fun p np => ?_⟩
    obtain ⟨e2, R2⟩ := R1.tup np vs
    exact P1 ι1 _ _ e2 R2 (.tup upd_same (r1.ext e2))
  · exact P1.elim
theorem ref_new {ι : List Addr} {h : Hq} {H : Hp} {K : PySem.W.Frag} (R : HR K ι h H) (p : Addr) : (ι ++ [p])[h.length]? = some p := by
  rw [← R.len, List.getElem?_append_right (Nat.le_refl _), Nat.sub_self]; rfl
theorem m_lst (h : PMa X E as fs) : PM X E (.List as pos) (eLst fs) := pe_imp (pe_lst h) fun σ H Q ⟨ι, h, fr, R, F, P⟩ => by
  refine ⟨ι, h, fr, R, F, Po.mono ?_ (Po.bind P)⟩
  rintro vs H1 ⟨ι1, h1, xs, e1, R1, r1, P1⟩
  split at P1
  · rename_i hz
    refine ⟨by rw [r1.length]; exact small_le hz, fun p np => ?_⟩
    obtain ⟨e2, R2⟩ := R1.new np (o := .lst vs) (c := .lst xs) fun ι' H' e q => ⟨vs, q, r1.ext e⟩
    exact P1 _ _ _ e2 R2 (.ref (ref_new R1 p))
  · exact P1.elim
/-- {} -/
def eDct0 : Sx := fun _ h => .ok (.ref h.length) (h ++ [.dct []])
/-- {"a": 2, "b": 0} -/
def eDct2 (a b : Str) (i j : Int) : Sx := fun _ h => .ok (.ref h.length) (h ++ [.dct [(.inr a, .int i), (.inr b, .int j)]])
end
end MI
end
section
set_option Elab.async false
set_option linter.all false
set_option maxRecDepth 100000
set_option maxHeartbeats 4000000
namespace PySem.MiDs
open PySem PySem.Spec PyProof.Rows PySem.SeqAt
theorem no1 (z : Str) (u : Tok) (l : Addr) (dt : Array DictEntry) (n : Nat) (dd : Option Addr) (sl : Array (Option Value)) :
    Meets (Builtin.«dict.__eq__» ⟨[.ref l, .str z u], []⟩) (fun _ R s => s.heap.get? l = some ⟨.type "dict", dd, .dict dt n, sl⟩ ∧ R (.ok (.ret .notImplemented)) s) := by
  refine .of_wp fun prog w A R s q => ?_
  obtain ⟨hp, g, d, tk, os⟩ := s
  obtain ⟨hl, q2⟩ := q
  have f1 := F.sub_str_dict
  wp_walk using wpAny_loadPart' hl
  exact ⟨_, rfl, q2⟩
theorem no2 (z : Str) (u : Tok) (l : Addr) (c : Value) (dt : Array DictEntry) (n : Nat) (dd : Option Addr) (sl : Array (Option Value)) :
    Meets (Builtin.«str.__eq__» ⟨[.str z u, .ref l], []⟩) (fun _ R s => s.heap.get? l = some ⟨c, dd, .dict dt n, sl⟩ ∧ R (.ok (.ret .notImplemented)) s) := by
  refine .of_wp fun prog w A R s q => ?_
  obtain ⟨hp, g, d, tk, os⟩ := s
  obtain ⟨hl, q2⟩ := q
  wp_walk using wpAny_loadPart' hl, wpAny_load hl
  exact ⟨_, rfl, q2⟩
theorem eqDS {prog : Program} {w : World} {A : Around} {E : Value → Shared → Prop} {s : Shared} {l : Addr} {o : Obj} {dt : Array DictEntry} {n : Nat} {z : Str} {u : Tok} {Q : Value → Shared → Prop} (ho : s.heap.get? l = some o) (hc : o.cls = .type "dict") (hd : o.data = .dict dt n) (hu : A.units < cLine)
    (q : Q (.bool false) s) : wpAny (model prog w) A (compareOp .Eq (.ref l) (.str z u)) Q E s := by
  obtain ⟨c, dd, dat, sl⟩ := o
  dsimp only at hc hd
  subst hc hd
  show wpAny (model prog w) A (richCompare .Eq (.ref l) (.str z u)) Q E s
  refine rc_eq_decline_or (k := false) ⟨_, ho, rfl⟩ (typeIs_str s z u) (by decide) F.sub_str_dict F.slot_dict_eq F.slot_str_eq_refl (fun Q' q' => ?_) (fun Q' q' => ?_) (fun Q' q' => ?_) (.inr hu) q
  · exact call_meets F.slot_dict_eq ⟨_, ho, rfl⟩ F.entry_dict_eq (F.args_dict_eq_2 _ _) (no1 z u l dt n dd sl) ⟨ho, q'⟩
  · exact call_meets F.slot_str_eq_refl (typeIs_str s z u) F.entry_str_eq (F.args_str_eq_2 _ _) (no2 z u l (.type "dict") dt n dd sl) ⟨ho, q'⟩
  · exact wpAny_of_eq (rfl : isSame (.ref l) (.str z u) = pure false) q'
end PySem.MiDs
namespace L2
open PySem PySem.Spec PyProof.Rows
def rEqDS : R2 := fun x y H Q => ∃ (a : Addr) (kvs : List (L2.Key × V)) (z : Str), x = .ref a ∧ y = .str z ∧ H a = some (.dK kvs) ∧ Q (.bl false) H
theorem op_eqDS {X : Cx} (hu : X.A.units + 64 < cLine) : OpR X (compareOp .Eq) rEqDS := by
  intro pins s σ H x y v u Q I rx ry h
  obtain ⟨a, kvs, z, rfl, rfl, hx, q⟩ := h
  cases rx
  obtain ⟨t, rfl⟩ := ry
  obtain ⟨_, _, vs, _, hd⟩ : kvs.length ≤ sizeLine ∧ (a == sysModules) = false ∧ ∃ vs, KV kvs vs ∧ s.heap.DictOf (mixKind X.prog X.w) a vs := I.hok a _ hx
  obtain ⟨o, es, ep, g1, g2, g3, _⟩ := hd
  exact PySem.MiDs.eqDS g1 g2.1 g3 (by omega) ⟨.bl false, H, I, rfl, q⟩
end L2
end
section
set_option Elab.async false
set_option linter.all false
set_option maxRecDepth 100000
set_option maxHeartbeats 4000000
namespace PySem.MiDs
open PySem PySem.Spec PyProof.Rows PySem.SeqAt
section
variable (l b : Addr) (dt : Array DictEntry) (n n2 : Nat) (dd dd2 : Option Addr) (sl sl2 : Array (Option Value)) (items : Array Value)
theorem d_non : Meets (Builtin.«dict.__eq__» ⟨[.ref l, .none], []⟩) (fun _ R s => s.heap.get? l = some ⟨.type "dict", dd, .dict dt n, sl⟩ ∧ R (.ok (.ret .notImplemented)) s) := by
  refine .of_wp fun prog w A R s q => ?_
  obtain ⟨hp, g, d, tk, os⟩ := s
  obtain ⟨hl, q2⟩ := q
  have f1 : isSubtype (.type "NoneType") (.type "dict") = pure false := by rw [isSubtype_type]; kernel_rfl
  wp_walk using wpAny_loadPart' hl
  exact ⟨_, rfl, q2⟩
theorem d_int (i : Int) (u : Tok) : Meets (Builtin.«dict.__eq__» ⟨[.ref l, .int i u], []⟩) (fun _ R s => s.heap.get? l = some ⟨.type "dict", dd, .dict dt n, sl⟩ ∧ R (.ok (.ret .notImplemented)) s) := by
  refine .of_wp fun prog w A R s q => ?_
  obtain ⟨hp, g, d, tk, os⟩ := s
  obtain ⟨hl, q2⟩ := q
  have f1 : isSubtype (.type "int") (.type "dict") = pure false := by rw [isSubtype_type]; kernel_rfl
  wp_walk using wpAny_loadPart' hl
  exact ⟨_, rfl, q2⟩
theorem d_bool (c : Bool) : Meets (Builtin.«dict.__eq__» ⟨[.ref l, .bool c], []⟩) (fun _ R s => s.heap.get? l = some ⟨.type "dict", dd, .dict dt n, sl⟩ ∧ R (.ok (.ret .notImplemented)) s) := by
  refine .of_wp fun prog w A R s q => ?_
  obtain ⟨hp, g, d, tk, os⟩ := s
  obtain ⟨hl, q2⟩ := q
  have f1 : isSubtype (.type "bool") (.type "dict") = pure false := by rw [isSubtype_type]; kernel_rfl
  wp_walk using wpAny_loadPart' hl
  exact ⟨_, rfl, q2⟩
theorem d_seq (T : String) (hT : isSubtype (.type T) (.type "dict") = pure false) : Meets (Builtin.«dict.__eq__» ⟨[.ref l, .ref b], []⟩) (fun _ R s => s.heap.get? l = some ⟨.type "dict", dd, .dict dt n, sl⟩ ∧ s.heap.get? b = some ⟨.type T, dd2, .seq items n2, sl2⟩ ∧ R (.ok (.ret .notImplemented)) s) := by
  refine .of_wp fun prog w A R s q => ?_
  obtain ⟨hp, g, d, tk, os⟩ := s
  obtain ⟨hl, hb, q2⟩ := q
  have f1 := hT
  wp_walk using wpAny_loadPart' hl, wpAny_loadPart' hb
  exact ⟨_, rfl, q2⟩
theorem int_d (i : Int) (u : Tok) : Meets (Builtin.«int.__eq__» ⟨[.int i u, .ref l], []⟩) (fun _ R s => s.heap.get? l = some ⟨.type "dict", dd, .dict dt n, sl⟩ ∧ R (.ok (.ret .notImplemented)) s) := by
  refine .of_wp fun prog w A R s q => ?_
  obtain ⟨hp, g, d, tk, os⟩ := s
  obtain ⟨hl, q2⟩ := q
  wp_walk using wpAny_loadPart' hl, wpAny_load hl
  exact ⟨_, rfl, q2⟩
theorem bool_d (c : Bool) : Meets (Builtin.«int.__eq__» ⟨[.bool c, .ref l], []⟩) (fun _ R s => s.heap.get? l = some ⟨.type "dict", dd, .dict dt n, sl⟩ ∧ R (.ok (.ret .notImplemented)) s) := by
  refine .of_wp fun prog w A R s q => ?_
  obtain ⟨hp, g, d, tk, os⟩ := s
  obtain ⟨hl, q2⟩ := q
  wp_walk using wpAny_loadPart' hl, wpAny_load hl
  exact ⟨_, rfl, q2⟩
theorem none_d : Meets (Builtin.«NoneType.__eq__» ⟨[.none, .ref l], []⟩) (fun _ R s => s.heap.get? l = some ⟨.type "dict", dd, .dict dt n, sl⟩ ∧ R (.ok (.ret .notImplemented)) s) := by
  refine .of_wp fun prog w A R s q => ?_
  obtain ⟨hp, g, d, tk, os⟩ := s
  obtain ⟨hl, q2⟩ := q
  wp_walk
  exact ⟨_, rfl, q2⟩
theorem list_d : Meets (Builtin.«list.__eq__» ⟨[.ref b, .ref l], []⟩) (fun _ R s => s.heap.get? b = some ⟨.type "list", dd2, .seq items n2, sl2⟩ ∧ s.heap.get? l = some ⟨.type "dict", dd, .dict dt n, sl⟩ ∧ R (.ok (.ret .notImplemented)) s) := by
  refine .of_wp fun prog w A R s q => ?_
  obtain ⟨hp, g, d, tk, os⟩ := s
  obtain ⟨hb, hl, q2⟩ := q
  have f1 : isSubtype (.type "dict") (.type "list") = pure false := by rw [isSubtype_type]; kernel_rfl
  wp_walk using wpAny_loadPart' hb, wpAny_loadPart' hl
  exact ⟨_, rfl, q2⟩
theorem tuple_d : Meets (Builtin.«tuple.__eq__» ⟨[.ref b, .ref l], []⟩) (fun _ R s => s.heap.get? b = some ⟨.type "tuple", dd2, .seq items n2, sl2⟩ ∧ s.heap.get? l = some ⟨.type "dict", dd, .dict dt n, sl⟩ ∧ R (.ok (.ret .notImplemented)) s) := by
  refine .of_wp fun prog w A R s q => ?_
  obtain ⟨hp, g, d, tk, os⟩ := s
  obtain ⟨hb, hl, q2⟩ := q
  have f1 : isSubtype (.type "dict") (.type "tuple") = pure false := by rw [isSubtype_type]; kernel_rfl
  wp_walk using wpAny_loadPart' hb, wpAny_loadPart' hl
  exact ⟨_, rfl, q2⟩
end
/-- what is no dict -/
inductive NoD (s : Shared) : Value → Prop
  | none : NoD s .none
  | bool (c : Bool) : NoD s (.bool c)
  | int (i : Int) (u : Tok) : NoD s (.int i u)
  | str (z : Str) (u : Tok) : NoD s (.str z u)
  | list {b : Addr} {o : Obj} {its : Array Value} {n : Nat} : s.heap.get? b = some o → o.cls = .type "list" → o.data = .seq its n → NoD s (.ref b)
  | tuple {b : Addr} {o : Obj} {its : Array Value} {n : Nat} : s.heap.get? b = some o → o.cls = .type "tuple" → o.data = .seq its n → NoD s (.ref b)
section
variable {prog : Program} {w : World} {A : Around} {E : Value → Shared → Prop} {s : Shared} {l : Addr} {o : Obj} {dt : Array DictEntry} {n : Nat} {u : Value} {Q : Value → Shared → Prop}
theorem eqDX (ho : s.heap.get? l = some o) (hc : o.cls = .type "dict") (hd : o.data = .dict dt n) (hn : NoD s u) (hu : A.units < cLine) (q : Q (.bool false) s) : wpAny (model prog w) A (compareOp .Eq (.ref l) u) Q E s := by
  obtain ⟨c, dd, dat, sl⟩ := o
  dsimp only at hc hd
  subst hc hd
  show wpAny (model prog w) A (richCompare .Eq (.ref l) u) Q E s
  cases hn with
  | none =>
    exact rc_eq_decline_or (k := false) ⟨_, ho, rfl⟩ rfl (by decide) (by rw [isSubtype_type]; kernel_rfl) F.slot_dict_eq F.slot_NoneType_eq_refl
      (fun _ q' => call_meets F.slot_dict_eq ⟨_, ho, rfl⟩ F.entry_dict_eq (F.args_dict_eq_2 _ _) (d_non l dt n dd sl) ⟨ho, q'⟩)
      (fun _ q' => call_meets F.slot_NoneType_eq_refl rfl F.entry_NoneType_eq (F.args_NoneType_eq_2 _ _) (none_d l dt n dd sl) ⟨ho, q'⟩)
      (fun _ q' => wpAny_of_eq (rfl : isSame (.ref l) .none = pure false) q') (.inr hu) q
  | bool c =>
    exact rc_eq_decline_or (k := false) ⟨_, ho, rfl⟩ rfl (by decide) (by rw [isSubtype_type]; kernel_rfl) F.slot_dict_eq F.slot_bool_eq_refl
      (fun _ q' => call_meets F.slot_dict_eq ⟨_, ho, rfl⟩ F.entry_dict_eq (F.args_dict_eq_2 _ _) (d_bool l dt n dd sl c) ⟨ho, q'⟩)
      (fun _ q' => call_meets F.slot_bool_eq_refl rfl F.entry_int_eq (F.args_int_eq_2 _ _) (bool_d l dt n dd sl c) ⟨ho, q'⟩)
      (fun _ q' => wpAny_of_eq (rfl : isSame (.ref l) (.bool c) = pure false) q') (.inr hu) q
  | int i t =>
    exact rc_eq_decline_or (k := false) ⟨_, ho, rfl⟩ (typeIs_int s i t) (by decide) (by rw [isSubtype_type]; kernel_rfl) F.slot_dict_eq F.slot_int_eq_refl
      (fun _ q' => call_meets F.slot_dict_eq ⟨_, ho, rfl⟩ F.entry_dict_eq (F.args_dict_eq_2 _ _) (d_int l dt n dd sl i t) ⟨ho, q'⟩)
      (fun _ q' => call_meets F.slot_int_eq_refl (typeIs_int s i t) F.entry_int_eq (F.args_int_eq_2 _ _) (int_d l dt n dd sl i t) ⟨ho, q'⟩)
      (fun _ q' => wpAny_of_eq (rfl : isSame (.ref l) (.int i t) = pure false) q') (.inr hu) q
  | str z t => exact eqDS ho rfl rfl hu q
  | list hb hc2 hd2 =>
    rename_i b o2 its n2
    obtain ⟨c2, dd2, dat2, sl2⟩ := o2
    dsimp only at hc2 hd2
    subst hc2 hd2
    have hne : l ≠ b := fun e => by subst e; rw [ho] at hb; simp at hb
    exact rc_eq_decline_or (k := false) ⟨_, ho, rfl⟩ ⟨_, hb, rfl⟩ (by decide) (by rw [isSubtype_type]; kernel_rfl) F.slot_dict_eq F.slot_list_eq_refl
      (fun _ q' => call_meets F.slot_dict_eq ⟨_, ho, rfl⟩ F.entry_dict_eq (F.args_dict_eq_2 _ _) (d_seq l b dt n n2 dd dd2 sl sl2 its "list" (by rw [isSubtype_type]; kernel_rfl)) ⟨ho, hb, q'⟩)
      (fun _ q' => call_meets F.slot_list_eq_refl ⟨_, hb, rfl⟩ F.entry_list_eq (F.args_list_eq_2 _ _) (list_d l b dt n n2 dd dd2 sl sl2 its) ⟨hb, ho, q'⟩)
      (fun _ q' => wpAny_isSame_ref_other hne ho hb (by simp) q') (.inr hu) q
  | tuple hb hc2 hd2 =>
    rename_i b o2 its n2
    obtain ⟨c2, dd2, dat2, sl2⟩ := o2
    dsimp only at hc2 hd2
    subst hc2 hd2
    have hne : l ≠ b := fun e => by subst e; rw [ho] at hb; simp at hb
    exact rc_eq_decline_or (k := false) ⟨_, ho, rfl⟩ ⟨_, hb, rfl⟩ (by decide) (by rw [isSubtype_type]; kernel_rfl) F.slot_dict_eq F.slot_tuple_eq_refl
      (fun _ q' => call_meets F.slot_dict_eq ⟨_, ho, rfl⟩ F.entry_dict_eq (F.args_dict_eq_2 _ _) (d_seq l b dt n n2 dd dd2 sl sl2 its "tuple" (by rw [isSubtype_type]; kernel_rfl)) ⟨ho, hb, q'⟩)
      (fun _ q' => call_meets F.slot_tuple_eq_refl ⟨_, hb, rfl⟩ F.entry_tuple_eq (F.args_tuple_eq_2 _ _) (tuple_d l b dt n n2 dd dd2 sl sl2 its) ⟨hb, ho, q'⟩)
      (fun _ q' => wpAny_isSame_ref_other hne ho hb (by simp) q') (.inr hu) q
theorem eqXD (ho : s.heap.get? l = some o) (hc : o.cls = .type "dict") (hd : o.data = .dict dt n) (hn : NoD s u) (hu : A.units < cLine) (q : Q (.bool false) s) : wpAny (model prog w) A (compareOp .Eq u (.ref l)) Q E s := by
  obtain ⟨c, dd, dat, sl⟩ := o
  dsimp only at hc hd
  subst hc hd
  show wpAny (model prog w) A (richCompare .Eq u (.ref l)) Q E s
  cases hn with
  | none =>
    exact rc_eq_decline_or (k := false) rfl ⟨_, ho, rfl⟩ (by decide) (by rw [isSubtype_type]; kernel_rfl) F.slot_NoneType_eq F.slot_dict_eq_refl
      (fun _ q' => call_meets F.slot_NoneType_eq rfl F.entry_NoneType_eq (F.args_NoneType_eq_2 _ _) (none_d l dt n dd sl) ⟨ho, q'⟩)
      (fun _ q' => call_meets F.slot_dict_eq_refl ⟨_, ho, rfl⟩ F.entry_dict_eq (F.args_dict_eq_2 _ _) (d_non l dt n dd sl) ⟨ho, q'⟩)
      (fun _ q' => wpAny_of_eq (rfl : isSame .none (.ref l) = pure false) q') (.inr hu) q
  | bool c =>
    exact rc_eq_decline_or (k := false) rfl ⟨_, ho, rfl⟩ (by decide) (by rw [isSubtype_type]; kernel_rfl) F.slot_bool_eq F.slot_dict_eq_refl
      (fun _ q' => call_meets F.slot_bool_eq rfl F.entry_int_eq (F.args_int_eq_2 _ _) (bool_d l dt n dd sl c) ⟨ho, q'⟩)
      (fun _ q' => call_meets F.slot_dict_eq_refl ⟨_, ho, rfl⟩ F.entry_dict_eq (F.args_dict_eq_2 _ _) (d_bool l dt n dd sl c) ⟨ho, q'⟩)
      (fun _ q' => wpAny_of_eq (rfl : isSame (.bool c) (.ref l) = pure false) q') (.inr hu) q
  | int i t =>
    exact rc_eq_decline_or (k := false) (typeIs_int s i t) ⟨_, ho, rfl⟩ (by decide) (by rw [isSubtype_type]; kernel_rfl) F.slot_int_eq F.slot_dict_eq_refl
      (fun _ q' => call_meets F.slot_int_eq (typeIs_int s i t) F.entry_int_eq (F.args_int_eq_2 _ _) (int_d l dt n dd sl i t) ⟨ho, q'⟩)
      (fun _ q' => call_meets F.slot_dict_eq_refl ⟨_, ho, rfl⟩ F.entry_dict_eq (F.args_dict_eq_2 _ _) (d_int l dt n dd sl i t) ⟨ho, q'⟩)
      (fun _ q' => wpAny_of_eq (rfl : isSame (.int i t) (.ref l) = pure false) q') (.inr hu) q
  | str z t =>
    exact rc_eq_decline_or (k := false) (typeIs_str s z t) ⟨_, ho, rfl⟩ (by decide) (by rw [isSubtype_type]; kernel_rfl) F.slot_str_eq F.slot_dict_eq_refl
      (fun _ q' => call_meets F.slot_str_eq (typeIs_str s z t) F.entry_str_eq (F.args_str_eq_2 _ _) (no2 z t l (.type "dict") dt n dd sl) ⟨ho, q'⟩)
      (fun _ q' => call_meets F.slot_dict_eq_refl ⟨_, ho, rfl⟩ F.entry_dict_eq (F.args_dict_eq_2 _ _) (no1 z t l dt n dd sl) ⟨ho, q'⟩)
      (fun _ q' => wpAny_of_eq (rfl : isSame (.str z t) (.ref l) = pure false) q') (.inr hu) q
  | list hb hc2 hd2 =>
    rename_i b o2 its n2
    obtain ⟨c2, dd2, dat2, sl2⟩ := o2
    dsimp only at hc2 hd2
    subst hc2 hd2
    have hne : b ≠ l := fun e => by subst e; rw [ho] at hb; simp at hb
    exact rc_eq_decline_or (k := false) ⟨_, hb, rfl⟩ ⟨_, ho, rfl⟩ (by decide) (by rw [isSubtype_type]; kernel_rfl) F.slot_list_eq F.slot_dict_eq_refl
      (fun _ q' => call_meets F.slot_list_eq ⟨_, hb, rfl⟩ F.entry_list_eq (F.args_list_eq_2 _ _) (list_d l b dt n n2 dd dd2 sl sl2 its) ⟨hb, ho, q'⟩)
      (fun _ q' => call_meets F.slot_dict_eq_refl ⟨_, ho, rfl⟩ F.entry_dict_eq (F.args_dict_eq_2 _ _) (d_seq l b dt n n2 dd dd2 sl sl2 its "list" (by rw [isSubtype_type]; kernel_rfl)) ⟨ho, hb, q'⟩)
      (fun _ q' => wpAny_isSame_ref_other hne hb ho (by simp) q') (.inr hu) q
  | tuple hb hc2 hd2 =>
    rename_i b o2 its n2
    obtain ⟨c2, dd2, dat2, sl2⟩ := o2
    dsimp only at hc2 hd2
    subst hc2 hd2
    have hne : b ≠ l := fun e => by subst e; rw [ho] at hb; simp at hb
    exact rc_eq_decline_or (k := false) ⟨_, hb, rfl⟩ ⟨_, ho, rfl⟩ (by decide) (by rw [isSubtype_type]; kernel_rfl) F.slot_tuple_eq F.slot_dict_eq_refl
      (fun _ q' => call_meets F.slot_tuple_eq ⟨_, hb, rfl⟩ F.entry_tuple_eq (F.args_tuple_eq_2 _ _) (tuple_d l b dt n n2 dd dd2 sl sl2 its) ⟨hb, ho, q'⟩)
      (fun _ q' => call_meets F.slot_dict_eq_refl ⟨_, ho, rfl⟩ F.entry_dict_eq (F.args_dict_eq_2 _ _) (d_seq l b dt n n2 dd dd2 sl sl2 its "tuple" (by rw [isSubtype_type]; kernel_rfl)) ⟨ho, hb, q'⟩)
      (fun _ q' => wpAny_isSame_ref_other' hne hb ho (by simp) q') (.inr hu) q
end
end PySem.MiDs
namespace L2
open PySem PySem.Spec PyProof.Rows
/-- a thing that is no dict -/
def NoDV (K : PySem.W.Frag) (H : Hp) (y : V) : Prop := y = .non ∨ (∃ b, y = .bl b) ∨ (∃ i, y = .int i) ∨ (∃ z, y = .str z) ∨ (∃ a xs, y = .ref a ∧ SqL K H a xs) ∨ ∃ a xs, y = .ref a ∧ SqT K H a xs
theorem nod_of {X : Cx} {pins : List (Addr × Obj)} {σ : L2.St} {H : Hp} {s : Shared} (I : Inv X pins σ H s) {y : V} {u : Value} (h : NoDV X.K H y) (r : RelV y u) : PySem.MiDs.NoD s u := by
  rcases h with rfl | ⟨b, rfl⟩ | ⟨i, rfl⟩ | ⟨z, rfl⟩ | ⟨a, xs, rfl, q⟩ | ⟨a, xs, rfl, q⟩
  · cases r; exact .none
  · cases r; exact .bool b
  · obtain ⟨t, rfl⟩ := r; exact .int i t
  · obtain ⟨t, rfl⟩ := r; exact .str z t
  · cases r
    obtain ⟨its, _, ⟨o, n, g1, g2, _, g4⟩, _⟩ := I.list q
    exact .list g1 g2 g4
  · cases r
    obtain ⟨its, _, ⟨o, g1, g2, n, g4⟩, _⟩ := I.tuple q
    exact .tuple g1 g2 g4
def rEqDX (K : PySem.W.Frag) : R2 := fun x y H Q => (∃ (a : Addr) (kvs : List (L2.Key × V)), H a = some (.dK kvs) ∧ ((x = .ref a ∧ NoDV K H y) ∨ (y = .ref a ∧ NoDV K H x))) ∧ Q (.bl false) H
theorem op_eqDX {X : Cx} (hu : X.A.units + 64 < cLine) : OpR X (compareOp .Eq) (rEqDX X.K) := by
  intro pins s σ H x y v u Q I rx ry h
  obtain ⟨⟨a, kvs, hx, h⟩, q⟩ := h
  obtain ⟨_, _, vs, _, hd⟩ : kvs.length ≤ sizeLine ∧ (a == sysModules) = false ∧ ∃ vs, KV kvs vs ∧ s.heap.DictOf (mixKind X.prog X.w) a vs := I.hok a _ hx
  obtain ⟨o, es, ep, g1, g2, g3, _⟩ := hd
  rcases h with ⟨rfl, n⟩ | ⟨rfl, n⟩
  · cases rx
    exact PySem.MiDs.eqDX g1 g2.1 g3 (nod_of I n ry) (by omega) ⟨.bl false, H, I, rfl, q⟩
  · cases ry
    exact PySem.MiDs.eqXD g1 g2.1 g3 (nod_of I n rx) (by omega) ⟨.bl false, H, I, rfl, q⟩
/-- two dicts of unlike length -/
def rEqDL : R2 := fun x y H Q => ∃ a b ks ls, x = .ref a ∧ y = .ref b ∧ H a = some (.dK ks) ∧ H b = some (.dK ls) ∧ ks.length ≠ ls.length ∧ Q (.bl false) H
theorem op_eqDL {X : Cx} (hu : X.A.units + 64 < cLine) : OpR X (compareOp .Eq) rEqDL := by
  intro pins s σ H x y v u Q I rx ry h
  obtain ⟨a, b, ks, ls, rfl, rfl, ea, eb, hlen, q⟩ := h
  obtain rfl : v = Value.ref a := rx
  obtain rfl : u = Value.ref b := ry
  obtain ⟨_, ya, va, ra, da⟩ := (show ObjOk X.prog X.w H s.heap a (.dK ks) from I.hok a _ ea)
  obtain ⟨_, yb, vb, rb, db⟩ := (show ObjOk X.prog X.w H s.heap b (.dK ls) from I.hok b _ eb)
  have hl : ¬ va.length = vb.length := by rw [← ra.length, ← rb.length]; exact hlen
  exact PySem.W.keq_eq (knd := mixKind X.prog X.w) (r := true) ya yb da db (by omega) (fun e => absurd e hl) ⟨.bl false, H, I, by rw [beq_eq_false_iff_ne.mpr hl]; rfl, q⟩
/-- two lists of unlike length -/
def rLL (b : Bool) : R2 := fun x y H Q => ∃ a c xs ys, x = .ref a ∧ y = .ref c ∧ H a = some (.lst xs) ∧ H c = some (.lst ys) ∧ xs.length ≠ ys.length ∧ Q (.bl b) H
theorem op_eqLL {X : Cx} (hu : X.A.units + 64 < cLine) : OpR X (compareOp .Eq) (rLL false) := by
  intro pins s σ H x y v u Q I rx ry h
  obtain ⟨a, c, xs, ys, rfl, rfl, ea, eb, hlen, q⟩ := h
  obtain rfl : v = Value.ref a := rx
  obtain rfl : u = Value.ref c := ry
  obtain ⟨us, r1, p1, _⟩ := I.list (.of ea)
  obtain ⟨ws, r2, p2, _⟩ := I.list (.of eb)
  have l1 := r1.length
  have l2 := r2.length
  exact SeqAt.eq_list_lengthsAt p1.isList p2.isList (by simp; omega) (by omega) ⟨.bl false, H, I, rfl, q⟩
theorem op_neLL {X : Cx} (hu : X.A.units + 64 < cLine) : OpR X (compareOp .NotEq) (rLL true) := by
  intro pins s σ H x y v u Q I rx ry h
  obtain ⟨a, c, xs, ys, rfl, rfl, ea, eb, hlen, q⟩ := h
  obtain rfl : v = Value.ref a := rx
  obtain rfl : u = Value.ref c := ry
  obtain ⟨us, r1, p1, _⟩ := I.list (.of ea)
  obtain ⟨ws, r2, p2, _⟩ := I.list (.of eb)
  have l1 := r1.length
  have l2 := r2.length
  exact SeqAt.RcNeAt.lists_lengths p1.isList p2.isList (by simp; omega) (by omega) _ _ _ _ ⟨.bl true, H, I, rfl, q⟩
end L2
end
section
set_option Elab.async false
set_option linter.all false
set_option autoImplicit false
set_option maxRecDepth 100000
set_option maxHeartbeats 4000000
namespace MI
open PySem L2
def lstAt (h : Hq) (n : Nat) : Option (List D) := match h[n]? with
  | some (.lst l) => some l
  | _ => none
theorem lstAt_some {h : Hq} {n : Nat} {l : List D} (e : lstAt h n = some l) : h[n]? = some (.lst l) := by
  unfold lstAt at e
  split at e
  · rename_i l' q; cases e; exact q
  · cases e
theorem HR.lst {K : PySem.W.Frag} {ι : List Addr} {h : Hq} {H : Hp} (R : HR K ι h H) {n : Nat} {a : Addr} {l : List D} (ha : ι[n]? = some a) (e : lstAt h n = some l) : ∃ vs, H a = some (.lst vs) ∧ VRs K ι H vs l :=
  R.cells n _ a (lstAt_some e) ha
def dAdd (x y : D) (h : Hq) : Rs D := match x, y with
  | .int i, .int j => .ok (.int (i + j)) h
  | .str a, .str b => if small (a.length + b.length) = true then .ok (.str (a ++ b)) h else .no
  | .tup a, .tup b => if small (a.length + b.length) = true then .ok (.tup (a ++ b)) h else .no
  | .ref m, .ref n => match lstAt h m, lstAt h n with
    | some a, some b => if small (a.length + b.length) = true then .ok (.ref h.length) (h ++ [.lst (a ++ b)]) else .no
    | _, _ => .no
  | _, _ => .no
def rAddA (K : PySem.W.Frag) : R2 := fun x y H Q => (∃ i j, x = .int i ∧ y = .int j ∧ Q (.int (i + j)) H) ∨ ((∃ i j, x = .str i ∧ y = .str j ∧ i.length + j.length ≤ sizeLine ∧ Q (.str (i ++ j)) H) ∨ (rCatA K x y H Q ∨ rCat x y H Q))
theorem nil_of {K : PySem.W.Frag} {ι : List Addr} {H : Hp} {vs : List V} {l : List D} (r : VRs K ι H vs l) : vs = [] ↔ l = [] := by
  cases r <;> simp
section
variable {K : PySem.W.Frag} {mg : Str → Option Value} {E : XK}
theorem s_add : OpS K mg E dAdd (rAddA K) := by
  intro ι h H x y v w Q R rx ry P
  unfold dAdd at P
  split at P
  · cases rx; cases ry
    exact .inl ⟨_, _, rfl, rfl, P ι H _ (Ext.refl _ _) R (.int _)⟩
  · split at P
    · rename_i a b hz
      cases rx; cases ry
      exact .inr (.inl ⟨_, _, rfl, rfl, small_le hz, P ι H _ (Ext.refl _ _) R (.str _)⟩)
    · exact P.elim
  · rename_i l m
    split at P
    · rename_i hz
      cases rx with
      | tup hx qx =>
        cases ry with
        | tup hy qy =>
          rename_i a vs b ws
          refine .inr (.inr (.inl ⟨a, b, vs, ws, rfl, rfl, .of hx, .of hy, ?_, fun e => ?_, fun _ e => ?_, fun _ _ p np => ?_⟩))
          · rw [qx.length, qy.length]; exact small_le hz
          · have : l = [] := (nil_of qx).mp e
            subst this
            exact P ι H _ (Ext.refl _ _) R (.tup hy qy)
          · have : m = [] := (nil_of qy).mp e
            subst this
            rw [List.append_nil] at P
            exact P ι H _ (Ext.refl _ _) R (.tup hx qx)
          · obtain ⟨e2, R2⟩ := R.tup np (vs ++ ws)
            exact P ι _ _ e2 R2 (.tup upd_same ((qx.append qy).ext e2))
    · exact P.elim
  · split at P
    · rename_i m n l1 l2 e1 e2
      split at P
      · rename_i hz
        cases rx with
        | ref hx =>
          cases ry with
          | ref hy =>
            rename_i a b
            obtain ⟨vs, c1, q1⟩ := R.lst hx e1
            obtain ⟨ws, c2, q2⟩ := R.lst hy e2
            refine .inr (.inr (.inr ⟨a, b, vs, ws, rfl, rfl, c1, c2, ?_, fun p np => ?_⟩))
            · rw [q1.length, q2.length]; exact small_le hz
            · obtain ⟨e3, R3⟩ := R.new np (o := .lst (vs ++ ws)) (c := .lst (l1 ++ l2)) fun ι' H' e q => ⟨_, q, (q1.append q2).ext e⟩
              exact P _ _ _ e3 R3 (.ref (ref_new R p))
      · exact P.elim
    · exact P.elim
  · exact P.elim
theorem o_add {X : Cx} : OpR X (binaryOp .Add) (rAddA X.K) := op_add.or (op_add_str.or (op_catA.or op_cat))
def dSub (x y : D) (h : Hq) : Rs D := match x, y with
  | .int i, .int j => .ok (.int (i - j)) h
  | _, _ => .no
theorem s_sub : OpS K mg E dSub (rI0 fun i j => .int (i - j)) := by
  intro ι h H x y v w Q R rx ry P
  unfold dSub at P
  split at P
  · cases rx; cases ry
    exact ⟨_, _, rfl, rfl, P ι H _ (Ext.refl _ _) R (.int _)⟩
  · exact P.elim
def mulOk (i j : Int) : Bool := decide (i.natAbs.log2 + j.natAbs.log2 < 1000000)
def dMul (x y : D) (h : Hq) : Rs D := match x, y with
  | .int i, .int j => if mulOk i j = true then .ok (.int (i * j)) h else .no
  | .ref m, .int k => match lstAt h m with
    | some l => if 0 ≤ k ∧ k < 1000000 ∧ small (l.length * k.toNat) = true then .ok (.ref h.length) (h ++ [.lst (List.replicate k.toNat l).flatten]) else .no
    | none => .no
  | _, _ => .no
theorem VRs.rep {ι : List Addr} {H : Hp} {vs : List V} {l : List D} (r : VRs K ι H vs l) : ∀ n : Nat, VRs K ι H (List.replicate n vs).flatten (List.replicate n l).flatten
  | 0 => by simp only [List.replicate_zero, List.flatten_nil]; exact .nil
  | n + 1 => by simp only [List.replicate_succ, List.flatten_cons]; exact r.append (VRs.rep r n)
theorem s_mul : OpS K mg E dMul (fun x y H Q => rI CMulW (fun i j => .int (i * j)) x y H Q ∨ rRep x y H Q) := by
  intro ι h H x y v w Q R rx ry P
  unfold dMul at P
  split at P
  · split at P
    · rename_i i j hz
      cases rx; cases ry
      have hz' : CMulW i j := by unfold CMulW; exact of_decide_eq_true hz
      exact .inl ⟨_, _, rfl, rfl, hz', P ι H _ (Ext.refl _ _) R (.int _)⟩
    · exact P.elim
  · split at P
    · rename_i m k _ l e1
      split at P
      · rename_i hz
        cases rx with
        | ref hx =>
          cases ry
          rename_i a
          obtain ⟨vs, c1, q1⟩ := R.lst hx e1
          refine .inr ⟨a, k, vs, rfl, rfl, c1, by omega, by omega, ?_, fun p np => ?_⟩
          · rw [q1.length]; exact small_le hz.2.2
          · obtain ⟨e3, R3⟩ := R.new np (o := .lst (List.replicate k.toNat vs).flatten) (c := .lst (List.replicate k.toNat l).flatten) fun ι' H' e q => ⟨_, q, (q1.rep _).ext e⟩
            exact P _ _ _ e3 R3 (.ref (ref_new R p))
      · exact P.elim
    · exact P.elim
  · exact P.elim
theorem o_mul {X : Cx} : OpR X (binaryOp .Mult) (fun x y H Q => rI CMulW (fun i j => .int (i * j)) x y H Q ∨ rRep x y H Q) := op_mulW.or op_rep
def divOk (j : Int) : Bool := decide (0 < j) && decide (j.natAbs.log2 < 9000)
def dDiv (x y : D) (h : Hq) : Rs D := match x, y with
  | .int i, .int j => if divOk j = true then .ok (.int (i / j)) h else .no
  | _, _ => .no
theorem s_div : OpS K mg E dDiv (rI CDivW fun i j => .int (i / j)) := by
  intro ι h H x y v w Q R rx ry P
  unfold dDiv at P
  split at P
  · split at P
    · rename_i hz
      cases rx; cases ry
      have hz' := Bool.and_eq_true_iff.mp hz
      exact ⟨_, _, rfl, rfl, ⟨of_decide_eq_true hz'.1, of_decide_eq_true hz'.2⟩, P ι H _ (Ext.refl _ _) R (.int _)⟩
    · exact P.elim
  · exact P.elim
def dMod (x y : D) (h : Hq) : Rs D := match x, y with
  | .int i, .int j => if 0 < j then .ok (.int (i % j)) h else .no
  | _, _ => .no
theorem s_mod : OpS K mg E dMod (rI (fun _ j => 0 < j) fun i j => .int (i % j)) := by
  intro ι h H x y v w Q R rx ry P
  unfold dMod at P
  split at P
  · split at P
    · rename_i hz
      cases rx; cases ry
      exact ⟨_, _, rfl, rfl, hz, P ι H _ (Ext.refl _ _) R (.int _)⟩
    · exact P.elim
  · exact P.elim
def dPow (x y : D) (h : Hq) : Rs D := match x, y with
  | .int i, .int j => if 0 ≤ j ∧ j ≤ 1000 ∧ i.natAbs.log2 < 10000 then .ok (.int (i ^ j.toNat)) h else .no
  | _, _ => .no
def CPowL (i j : Int) : Prop := 0 ≤ j ∧ j ≤ 1000 ∧ i.natAbs.log2 < 10000
theorem o_pow {X : Cx} : OpR X (binaryOp .Pow) (rI CPowL fun i j => .int (i ^ j.toNat)) := opI fun i j _ _ _ _ _ hc q => PyProof.Rows.pow_int hc.1 (by
  obtain ⟨h0, h1, h2⟩ := hc
  have hb : Builtin.Int.intBits i ≤ 10000 := by
    unfold Builtin.Int.intBits
    split <;> omega
  have h3 : (Builtin.Int.intBits i : Int) * j ≤ 10000 * j := Int.mul_le_mul_of_nonneg_right (by omega) h0
  omega) q
theorem s_pow : OpS K mg E dPow (rI CPowL fun i j => .int (i ^ j.toNat)) := by
  intro ι h H x y v w Q R rx ry P
  unfold dPow at P
  split at P
  · split at P
    · rename_i hz
      cases rx; cases ry
      exact ⟨_, _, rfl, rfl, hz, P ι H _ (Ext.refl _ _) R (.int _)⟩
    · exact P.elim
  · exact P.elim
end
/-- one-place -/
def eUn (g : D → Hq → Rs D) (a : Sx) : Sx := fun fr h => (a fr h).bind g
def UnS (K : PySem.W.Frag) (mg : Str → Option Value) (E : XK) (g : D → Hq → Rs D) (r : V → Hp → VK → Prop) : Prop :=
  ∀ (ι : List Addr) (h : Hq) (H : Hp) (x : D) (v : V) (Q : VK), HR K ι h H → VR K ι H v x → PoV K mg ι H Q E (g x h) → r v H Q
section
variable {X : Cx} {E : XK} {a b c : Expr} {fa fb fc : Sx} {pos : Pos} {K : PySem.W.Frag} {mg : Str → Option Value}
theorem m_un {op : UnaryOp} {g : D → Hq → Rs D} {r : V → Hp → VK → Prop} (ho : UnR X (unaryOp op) r) (hs : UnS X.K X.mg E g r) (ha : PM X E a fa) : PM X E (.UnaryOp op a pos) (eUn g fa) := pe_imp (pe_un ho ha) fun σ H Q ⟨ι, h, fr, R, F, P⟩ => by
  refine ⟨ι, h, fr, R, F, Po.mono ?_ (Po.bind P)⟩
  rintro v H1 ⟨ι1, h1, x, e1, R1, r1, P1⟩
  exact hs ι1 h1 H1 x v Q R1 r1 P1
def dNeg (x : D) (h : Hq) : Rs D := match x with
  | .int i => .ok (.int (-i)) h
  | _ => .no
theorem s_neg : UnS K mg E dNeg (rU fun i => .int (-i)) := by
  intro ι h H x v Q R rx P
  unfold dNeg at P
  split at P
  · cases rx; exact ⟨_, rfl, P ι H _ (Ext.refl _ _) R (.int _)⟩
  · exact P.elim
theorem m_add (ha : PM X E a fa) (hb : PM X E b fb) : PM X E (.BinOp a .Add b pos) (eOp dAdd fa fb) := m_bin o_add s_add ha hb
theorem m_sub (ha : PM X E a fa) (hb : PM X E b fb) : PM X E (.BinOp a .Sub b pos) (eOp dSub fa fb) := m_bin op_sub s_sub ha hb
theorem m_mul (ha : PM X E a fa) (hb : PM X E b fb) : PM X E (.BinOp a .Mult b pos) (eOp dMul fa fb) := m_bin o_mul s_mul ha hb
theorem m_fdiv (ha : PM X E a fa) (hb : PM X E b fb) : PM X E (.BinOp a .FloorDiv b pos) (eOp dDiv fa fb) := m_bin op_fdivW s_div ha hb
theorem m_mod (ha : PM X E a fa) (hb : PM X E b fb) : PM X E (.BinOp a .Mod b pos) (eOp dMod fa fb) := m_bin op_mod s_mod ha hb
theorem m_pow (ha : PM X E a fa) (hb : PM X E b fb) : PM X E (.BinOp a .Pow b pos) (eOp dPow fa fb) := m_bin o_pow s_pow ha hb
theorem m_neg (ha : PM X E a fa) : PM X E (.UnaryOp .USub a pos) (eUn dNeg fa) := m_un un_neg s_neg ha
def dRel (p : Int → Int → Bool) (x y : D) (h : Hq) : Rs D := match x, y with
  | .int i, .int j => .ok (.bl (p i j)) h
  | _, _ => .no
theorem s_rel (p : Int → Int → Bool) : OpS K mg E (dRel p) (rI0 fun i j => .bl (p i j)) := by
  intro ι h H x y v w Q R rx ry P
  unfold dRel at P
  split at P
  · cases rx; cases ry
    exact ⟨_, _, rfl, rfl, P ι H _ (Ext.refl _ _) R (.bl _)⟩
  · exact P.elim
abbrev dLt : D → D → Hq → Rs D := dRel fun i j => decide (i < j)
abbrev dLe : D → D → Hq → Rs D := dRel fun i j => decide (i ≤ j)
abbrev dGt : D → D → Hq → Rs D := dRel fun i j => decide (j < i)
abbrev dGe : D → D → Hq → Rs D := dRel fun i j => decide (j ≤ i)
theorem m_lt (ha : PM X E a fa) (hb : PM X E b fb) : PMb X E (.Compare a [.Lt] [b] pos) (bOf (eOp dLt fa fb)) := m_cmp op_lt (s_rel _) ha hb (nomark _)
theorem m_le (ha : PM X E a fa) (hb : PM X E b fb) : PMb X E (.Compare a [.LtE] [b] pos) (bOf (eOp dLe fa fb)) := m_cmp op_le (s_rel _) ha hb (nomark _)
theorem m_gt (ha : PM X E a fa) (hb : PM X E b fb) : PMb X E (.Compare a [.Gt] [b] pos) (bOf (eOp dGt fa fb)) := m_cmp op_gt (s_rel _) ha hb (nomark _)
theorem m_gtV (ha : PM X E a fa) (hb : PM X E b fb) : PM X E (.Compare a [.Gt] [b] pos) (eOp dGt fa fb) := m_cmpV op_gt (s_rel _) ha hb (nomark _)
theorem m_geV (ha : PM X E a fa) (hb : PM X E b fb) : PM X E (.Compare a [.GtE] [b] pos) (eOp dGe fa fb) := m_cmpV op_ge (s_rel _) ha hb (nomark _)
/-- a chain a op b op' c of ints -/
def eChain (p q : Int → Int → Bool) (fa fb fc : Sx) : Sx := fun fr h => (fa fr h).bind fun x h1 => (fb fr h1).bind fun y h2 => match x, y with
  | .int i, .int j => if p i j = true then (fc fr h2).bind fun z h3 => dRel q (.int j) z h3 else .ok (.bl false) h2
  | _, _ => .no
theorem m_chainV {op op' : CmpOp} {p q : Int → Int → Bool} (ho : OpR X (compareOp op) (rI0 fun i j => .bl (p i j))) (ho' : OpR X (compareOp op') (rI0 fun i j => .bl (q i j))) (ha : PM X E a fa) (hb : PM X E b fb) (hc : PM X E c fc)
    (hm : lastMarks [op, op'] [b, c] = false := by with_unfolding_all rfl) : PM X E (.Compare a [op, op'] [b, c] pos) (eChain p q fa fb fc) := pe_imp (pe_chain ho ho' ha hb hc hm) fun σ H Q ⟨ι, h, fr, R, F, P⟩ => by
  refine ⟨ι, h, fr, R, F, Po.mono ?_ (Po.bind P)⟩
  rintro v H1 ⟨ι1, h1, x, e1, R1, r1, P1⟩
  refine ⟨ι1, h1, fr, R1, F.ext e1, Po.mono ?_ (Po.bind P1)⟩
  rintro w H2 ⟨ι2, h2, y, e2, R2, r2, P2⟩
  split at P2
  · rename_i i j
    cases r1; cases r2
    refine ⟨i, j, rfl, rfl, p i j, rfl, ?_⟩
    cases hp : p i j with
    | true =>
      rw [hp, if_pos rfl] at P2
      rw [if_pos rfl]
      refine ⟨ι2, h2, fr, R2, (F.ext e1).ext e2, Po.mono ?_ (Po.bind P2)⟩
      rintro z H3 ⟨ι3, h3, u, e3, R3, r3, P3⟩
      exact s_rel q ι3 h3 H3 (.int j) u _ z Q R3 (.int j) r3 P3
    | false =>
      rw [hp, if_neg Bool.false_ne_true] at P2
      rw [if_neg Bool.false_ne_true]
      exact P2 ι2 H2 _ (Ext.refl _ _) R2 (.bl false)
  · exact P2.elim
theorem m_leLe (ha : PM X E a fa) (hb : PM X E b fb) (hc : PM X E c fc) (hm : lastMarks [.LtE, .LtE] [b, c] = false := by with_unfolding_all rfl) :
    PM X E (.Compare a [.LtE, .LtE] [b, c] pos) (eChain (fun i j => decide (i ≤ j)) (fun i j => decide (i ≤ j)) fa fb fc) := m_chainV op_le op_le ha hb hc hm
/-- is None, is True, is False -/
def isV (x y : V) : Bool := match x, y with
  | .non, .non => true
  | .bl a, .bl b => a == b
  | _, _ => false
def isC (y : V) : Prop := y = .non ∨ ∃ b, y = .bl b
theorem op_isC {X : Cx} : OpR X (compareOp .Is) (fun x y H Q => isC y ∧ Q (.bl (isV x y)) H) := by
  intro pins s σ H x y v u Q I rx ry h
  obtain ⟨h | ⟨b, h⟩, q⟩ := h
  · subst h
    cases ry
    refine PyProof.Rows.is_none_gen (fin_bl I q ?_)
    cases x <;> first
      | (cases rx; rfl)
      | (obtain ⟨t, rfl⟩ := rx; rfl)
  · subst h
    cases ry
    cases x with
    | bl a => cases rx; exact PyProof.Rows.is_bool (fin_bl I q (by cases a <;> cases b <;> rfl))
    | _ => first
      | (cases rx; exact wpAny_is_other rfl (fun z => nomatch z) (fin_bl I q rfl))
      | (obtain ⟨t, rfl⟩ := rx; exact wpAny_is_other rfl (fun z => nomatch z) (fin_bl I q rfl))
def dIsN (neg : Bool) (x y : D) (h : Hq) : Rs D := match x, y with
  | .opq, _ => .no
  | .adr _, _ => .no
  | .ty _, _ => .no
  | .non, .non => .ok (.bl (!neg)) h
  | _, .non => .ok (.bl neg) h
  | .bl a, .bl b => .ok (.bl ((a == b) != neg)) h
  | _, .bl _ => .ok (.bl neg) h
  | _, _ => .no
theorem s_isC (neg : Bool) : OpS K mg E (dIsN neg) (fun x y H Q => isC y ∧ Q (.bl (isV x y != neg)) H) := by
  intro ι h H x y v w Q R rx ry P
  have k : ∀ b, dIsN neg x y h = .ok (.bl b) h → isC w ∧ isV v w = (b != neg) → isC w ∧ Q (.bl (isV v w != neg)) H := fun b e ⟨c, q⟩ => by
    rw [e] at P
    refine ⟨c, ?_⟩
    have := P ι H _ (Ext.refl _ _) R (.bl b)
    rw [q]
    cases b <;> cases neg <;> exact this
  have n0 : ((!neg) != neg) = true := by cases neg <;> rfl
  have n1 : (neg != neg) = false := by cases neg <;> rfl
  have n2 : ∀ a : Bool, ((a != neg) != neg) = a := fun a => by cases a <;> cases neg <;> rfl
  cases ry with
  | non => cases rx <;> first
    | exact P.elim
    | exact k _ rfl ⟨.inl rfl, by first | exact n0.symm | exact n1.symm⟩
  | bl b => cases rx <;> first
    | exact P.elim
    | exact k _ rfl ⟨.inr ⟨_, rfl⟩, by first | exact n1.symm | exact (n2 _).symm⟩
  | _ => cases rx <;> exact P.elim
theorem s_isN : OpS K mg E (dIsN false) (fun x y H Q => isC y ∧ Q (.bl (isV x y)) H) := fun ι h H x y v w Q R rx ry P => by
  have := s_isC (K := K) (mg := mg) (E := E) false ι h H x y v w Q R rx ry P
  simpa using this
theorem m_isN (ha : PM X E a fa) (hb : PM X E b fb) : PMb X E (.Compare a [.Is] [b] pos) (bOf (eOp (dIsN false) fa fb)) := m_cmp op_isC s_isN ha hb (nomark _)
def opts {α β : Type} (f : α → Option β) : List α → Option (List β)
  | [] => some []
  | d :: l => match f d, opts f l with
    | some p, some q => some (p :: q)
    | _, _ => none
def toPy (h : Hq) : Nat → D → Option PyData
  | 0, _ => none
  | _ + 1, .non => some .none
  | _ + 1, .bl b => some (.bool b)
  | _ + 1, .int i => some (.int i)
  | _ + 1, .str x => some (.str x)
  | n + 1, .tup l => (opts (toPy h n) l).map .tuple
  | n + 1, .ref m => match lstAt h m with
    | some l => (opts (toPy h n) l).map .list
    | none => none
  | _ + 1, .scr l => some (.list (l.map .int))
  | _ + 1, .opq => none
  | _ + 1, .adr _ => none
  | _ + 1, .ty _ => none
theorem dp_ints {H : Hp} : ∀ l : List Int, DpAll K H (l.map V.int) (l.map PyData.int)
  | [] => .nil
  | i :: l => .cons (.int i) (dp_ints l)
theorem dp_all {ι : List Addr} {H : Hp} {f : D → Option PyData} (hf : ∀ d p v, f d = some p → VR K ι H v d → Dp K H v p) : ∀ {l : List D} {ps : List PyData} {vs : List V}, opts f l = some ps → VRs K ι H vs l → DpAll K H vs ps
  | [], ps, vs, e, r => by
    cases r
    cases e
    exact .nil
  | d :: l, ps, vs, e, r => by
    unfold opts at e
    split at e
    · rename_i p q h1 h2
      cases e
      cases r with
      | cons r1 r2 => exact .cons (hf _ _ _ h1 r1) (dp_all hf h2 r2)
    · cases e
theorem dp_of {ι : List Addr} {h : Hq} {H : Hp} (R : HR K ι h H) : ∀ (n : Nat) (d : D) (p : PyData) (v : V), toPy h n d = some p → VR K ι H v d → Dp K H v p
  | 0, _, _, _, e, _ => by cases e
  | n + 1, d, p, v, e, r => by
    cases r with
    | non => cases e; exact .non
    | bl b => cases e; exact .bl b
    | int i => cases e; exact .int i
    | str x => cases e; exact .str x
    | tup hx q =>
      rename_i a vs l
      have e' : (opts (toPy h n) l).map PyData.tuple = some p := e
      obtain ⟨ps, h1, h2⟩ := Option.map_eq_some_iff.mp e'
      subst h2
      exact .tup (.of hx) (dp_all (fun d p v => dp_of R n d p v) h1 q)
    | ref hx =>
      rename_i a m
      have e' : (match lstAt h m with | some l => (opts (toPy h n) l).map PyData.list | none => none) = some p := e
      split at e'
      · rename_i l hl
        obtain ⟨ps, h1, h2⟩ := Option.map_eq_some_iff.mp e'
        subst h2
        obtain ⟨vs, c1, q1⟩ := R.lst hx hl
        exact .lst (.of c1) (dp_all (fun d p v => dp_of R n d p v) h1 q1)
      · cases e'
    | scr hx =>
      cases e
      exact .lst hx.sq (dp_ints _)
    | opq v => cases e
    | adr a => cases e
    | ty n => cases e
def eqQ (neg : Bool) (x y : D) (h : Hq) : Option Bool := match x, y with
  | .str a, .str b => some (decide (a = b) != neg)
  | .ref m, .str _ => match h[m]? with
    | some (.dct _) => if neg = true then none else some false
    | _ => none
  | _, _ => none
/-- dicts, beside one another and beside what is none -/
def dctOf (h : Hq) : D → Option (List (L2.Key × D))
  | .ref m => match h[m]? with
    | some (.dct l) => some l
    | _ => none
  | _ => none
def plainK (h : Hq) : D → Bool
  | .non => true
  | .bl _ => true
  | .int _ => true
  | .str _ => true
  | .tup _ => true
  | .scr _ => true
  | .ref m => (lstAt h m).isSome
  | _ => false
def valD (l : List (L2.Key × D)) (k : L2.Key) : Option D := (l.find? fun kv => decide (kv.1 = k)).map (·.2)
def sameI : Option D → D → Bool
  | some (.int i), .int j => decide (i = j)
  | _, _ => false
def dctEq (ks ls : List (L2.Key × D)) : Option Bool := if ks.length = ls.length then (if ks.all (fun p => sameI (valD ls p.1) p.2) = true then some true else none) else some false
def lenX (h : Hq) : D → D → Bool
  | .ref m, .ref k => match lstAt h m, lstAt h k with
    | some a, some b => !decide (a.length = b.length)
    | _, _ => false
  | _, _ => false
def eqX (neg : Bool) (x y : D) (h : Hq) : Option Bool := if lenX h x y = true then some neg else if neg = true then none else match dctOf h x, dctOf h y with
  | some ks, some ls => dctEq ks ls
  | some _, none => if plainK h y = true then some false else none
  | none, some _ => if plainK h x = true then some false else none
  | none, none => none
def eqO (o : Option Bool) (h : Hq) : Rs D := match o with
  | some b => .ok (.bl b) h
  | none => .no
def dEqP (neg : Bool) (x y : D) (h : Hq) : Rs D := match toPy h 60 x, toPy h 60 y with
  | some p, some q => if SeqAt.shaped p = true ∧ SeqAt.shaped q = true then .ok (.bl (PyData.eqv p q != neg)) h else eqO (eqX neg x y h) h
  | _, _ => eqO (eqX neg x y h) h
theorem eqO_in {ι : List Addr} {h : Hq} {H : Hp} {o : Option Bool} {Q : VK} (R : HR K ι h H) (P : PoV K mg ι H Q E (eqO o h)) : ∃ b, o = some b ∧ Q (.bl b) H := by
  cases o with
  | some b => exact ⟨b, rfl, P ι H _ (Ext.refl _ _) R (.bl _)⟩
  | none => exact P.elim
def dEqs (neg : Bool) (x y : D) (h : Hq) : Rs D := match eqQ neg x y h with
  | some b => .ok (.bl b) h
  | none => dEqP neg x y h
theorem dec_str {a b : Str} : decide (V.str a = V.str b) = decide (a = b) := by
  rw [Bool.eq_iff_iff]
  simp
theorem eqQ_in {ι : List Addr} {h : Hq} {H : Hp} {neg b : Bool} {x y : D} {v w : V} (R : HR K ι h H) (rx : VR K ι H v x) (ry : VR K ι H w y) (e : eqQ neg x y h = some b) :
    (∃ p q, v = .str p ∧ w = .str q ∧ b = (decide (p = q) != neg)) ∨ (neg = false ∧ b = false ∧ ∃ a kvs z, v = .ref a ∧ w = .str z ∧ H a = some (.dK kvs)) := by
  unfold eqQ at e
  split at e
  · cases rx; cases ry; cases e
    exact .inl ⟨_, _, rfl, rfl, rfl⟩
  · split at e
    · rename_i l hl
      split at e
      · cases e
      · rename_i hn
        cases e
        cases rx with
        | ref hx =>
          cases ry
          obtain ⟨kvs, c1, _⟩ := R.cells _ _ _ hl hx
          exact .inr ⟨by simpa using hn, rfl, _, kvs, _, rfl, rfl, c1⟩
    · cases e
  · cases e
theorem dctOf_in {ι : List Addr} {h : Hq} {H : Hp} (R : HR K ι h H) {x : D} {v : V} (rx : VR K ι H v x) {l : List (L2.Key × D)} (e : dctOf h x = some l) : ∃ a kvs, v = .ref a ∧ H a = some (.dK kvs) ∧ kvs.map (·.1) = l.map (·.1) ∧ VRs K ι H (kvs.map (·.2)) (l.map (·.2)) := by
  unfold dctOf at e
  split at e
  · split at e
    · rename_i hl
      cases e
      cases rx with
      | ref hx =>
        obtain ⟨kvs, c1, k1, q1⟩ := R.cells _ _ _ hl hx
        exact ⟨_, kvs, rfl, c1, k1, q1⟩
    · cases e
  · cases e
theorem plainK_in {ι : List Addr} {h : Hq} {H : Hp} (R : HR K ι h H) {x : D} {v : V} (rx : VR K ι H v x) (e : plainK h x = true) : NoDV K H v := by
  cases rx with
  | non => exact .inl rfl
  | bl b => exact .inr (.inl ⟨_, rfl⟩)
  | int i => exact .inr (.inr (.inl ⟨_, rfl⟩))
  | str z => exact .inr (.inr (.inr (.inl ⟨_, rfl⟩)))
  | tup hx q => exact .inr (.inr (.inr (.inr (.inr ⟨_, _, rfl, .of hx⟩))))
  | scr hx => exact .inr (.inr (.inr (.inr (.inl ⟨_, _, rfl, hx.sq⟩))))
  | ref hx =>
    rename_i a m
    cases hl : lstAt h m with
    | none =>
      have e' : (lstAt h m).isSome = true := e
      rw [hl] at e'; cases e'
    | some l =>
      obtain ⟨vs, c1, _⟩ := R.lst hx hl
      exact .inr (.inr (.inr (.inr (.inl ⟨_, _, rfl, .of c1⟩))))
  | opq v => cases e
  | adr a => cases e
  | ty n => cases e
theorem valD_in {ι : List Addr} {H : Hp} : ∀ {kvs : List (L2.Key × V)} {l : List (L2.Key × D)} {k : L2.Key} {d : D}, kvs.map (·.1) = l.map (·.1) → VRs K ι H (kvs.map (·.2)) (l.map (·.2)) → valD l k = some d → ∃ v, valV kvs k = some v ∧ VR K ι H v d
  | [], [], _, _, _, _, e => by cases e
  | [], _ :: _, _, _, hk, _, _ => by cases hk
  | _ :: _, [], _, _, hk, _, _ => by cases hk
  | p :: kvs, q :: l, k, d, hk, r, e => by
    have h1 : p.1 = q.1 := (List.cons.inj hk).1
    cases r with
    | cons r1 r2 =>
      by_cases c : q.1 = k
      · rw [show valD (q :: l) k = some q.2 from by simp [valD, List.find?_cons, c]] at e
        cases e
        exact ⟨_, valV_pos (h1.trans c), r1⟩
      · rw [show valD (q :: l) k = valD l k from by simp [valD, List.find?_cons, c]] at e
        rw [valV_neg (fun z => c (h1.symm.trans z))]
        exact valD_in (List.cons.inj hk).2 r2 e
theorem dctEq_in {ι : List Addr} {H : Hp} {lvs : List (L2.Key × V)} {ls : List (L2.Key × D)} (k2 : lvs.map (·.1) = ls.map (·.1)) (q2 : VRs K ι H (lvs.map (·.2)) (ls.map (·.2))) :
    ∀ {kvs : List (L2.Key × V)} {ks : List (L2.Key × D)}, kvs.map (·.1) = ks.map (·.1) → VRs K ι H (kvs.map (·.2)) (ks.map (·.2)) → ks.all (fun p => sameI (valD ls p.1) p.2) = true → ∀ p ∈ kvs, valV lvs p.1 = some p.2 ∧ flatB p.2 = true
  | [], [], _, _, _, p, hp => by cases hp
  | [], _ :: _, hk, _, _, _, _ => by cases hk
  | _ :: _, [], hk, _, _, _, _ => by cases hk
  | p :: kvs, q :: ks, hk, r, e, z, hz => by
    rw [List.all_cons, Bool.and_eq_true] at e
    have h1 : p.1 = q.1 := (List.cons.inj hk).1
    cases r with
    | cons r1 r2 =>
      rcases List.mem_cons.mp hz with rfl | hz
      · have e1 := e.1
        unfold sameI at e1
        split at e1
        · rename_i i j hv hj
          obtain ⟨v, f1, f2⟩ := valD_in k2 q2 hv
          have r1 : VR K ι H z.2 q.2 := r1
          rw [hj] at r1
          rw [h1, f1]
          cases f2
          have hij : i = j := of_decide_eq_true e1
          subst hij
          have e4 : ∀ {v : V} {j : Int}, VR K ι H v (.int j) → v = .int j := fun r => by cases r; rfl
          have e3 : z.2 = V.int i := e4 r1
          rw [e3]
          exact ⟨rfl, rfl⟩
        · cases e1
      · exact dctEq_in k2 q2 (List.cons.inj hk).2 r2 e.2 z hz
theorem lenX_in {ι : List Addr} {h : Hq} {H : Hp} {x y : D} {v w : V} (R : HR K ι h H) (rx : VR K ι H v x) (ry : VR K ι H w y) (e : lenX h x y = true) : ∃ a c xs ys, v = .ref a ∧ w = .ref c ∧ H a = some (.lst xs) ∧ H c = some (.lst ys) ∧ xs.length ≠ ys.length := by
  unfold lenX at e
  split at e
  · split at e
    · rename_i m k _ _ l1 l2 e1 e2
      cases rx with
      | ref hx =>
        cases ry with
        | ref hy =>
          obtain ⟨vs, c1, q1⟩ := R.lst hx e1
          obtain ⟨ws, c2, q2⟩ := R.lst hy e2
          have n1 := q1.length
          have n2 := q2.length
          exact ⟨_, _, vs, ws, rfl, rfl, c1, c2, by simp at e; omega⟩
    · cases e
  · cases e
theorem eqX_in {ι : List Addr} {h : Hq} {H : Hp} {neg b : Bool} {x y : D} {v w : V} (R : HR K ι h H) (rx : VR K ι H v x) (ry : VR K ι H w y) (e : eqX neg x y h = some b) :
    (b = neg ∧ ∀ Q : VK, Q (.bl neg) H → rLL neg v w H Q) ∨ (neg = false ∧ ∀ Q : VK, Q (.bl b) H → rEqDX K v w H Q ∨ (rEqDL v w H Q ∨ rEqDA v w H Q)) := by
  unfold eqX at e
  split at e
  · rename_i hl
    cases e
    obtain ⟨a, c, xs, ys, h1, h2, h3, h4, h5⟩ := lenX_in R rx ry hl
    exact .inl ⟨rfl, fun Q q => ⟨a, c, xs, ys, h1, h2, h3, h4, h5, q⟩⟩
  split at e
  · cases e
  · rename_i hn
    refine .inr ⟨by simpa using hn, fun Q q => ?_⟩
    split at e
    · rename_i ks ls hx hy
      obtain ⟨a, kvs, rfl, c1, k1, q1⟩ := dctOf_in R rx hx
      obtain ⟨a2, lvs, rfl, c2, k2, q2⟩ := dctOf_in R ry hy
      have l1 := congrArg List.length k1
      have l2 := congrArg List.length k2
      simp only [List.length_map] at l1 l2
      unfold dctEq at e
      split at e
      · rename_i hl
        split at e
        · rename_i ha
          cases e
          exact .inr (.inr ⟨a, a2, kvs, lvs, rfl, rfl, c1, c2, by omega, dctEq_in k2 q2 k1 q1 ha, q⟩)
        · cases e
      · rename_i hl
        cases e
        exact .inr (.inl ⟨a, a2, kvs, lvs, rfl, rfl, c1, c2, by omega, q⟩)
    · rename_i hx hy
      split at e
      · rename_i hp
        cases e
        obtain ⟨a, kvs, rfl, c1, _⟩ := dctOf_in R rx hx
        exact .inl ⟨⟨a, kvs, c1, .inl ⟨rfl, plainK_in R ry hp⟩⟩, q⟩
      · cases e
    · rename_i hx hy
      split at e
      · rename_i hp
        cases e
        obtain ⟨a, kvs, rfl, c1, _⟩ := dctOf_in R ry hy
        exact .inl ⟨⟨a, kvs, c1, .inr ⟨rfl, plainK_in R rx hp⟩⟩, q⟩
      · cases e
    · cases e
theorem s_eq : OpS K mg E (dEqs false) (fun x y H Q => rEq x y H Q ∨ (rEqDS x y H Q ∨ (rEqD K x y H Q ∨ (rLL false x y H Q ∨ (rEqDX K x y H Q ∨ (rEqDL x y H Q ∨ rEqDA x y H Q)))))) := by
  intro ι h H x y v w Q R rx ry P
  have fx : PoV K mg ι H Q E (eqO (eqX false x y h) h) → rEq v w H Q ∨ (rEqDS v w H Q ∨ (rEqD K v w H Q ∨ (rLL false v w H Q ∨ (rEqDX K v w H Q ∨ (rEqDL v w H Q ∨ rEqDA v w H Q))))) := fun P => by
    obtain ⟨b, e, Pq⟩ := eqO_in R P
    rcases eqX_in R rx ry e with ⟨rfl, f⟩ | ⟨_, f⟩
    · exact .inr (.inr (.inr (.inl (f Q Pq))))
    · exact .inr (.inr (.inr (.inr (f Q Pq))))
  unfold dEqs at P
  split at P
  · rename_i b e
    have := P ι H _ (Ext.refl _ _) R (.bl _)
    rcases eqQ_in R rx ry e with ⟨p, q, rfl, rfl, rfl⟩ | ⟨_, rfl, a, kvs, z, rfl, rfl, hx⟩
    · refine .inl ⟨rfl, ?_⟩
      rw [dec_str]
      rw [Bool.bne_false] at this
      exact this
    · exact .inr (.inl ⟨a, kvs, z, rfl, rfl, hx, this⟩)
  · unfold dEqP at P
    split at P
    · rename_i p q e1 e2
      split at P
      · rename_i hs
        have := P ι H _ (Ext.refl _ _) R (.bl _)
        rw [Bool.bne_false] at this
        exact .inr (.inr (.inl ⟨p, q, dp_of R 60 x p v e1 rx, dp_of R 60 y q w e2 ry, hs.1, hs.2, this⟩))
      · exact fx P
    · exact fx P
theorem s_ne : OpS K mg E (dEqs true) (fun x y H Q => rNe x y H Q ∨ (rNeD K x y H Q ∨ rLL true x y H Q)) := by
  intro ι h H x y v w Q R rx ry P
  have fx : PoV K mg ι H Q E (eqO (eqX true x y h) h) → rNe v w H Q ∨ (rNeD K v w H Q ∨ rLL true v w H Q) := fun P => by
    obtain ⟨b, e, Pq⟩ := eqO_in R P
    rcases eqX_in R rx ry e with ⟨rfl, f⟩ | ⟨hn, _⟩
    · exact .inr (.inr (f Q Pq))
    · cases hn
  unfold dEqs at P
  split at P
  · rename_i b e
    have := P ι H _ (Ext.refl _ _) R (.bl _)
    rcases eqQ_in R rx ry e with ⟨p, q, rfl, rfl, rfl⟩ | ⟨hn, _⟩
    · refine .inl ⟨rfl, ?_⟩
      rw [dec_str]
      rw [Bool.bne_true] at this
      exact this
    · cases hn
  · unfold dEqP at P
    split at P
    · rename_i p q e1 e2
      split at P
      · rename_i hs
        have := P ι H _ (Ext.refl _ _) R (.bl _)
        rw [Bool.bne_true] at this
        exact .inr (.inl ⟨p, q, dp_of R 60 x p v e1 rx, dp_of R 60 y q w e2 ry, hs.1, hs.2, this⟩)
      · exact fx P
    · exact fx P
theorem m_eq (hu : X.A.units + 64 < cLine) (ha : PM X E a fa) (hb : PM X E b fb) : PMb X E (.Compare a [.Eq] [b] pos) (bOf (eOp (dEqs false) fa fb)) := m_cmp (op_eq.or ((op_eqDS hu).or ((op_eqD hu).or ((op_eqLL hu).or ((op_eqDX hu).or ((op_eqDL hu).or (op_eq_dictA (by omega)))))))) s_eq ha hb (nomark _)
theorem m_ne (hu : X.A.units + 64 < cLine) (ha : PM X E a fa) (hb : PM X E b fb) : PMb X E (.Compare a [.NotEq] [b] pos) (bOf (eOp (dEqs true) fa fb)) := m_cmp (op_ne.or ((op_neD hu).or (op_neLL hu))) s_ne ha hb (nomark _)
theorem m_eqV (hu : X.A.units + 64 < cLine) (ha : PM X E a fa) (hb : PM X E b fb) : PM X E (.Compare a [.Eq] [b] pos) (eOp (dEqs false) fa fb) := m_cmpV (op_eq.or ((op_eqDS hu).or ((op_eqD hu).or ((op_eqLL hu).or ((op_eqDX hu).or ((op_eqDL hu).or (op_eq_dictA (by omega)))))))) s_eq ha hb (nomark _)
theorem m_neV (hu : X.A.units + 64 < cLine) (ha : PM X E a fa) (hb : PM X E b fb) : PM X E (.Compare a [.NotEq] [b] pos) (eOp (dEqs true) fa fb) := m_cmpV (op_ne.or ((op_neD hu).or (op_neLL hu))) s_ne ha hb (nomark _)
def dIx (x y : D) (h : Hq) : Rs D := match x, y with
  | .tup l, .int i => match atI l i with
    | some d => .ok d h
    | none => .no
  | .ref m, .int i => match lstAt h m with
    | some l => match atI l i with
      | some d => .ok d h
      | none => .no
    | none => .no
  | .scr l, .int i => match atI l i with
    | some k => .ok (.int k) h
    | none => .no
  | _, _ => .no
theorem atI_at {α β : Type} {xs : List α} {ys : List β} (hl : xs.length = ys.length) {i : Int} {y : β} (h : atI ys i = some y) : ∃ j : Nat, ys[j]? = some y ∧ ∀ x, xs[j]? = some x → atI xs i = some x := by
  unfold atI at h ⊢
  rw [hl]
  cases e : ixN ys.length i with
  | none => rw [e] at h; cases h
  | some j => rw [e] at h; exact ⟨j, h, fun x hx => hx⟩
theorem s_ix : OpS K mg E dIx (fun x y H Q => rIxL K x y H Q ∨ rIxT K x y H Q) := by
  intro ι h H x y v w Q R rx ry P
  unfold dIx at P
  split at P
  · split at P
    · rename_i l i _ d e
      cases rx with
      | tup hx q =>
        cases ry
        rename_i a vs
        obtain ⟨j, h1, h2⟩ := atI_at q.length e
        obtain ⟨u, g1, g2⟩ := q.get h1
        exact .inr ⟨a, vs, i, u, rfl, rfl, .of hx, h2 u g1, P ι H u (Ext.refl _ _) R g2⟩
    · exact P.elim
  · split at P
    · split at P
      · rename_i m i _ l hl _ d e
        cases rx with
        | ref hx =>
          cases ry
          rename_i a
          obtain ⟨vs, c1, q⟩ := R.lst hx hl
          obtain ⟨j, h1, h2⟩ := atI_at q.length e
          obtain ⟨u, g1, g2⟩ := q.get h1
          exact .inl ⟨a, vs, i, u, rfl, rfl, .of c1, h2 u g1, P ι H u (Ext.refl _ _) R g2⟩
      · exact P.elim
    · exact P.elim
  · split at P
    · rename_i l i _ k e
      cases rx with
      | scr hx =>
        cases ry
        rename_i a
        obtain ⟨j, h1, h2⟩ := atI_at (xs := l.map V.int) (by simp) e
        exact .inl ⟨a, _, i, .int k, rfl, rfl, hx.sq, h2 _ (by rw [List.getElem?_map, h1]; rfl), P ι H _ (Ext.refl _ _) R (.int k)⟩
    · exact P.elim
  · exact P.elim
theorem m_ix (ha : PM X E a fa) (hb : PM X E b fb) (hs : PlainIx b := by exact fun _ _ => rfl) : PM X E (.Subscript a b pos) (eOp dIx fa fb) := pe_imp (pe_ix (ix_list.or ix_tup) ha hb hs) fun _ _ _ q => op_in s_ix q
end
/-- the parts of a slice -/
abbrev So := Fr → Hq → Rs (Option Int)
def oNone : So := fun _ h => .ok none h
def oSome (f : Sx) : So := fun fr h => (f fr h).bind fun x h1 => match x with
  | .int i => .ok (some i) h1
  | _ => .no
def tMo (K : PySem.W.Frag) (mg : Str → Option Value) (E : XK) (f : So) : TO := fun σ H Q => ∃ ι h fr, HR K ι h H ∧ FR K ι H σ fr ∧ Po K mg (fun _ _ (b c : Option Int) => b = c) ι H Q E (f fr h)
abbrev PMo (X : Cx) (E : XK) (e : Option Expr) (f : So) : Prop := PO X e (tMo X.K X.mg E f)
def cutD (xs : List D) (lo hi : Option Int) : List D := (xs.drop (HT.sIx xs.length 0 lo)).take (HT.sIx xs.length xs.length hi - HT.sIx xs.length 0 lo)
def dCut (x : D) (lo hi : Option Int) (h : Hq) : Rs D := match x with
  | .tup l => .ok (.tup (cutD l lo hi)) h
  | .ref m => match lstAt h m with
    | some l => .ok (.ref h.length) (h ++ [.lst (cutD l lo hi)])
    | none => .no
  | _ => .no
def eCut (f : Sx) (lo hi : So) : Sx := fun fr h => (f fr h).bind fun x h1 => (lo fr h1).bind fun l h2 => (hi fr h2).bind fun u h3 => dCut x l u h3
theorem cut_rel {K : PySem.W.Frag} {ι : List Addr} {H : Hp} {vs : List V} {l : List D} (r : VRs K ι H vs l) (lo hi : Option Int) : VRs K ι H (cutV vs lo hi) (cutD l lo hi) := by
  unfold cutV cutD
  rw [r.length]
  exact (r.drop _).take _
theorem cut_whole {l : List D} {lo hi : Option Int} (h : HT.sIx l.length 0 lo = 0 ∧ HT.sIx l.length l.length hi = l.length) : cutD l lo hi = l := by
  unfold cutD
  rw [h.1, h.2]
  simp
section
variable {X : Cx} {E : XK} {a : Expr} {fa : Sx} {lo hi : Option Expr} {fl fu : So} {pos p2 : Pos}
theorem m_ono : PMo X E none oNone := ⟨fun pins s σ H Q I ⟨ι, h, fr, R, F, P⟩ => po_none.run pins s σ H Q I (P ι H _ (Ext.refl _ _) R rfl)⟩
theorem m_oso (ha : PM X E a fa) : PMo X E (some a) (oSome fa) := ⟨fun pins s σ H Q I ⟨ι, h, fr, R, F, P⟩ => (po_some ha).run pins s σ H Q I (by
  refine ⟨ι, h, fr, R, F, Po.mono ?_ (Po.bind P)⟩
  rintro v H1 ⟨ι1, h1, x, e1, R1, r1, P1⟩
  split at P1
  · cases r1; exact ⟨_, rfl, P1 ι1 H1 _ (Ext.refl _ _) R1 rfl⟩
  · exact P1.elim)⟩
theorem m_cut (ha : PM X E a fa) (hl : PMo X E lo fl) (hu : PMo X E hi fu) : PM X E (.Subscript a (.Slice lo hi none p2) pos) (eCut fa fl fu) := pe_imp (pe_slice (sl_tupA.or sl_list) ha hl hu) fun σ H Q ⟨ι, h, fr, R, F, P⟩ => by
  refine ⟨ι, h, fr, R, F, Po.mono ?_ (Po.bind P)⟩
  rintro v H1 ⟨ι1, h1, x, e1, R1, r1, P1⟩
  refine ⟨ι1, h1, fr, R1, F.ext e1, Po.mono ?_ (Po.bind P1)⟩
  rintro l H2 ⟨ι2, h2, l', e2, R2, r2, P2⟩
  subst r2
  refine ⟨ι2, h2, fr, R2, (F.ext e1).ext e2, Po.mono ?_ (Po.bind P2)⟩
  rintro u H3 ⟨ι3, h3, u', e3, R3, r3, P3⟩
  subst r3
  have rx := r1.ext (e2.trans e3)
  unfold dCut at P3
  split at P3
  · cases rx with
    | tup hx q =>
      rename_i xs a vs
      refine .inl ⟨a, vs, rfl, .of hx, fun hw => ?_, fun _ p np => ?_⟩
      · rw [q.length] at hw
        rw [cut_whole hw] at P3
        exact P3 ι3 H3 _ (Ext.refl _ _) R3 (.tup hx q)
      · obtain ⟨e4, R4⟩ := R3.tup np (cutV vs l u)
        exact P3 ι3 _ _ e4 R4 (.tup upd_same ((cut_rel q l u).ext e4))
  · split at P3
    · rename_i m xs hl
      cases rx with
      | ref hx =>
        rename_i a
        obtain ⟨vs, c1, q⟩ := R3.lst hx hl
        refine .inr ⟨a, vs, rfl, .of c1, fun p np => ?_⟩
        obtain ⟨e4, R4⟩ := R3.new np (o := .lst (cutV vs l u)) (c := .lst (cutD xs l u)) fun ι' H' e z => ⟨_, z, (cut_rel q l u).ext e⟩
        exact P3 _ _ _ e4 R4 (.ref (ref_new R3 p))
    · exact P3.elim
  · exact P3.elim
end
end MI
end
section
set_option Elab.async false
set_option linter.all false
set_option autoImplicit false
set_option maxRecDepth 100000
set_option maxHeartbeats 4000000
namespace MI
open PySem L2
/-- the def at f, called (below the guards' line) with plain things, is worth what sem tells -/
structure FnG (P : Program) (w : World) (K : PySem.W.Frag) (mg : Str → Option Value) (base : Heap) (k : Nat) (f : Addr) (fd : FuncData) (ps : List Str) (sem : Sf) : Prop where
  go : ∀ (A : Around) (outer : List Env) (s : Shared) (H : Hp) (args : Args) (us : List Value) (vs : List V) (ds : List D) (ι : List Addr) (h : Hq) (Q : VK) (E : XK),
    Room k A → A.guards = some [] → Env0 P w K mg base A outer s H → BindsTo s fd args (ps.zip us) → Vals vs us → HR K ι h H → VRs K ι H vs ds → ds.length = ps.length →
    PoV K mg ι H Q E (sem ds h) → codeAny (model P w) A (.call (.ref f) args) (L2.CR (L2.CX P w) outer P w H s Q E) s
theorem FnG.mono {P : Program} {w : World} {K : PySem.W.Frag} {mg : Str → Option Value} {base : Heap} {j k : Nat} {f : Addr} {fd : FuncData} {ps : List Str} {sem : Sf} (F : FnG P w K mg base j f fd ps sem) (hjk : j ≤ k) : FnG P w K mg base k f fd ps sem :=
  ⟨fun A outer s H args us vs ds ι h Q E hr => F.go A outer s H args us vs ds ι h Q E (hr.mono hjk)⟩
/-- where a def's body stands: what is raised is taken as E tells, the guards' line is free -/
structure Wh (X : Cx) (E : XK) : Prop where
  tk : Takes X (fun cls d _ H => E cls d H)
  po : PassesOwn (model X.prog X.w) X.A X.env X.xe
  gd : X.A.guards = some []
  calm : X.calm = true
  nd : X.N.Nodup
def eCall (n : Nat) (sem : Sf) (f : Sa) : Sx := fun fr h => (f fr h).bind fun ds h1 => if ds.length = n then sem ds h1 else .no
section
variable {X : Cx} {E : XK} {k : Nat} {f : Addr} {fd : FuncData} {ps : List Str} {sem : Sf} {x : Str} {p pos : Pos} {a : Expr} {as : List Expr} {fs : Sa}
theorem runG {pins : List (Addr × Obj)} {σ : L2.St} {H : Hp} {s : Shared} {Q : VK} {us : List Value} {vs : List V} {ds : List D} {ι : List Addr} {h : Hq} {args : Args} {us' : List Value} {vs' : List V} (F : FnG X.prog X.w X.K X.mg X.base k f fd ps sem) (wh : Wh X E) (hr : Room k X.A)
    (I : Inv X pins σ H s) (hb : BindsTo s fd args (ps.zip us')) (rv : Vals vs' us') (R : HR X.K ι h H) (r : VRs X.K ι H vs' ds) (hl : ds.length = ps.length) (P : PoV X.K X.mg ι H Q E (sem ds h)) :
    codeAny (model X.prog X.w) X.A (.call (.ref f) args) (fun r s' => match r with
      | .ok (.ret u) => EP X pins σ Q u s'
      | .ok _ => False
      | .error e => X.xe e s') s := by
  refine codeAny_mono (F.go X.A X.stack s H args us' vs' ds ι h Q E hr wh.gd I.env0 hb rv R r hl P) fun z s' q => ?_
  cases z with
  | error e => exact wh.tk e s' (XE.of_call (W := fun cls d _ H => E cls d H) I (fun _ _ _ z => z) q)
  | ok fl =>
    cases fl with
    | ret u => exact I.after q
    | next => exact q.elim
    | brk => exact q.elim
    | cont => exact q.elim
/-- f(e, ..): the written arguments, then the defaults -/
theorem m_callD {dds : List D} {dvs : List V} {dus : List Value} (F : FnG X.prog X.w X.K X.mg X.base k f fd ps sem) (wh : Wh X E) (hr : Room k X.A) (hm : X.mg x = some (.ref f)) (hk : PySem.W.keepIn X.K (.ref f) = true) (hb : Binds X.K fd ps dus)
    (hd : Vals dvs dus) (hdd : ∀ ι H, VRs X.K ι H dvs dds) (ha : PMa X E (a :: as) fs) (hg : Gl X x := by rfl) (hdb : (x == ("__debug__" : Str)) = false := by decide)
    (he : starEach (a :: as) X.env = (false, eval a X.env) :: starEach as X.env := by rfl) (hpl : (backTo pos (starEach as X.env)).any (·.1) = false := by rfl) :
    PM X E (.Call (.Name x p) (a :: as) [] pos) (eCall ps.length (fun ds => sem ds) (fun fr h => (fs fr h).bind fun ds h1 => .ok (ds ++ dds) h1)) := by
  constructor
  intro pins s σ H Q I q
  obtain ⟨ι, h, fr, R, F', P⟩ := q
  have P' : PoV X.K X.mg ι H Q E ((fs fr h).bind fun ds h1 => if (ds ++ dds).length = ps.length then sem (ds ++ dds) h1 else .no) := by
    have e : eCall ps.length (fun ds => sem ds) (fun fr h => (fs fr h).bind fun ds h1 => .ok (ds ++ dds) h1) fr h = (fs fr h).bind fun ds h1 => if (ds ++ dds).length = ps.length then sem (ds ++ dds) h1 else .no := by
      show ((fs fr h).bind fun ds h1 => Rs.ok (ds ++ dds) h1).bind _ = _
      cases fs fr h <;> rfl
    rw [← e]; exact P
  refine wpAny_Call_Name_kw (ld_glob I hg hm ?_ hdb)
  refine PySem.W.callWith_K (h₀ := X.base) I.ok.mod.kin hk (thn (ha.run pos pins s σ H _ I ⟨ι, h, fr, R, F', Po.bind P'⟩) ?_) he hpl
  rintro us s1 ⟨vs, H1, I1, rv, ι1, h1, ds, e1, R1, r1, P1⟩
  refine ⟨I1.kIn, ?_⟩
  split at P1
  · rename_i hl
    have rr : VRs X.K ι1 H1 (vs ++ dvs) (ds ++ dds) := r1.append (hdd ι1 H1)
    have ru : Vals (vs ++ dvs) (us ++ dus) := rv.append hd
    refine wpAny_call (codeAny_mono (runG (us := us) (vs := vs) F wh hr I1 (hb s1 us I1.kIn (by rw [← ru.length, rr.length]; exact hl)) ru R1 rr hl P1) ?_)
    intro z s' q
    cases z with
    | error e => exact q
    | ok fl =>
      cases fl with
      | ret u => exact q
      | next => exact q.elim
      | brk => exact q.elim
      | cont => exact q.elim
  · exact P1.elim
theorem m_call (F : FnG X.prog X.w X.K X.mg X.base k f fd ps sem) (wh : Wh X E) (hr : Room k X.A) (hm : X.mg x = some (.ref f)) (hk : PySem.W.keepIn X.K (.ref f) = true) (hb : Binds X.K fd ps [])
    (ha : PMa X E (a :: as) fs) (hg : Gl X x := by rfl) (hdb : (x == ("__debug__" : Str)) = false := by decide)
    (he : starEach (a :: as) X.env = (false, eval a X.env) :: starEach as X.env := by rfl) (hpl : (backTo pos (starEach as X.env)).any (·.1) = false := by rfl) :
    PM X E (.Call (.Name x p) (a :: as) [] pos) (eCall ps.length sem fs) := by
  have q := m_callD (dds := []) (dvs := []) F wh hr hm hk hb .nil (fun _ _ => .nil) ha hg hdb he hpl (p := p) (pos := pos)
  have e : (eCall ps.length (fun ds => sem ds) (fun fr h => (fs fr h).bind fun ds h1 => .ok (ds ++ []) h1)) = eCall ps.length sem fs := by
    funext fr h
    show ((fs fr h).bind fun ds h1 => Rs.ok (ds ++ []) h1).bind _ = (fs fr h).bind _
    cases fs fr h with
    | ok ds h1 => simp only [Rs.bind_ok, List.append_nil]
    | exc x h1 => rfl
    | no => rfl
  rw [e] at q
  exact q
end
def CaS (K : PySem.W.Frag) (mg : Str → Option Value) (E : XK) (g : List D → Hq → Rs D) (r : List V → Hp → VK → Prop) : Prop :=
  ∀ (ι : List Addr) (h : Hq) (H : Hp) (ds : List D) (vs : List V) (Q : VK), HR K ι h H → VRs K ι H vs ds → PoV K mg ι H Q E (g ds h) → r vs H Q
def eBi (g : List D → Hq → Rs D) (f : Sa) : Sx := fun fr h => (f fr h).bind g
theorem bi_in {K : PySem.W.Frag} {mg : Str → Option Value} {E : XK} {g : List D → Hq → Rs D} {r : List V → Hp → VK → Prop} (hs : CaS K mg E g r) {f : Sa} {σ : L2.St} {H : Hp} {Q : VK} (q : tM K mg E (eBi g f) σ H Q) : tCB r (tMa K mg E f) σ H Q := by
  obtain ⟨ι, h, fr, R, F, P⟩ := q
  refine ⟨ι, h, fr, R, F, Po.mono ?_ (Po.bind P)⟩
  rintro vs H1 ⟨ι1, h1, ds, e1, R1, r1, P1⟩
  exact hs ι1 h1 H1 ds vs Q R1 r1 P1
section
variable {X : Cx} {E : XK} {a : Expr} {as : List Expr} {fs : Sa} {x : Str} {p pos : Pos} {K : PySem.W.Frag} {mg : Str → Option Value}
theorem m_bi {id : String} {g : List D → Hq → Rs D} {r : List V → Hp → VK → Prop} (hc : CallR X (.builtin id) r) (hs : CaS X.K X.mg E g r) (hm : X.mg x = none) (hv : bootBuiltins x = some (.builtin id)) (ha : PMa X E (a :: as) fs) (hg : Gl X x := by rfl) (hn : x ≠ "__name__" := by decide)
    (hdb : (x == ("__debug__" : Str)) = false := by decide) (he : starEach (a :: as) X.env = (false, eval a X.env) :: starEach as X.env := by rfl) (hpl : (backTo pos (starEach as X.env)).any (·.1) = false := by rfl) : PM X E (.Call (.Name x p) (a :: as) [] pos) (eBi g fs) :=
  pe_imp (pe_callB hc hg hm hv ha hn hdb he hpl) fun _ _ _ q => bi_in hs q
theorem m_ty {T : String} {g : List D → Hq → Rs D} {r : List V → Hp → VK → Prop} (hc : CallR X (.type T) r) (hs : CaS X.K X.mg E g r) (hm : X.mg x = none) (hv : bootBuiltins x = some (.type T)) (ha : PMa X E (a :: as) fs) (hg : Gl X x := by rfl) (hn : x ≠ "__name__" := by decide)
    (hdb : (x == ("__debug__" : Str)) = false := by decide) (he : starEach (a :: as) X.env = (false, eval a X.env) :: starEach as X.env := by rfl) (hpl : (backTo pos (starEach as X.env)).any (·.1) = false := by rfl) : PM X E (.Call (.Name x p) (a :: as) [] pos) (eBi g fs) :=
  pe_imp (pe_callTy hc hg hm hv ha hn hdb he hpl) fun _ _ _ q => bi_in hs q
/-- a module's name for a built-in (gcd) -/
theorem m_bf {id : String} {g : List D → Hq → Rs D} {r : List V → Hp → VK → Prop} (hc : CallR X (.builtin id) r) (hs : CaS X.K X.mg E g r) (hm : X.mg x = some (.builtin id)) (ha : PMa X E (a :: as) fs) (hg : Gl X x := by rfl)
    (hdb : (x == ("__debug__" : Str)) = false := by decide) (he : starEach (a :: as) X.env = (false, eval a X.env) :: starEach as X.env := by rfl) (hpl : (backTo pos (starEach as X.env)).any (·.1) = false := by rfl) : PM X E (.Call (.Name x p) (a :: as) [] pos) (eBi g fs) :=
  pe_imp (pe_callBfun hc hg hm ha hdb he hpl) fun _ _ _ q => bi_in hs q
def gAbs (ds : List D) (h : Hq) : Rs D := match ds with
  | [.int i] => .ok (.int (if i < 0 then -i else i)) h
  | _ => .no
theorem s_abs : CaS K mg E gAbs (fun xs H Q => ∃ i, xs = [.int i] ∧ Q (.int (if i < 0 then -i else i)) H) := by
  intro ι h H ds vs Q R r P
  unfold gAbs at P
  split at P
  · obtain ⟨v, rfl, q⟩ := r.one
    cases q
    exact ⟨_, rfl, P ι H _ (Ext.refl _ _) R (.int _)⟩
  · exact P.elim
def gMax (ds : List D) (h : Hq) : Rs D := match ds with
  | [.int i, .int j] => .ok (.int (if j > i then j else i)) h
  | _ => .no
theorem s_max : CaS K mg E gMax (fun xs H Q => ∃ i j, xs = [.int i, .int j] ∧ Q (.int (if j > i then j else i)) H) := by
  intro ι h H ds vs Q R r P
  unfold gMax at P
  split at P
  · obtain ⟨v, w, rfl, q1, q2⟩ := r.two
    cases q1; cases q2
    exact ⟨_, _, rfl, P ι H _ (Ext.refl _ _) R (.int _)⟩
  · exact P.elim
def gMin (ds : List D) (h : Hq) : Rs D := match ds with
  | [.int i, .int j] => .ok (.int (if j < i then j else i)) h
  | _ => .no
theorem s_min : CaS K mg E gMin (fun xs H Q => ∃ i j, xs = [.int i, .int j] ∧ Q (.int (if j < i then j else i)) H) := by
  intro ι h H ds vs Q R r P
  unfold gMin at P
  split at P
  · obtain ⟨v, w, rfl, q1, q2⟩ := r.two
    cases q1; cases q2
    exact ⟨_, _, rfl, P ι H _ (Ext.refl _ _) R (.int _)⟩
  · exact P.elim
def gInt (ds : List D) (h : Hq) : Rs D := match ds with
  | [.int i] => .ok (.int i) h
  | [.bl b] => .ok (.int (if b then 1 else 0)) h
  | _ => .no
theorem s_int : CaS K mg E gInt (fun xs H Q => (∃ i, xs = [.int i] ∧ Q (.int i) H) ∨ ∃ k, xs = [.bl k] ∧ Q (.int (if k then 1 else 0)) H) := by
  intro ι h H ds vs Q R r P
  unfold gInt at P
  split at P
  · obtain ⟨v, rfl, q⟩ := r.one
    cases q
    exact .inl ⟨_, rfl, P ι H _ (Ext.refl _ _) R (.int _)⟩
  · obtain ⟨v, rfl, q⟩ := r.one
    cases q
    exact .inr ⟨_, rfl, P ι H _ (Ext.refl _ _) R (.int _)⟩
  · exact P.elim
def gLen (ds : List D) (h : Hq) : Rs D := match ds with
  | [.tup l] => .ok (.int l.length) h
  | [.scr l] => .ok (.int l.length) h
  | [.ref m] => match lstAt h m with
    | some l => .ok (.int l.length) h
    | none => .no
  | _ => .no
theorem s_len : CaS K mg E gLen (fun xs H Q => ∃ p ys, xs = [.ref p] ∧ (SqL K H p ys ∨ SqT K H p ys) ∧ Q (.int ys.length) H) := by
  intro ι h H ds vs Q R r P
  unfold gLen at P
  split at P
  · obtain ⟨v, rfl, q⟩ := r.one
    cases q with
    | tup hx q => exact ⟨_, _, rfl, .inr (.of hx), by rw [q.length]; exact P ι H _ (Ext.refl _ _) R (.int _)⟩
  · obtain ⟨v, rfl, q⟩ := r.one
    cases q with
    | scr hx => exact ⟨_, _, rfl, .inl hx.sq, by rw [List.length_map]; exact P ι H _ (Ext.refl _ _) R (.int _)⟩
  · split at P
    · rename_i hl
      obtain ⟨v, rfl, q⟩ := r.one
      cases q with
      | ref hx =>
        obtain ⟨ws, c1, q1⟩ := R.lst hx hl
        exact ⟨_, _, rfl, .inl (.of c1), by rw [q1.length]; exact P ι H _ (Ext.refl _ _) R (.int _)⟩
    · exact P.elim
  · exact P.elim
def gList (ds : List D) (h : Hq) : Rs D := match ds with
  | [.tup l] => .ok (.ref h.length) (h ++ [.lst l])
  | [.ref m] => match lstAt h m with
    | some l => .ok (.ref h.length) (h ++ [.lst l])
    | none => .no
  | _ => .no
def gTuple (ds : List D) (h : Hq) : Rs D := match ds with
  | [.tup l] => .ok (.tup l) h
  | [.ref m] => match lstAt h m with
    | some l => .ok (.tup l) h
    | none => .no
  | _ => .no
theorem s_tuple : CaS K mg E gTuple (fun xs H Q => ∃ p ys, xs = [.ref p] ∧ ((SqL K H p ys ∧ ∀ l, H l = none → Q (.ref l) (upd H l (.tup ys))) ∨ (SqT K H p ys ∧ Q (.ref p) H))) := by
  intro ι h H ds vs Q R r P
  unfold gTuple at P
  split at P
  · rename_i l
    obtain ⟨v, rfl, q⟩ := r.one
    cases q with
    | tup hx q => exact ⟨_, _, rfl, .inr ⟨.of hx, P ι H _ (Ext.refl _ _) R (.tup hx q)⟩⟩
  · split at P
    · rename_i l hl
      obtain ⟨v, rfl, q⟩ := r.one
      cases q with
      | ref hx =>
        obtain ⟨ws, c1, q1⟩ := R.lst hx hl
        refine ⟨_, ws, rfl, .inl ⟨.of c1, fun p np => ?_⟩⟩
        obtain ⟨e3, R3⟩ := R.tup np ws
        exact P _ _ _ e3 R3 (.tup upd_same (q1.ext e3))
    · exact P.elim
  · exact P.elim
def gGcd (ds : List D) (h : Hq) : Rs D := match ds with
  | [.int i, .int j] => .ok (.int ((Nat.gcd i.natAbs j.natAbs : Nat) : Int)) h
  | _ => .no
theorem s_gcd : CaS K mg E gGcd rGcd := by
  intro ι h H ds vs Q R r P
  unfold gGcd at P
  split at P
  · obtain ⟨v, w, rfl, q1, q2⟩ := r.two
    cases q1; cases q2
    exact ⟨_, _, rfl, P ι H _ (Ext.refl _ _) R (.int _)⟩
  · exact P.elim
theorem m_abs (hm : X.mg "abs" = none) (ha : PMa X E (a :: as) fs) (hg : Gl X "abs" := by rfl) (he : starEach (a :: as) X.env = (false, eval a X.env) :: starEach as X.env := by rfl) (hpl : (backTo pos (starEach as X.env)).any (·.1) = false := by rfl) :
    PM X E (.Call (.Name "abs" p) (a :: as) [] pos) (eBi gAbs fs) := m_bi call_abs s_abs hm (by decide +kernel) ha hg (he := he) (hpl := hpl)
theorem m_max (hc : X.calm = true) (hm : X.mg "max" = none) (ha : PMa X E (a :: as) fs) (hg : Gl X "max" := by rfl) (he : starEach (a :: as) X.env = (false, eval a X.env) :: starEach as X.env := by rfl) (hpl : (backTo pos (starEach as X.env)).any (·.1) = false := by rfl) :
    PM X E (.Call (.Name "max" p) (a :: as) [] pos) (eBi gMax fs) := m_bi (call_max2 hc) s_max hm (by decide +kernel) ha hg (he := he) (hpl := hpl)
theorem m_min (hc : X.calm = true) (hm : X.mg "min" = none) (ha : PMa X E (a :: as) fs) (hg : Gl X "min" := by rfl) (he : starEach (a :: as) X.env = (false, eval a X.env) :: starEach as X.env := by rfl) (hpl : (backTo pos (starEach as X.env)).any (·.1) = false := by rfl) :
    PM X E (.Call (.Name "min" p) (a :: as) [] pos) (eBi gMin fs) := m_bi (call_min2 hc) s_min hm (by decide +kernel) ha hg (he := he) (hpl := hpl)
theorem m_len (hm : X.mg "len" = none) (ha : PMa X E (a :: as) fs) (hg : Gl X "len" := by rfl) (he : starEach (a :: as) X.env = (false, eval a X.env) :: starEach as X.env := by rfl) (hpl : (backTo pos (starEach as X.env)).any (·.1) = false := by rfl) :
    PM X E (.Call (.Name "len" p) (a :: as) [] pos) (eBi gLen fs) := m_bi call_len_seq s_len hm boot_len ha hg (he := he) (hpl := hpl)
theorem m_intc (hm : X.mg "int" = none) (ha : PMa X E (a :: as) fs) (hg : Gl X "int" := by rfl) (he : starEach (a :: as) X.env = (false, eval a X.env) :: starEach as X.env := by rfl) (hpl : (backTo pos (starEach as X.env)).any (·.1) = false := by rfl) :
    PM X E (.Call (.Name "int" p) (a :: as) [] pos) (eBi gInt fs) := m_ty call_int1 s_int hm (by decide +kernel) ha hg (he := he) (hpl := hpl)
theorem m_tuplec (hm : X.mg "tuple" = none) (ha : PMa X E (a :: as) fs) (hg : Gl X "tuple" := by rfl) (he : starEach (a :: as) X.env = (false, eval a X.env) :: starEach as X.env := by rfl) (hpl : (backTo pos (starEach as X.env)).any (·.1) = false := by rfl) :
    PM X E (.Call (.Name "tuple" p) (a :: as) [] pos) (eBi gTuple fs) := m_ty call_tuple_of s_tuple hm (by decide +kernel) ha hg (he := he) (hpl := hpl)
theorem m_gcd (hm : X.mg "gcd" = some (.builtin "math.gcd")) (ha : PMa X E (a :: as) fs) (hg : Gl X "gcd" := by rfl) (he : starEach (a :: as) X.env = (false, eval a X.env) :: starEach as X.env := by rfl) (hpl : (backTo pos (starEach as X.env)).any (·.1) = false := by rfl) :
    PM X E (.Call (.Name "gcd" p) (a :: as) [] pos) (eBi gGcd fs) := m_bf cr_gcd s_gcd hm ha hg (he := he) (hpl := hpl)
end
inductive Tn where
  | int | str | bool | list | tuple | dict
def Tn.s : Tn → String
  | .int => "int" | .str => "str" | .bool => "bool" | .list => "list" | .tuple => "tuple" | .dict => "dict"
/-- the type's name of a plain thing -/
def tyD (h : Hq) : D → Option String
  | .non => some "NoneType"
  | .bl _ => some "bool"
  | .int _ => some "int"
  | .str _ => some "str"
  | .tup _ => some "tuple"
  | .scr _ => some "list"
  | .opq => none
  | .adr _ => none
  | .ty _ => none
  | .ref m => match h[m]? with
    | some (.lst _) => some "list"
    | some (.dct _) => some "dict"
    | none => none
theorem tyD_rel {K : PySem.W.Frag} {ι : List Addr} {h : Hq} {H : Hp} (R : HR K ι h H) {v : V} {d : D} {n : String} (r : VR K ι H v d) (e : tyD h d = some n) : TyX K H v (.type n) := by
  cases r with
  | non => cases e; exact .base .non
  | bl b => cases e; exact .base (.bl b)
  | int i => cases e; exact .base (.int i)
  | str x => cases e; exact .base (.str x)
  | tup hx _ => cases e; exact .base (.tup hx)
  | opq v => cases e
  | adr a => cases e
  | ty n => cases e
  | scr hx =>
    cases e
    rcases hx with ⟨o, hx⟩ | ⟨o, its, m, hk, hc, _⟩
    · exact .base (.frz hx)
    · exact .kList hk hc
  | ref hx =>
    rename_i a m
    have e' : (match h[m]? with | some (.lst _) => some "list" | some (.dct _) => some "dict" | none => none) = some n := e
    split at e'
    · rename_i l q
      cases e'
      obtain ⟨vs, c1, _⟩ := R.cells m _ a q hx
      exact .base (.lst c1)
    · rename_i l q
      cases e'
      obtain ⟨vs, c1, _⟩ := R.cells m _ a q hx
      exact .base (.dK c1)
    · cases e'
/-- isinstance(x, T): what the library's own look at built-in classes says -/
def gIsi (c : String) (d : D) (h : Hq) : Rs D := match tyD h d with
  | some n => match kitB n c with
    | some b => .ok (.bl b) h
    | none => .no
  | none => .no
def eIsi (c : String) (f : Sx) : Sx := fun fr h => (f fr h).bind fun d h1 => gIsi c d h1
section
variable {X : Cx} {E : XK} {a b c : Expr} {fa : Sx} {p pos q : Pos} {x : Str}
theorem m_isi {T : String} (hi : X.mg "isinstance" = none) (hx : X.mg x = none) (hv : bootBuiltins x = some (.type T)) (ha : PM X E a fa) (hg : Gl X "isinstance" := by rfl) (hgx : Gl X x := by rfl) (hn : x ≠ "__name__" := by decide) (hdb : (x == ("__debug__" : Str)) = false := by decide)
    (he : starEach [a, .Name x q] X.env = (false, eval a X.env) :: starEach [.Name x q] X.env := by rfl) (he2 : starEach [.Name x q] X.env = (false, eval (.Name x q) X.env) :: starEach [] X.env := by rfl)
    (hpl : (backTo pos (starEach [.Name x q] X.env)).any (·.1) = false := by rfl) :
    PM X E (.Call (.Name "isinstance" p) [a, .Name x q] [] pos) (eIsi T fa) := by
  have h1 := pe_callB (p := p) (pos := pos) call_isi hg hi (by decide +kernel) (pa_cons ha (pa_cons (pe_bltn (v := .ty T) hgx hx hv rfl hn hdb) pa_nil he2) he) (he := he) (hpl := hpl)
  refine pe_imp h1 fun σ H Q ⟨ι, h, fr, R, F, P⟩ => ?_
  refine ⟨ι, h, fr, R, F, Po.mono ?_ (Po.bind P)⟩
  rintro v H1 ⟨ι1, h1, d, e1, R1, r1, P1⟩
  unfold gIsi at P1
  split at P1
  · rename_i n hn
    split at P1
    · rename_i b hb
      exact ⟨v, .ty T, .type n, .type T, b, rfl, .ty T, tyD_rel R1 r1 hn, kit_ty hb, P1 ι1 H1 _ (Ext.refl _ _) R1 (.bl b)⟩
    · exact P1.elim
  · exact P1.elim
end
end MI
end
section
set_option Elab.async false
set_option linter.all false
set_option autoImplicit false
set_option maxRecDepth 100000
set_option maxHeartbeats 4000000
namespace MI
open PySem L2
inductive SR where
  | nx (fr : Fr) (h : Hq) | rt (d : D) (h : Hq) | bk (fr : Fr) (h : Hq) | ct (fr : Fr) (h : Hq) | exc (x : Xn) (h : Hq) | no
abbrev Ss := Fr → Hq → SR
def SR.then (r : SR) (g : Ss) : SR := match r with
  | .nx fr h => g fr h
  | r => r
/-- an expression first -/
def Rs.into {α : Type} (r : Rs α) (f : α → Hq → SR) : SR := match r with
  | .ok a h => f a h
  | .exc x h => .exc x h
  | .no => .no
@[simp] theorem Rs.into_ok {α : Type} (a : α) (h : Hq) (f : α → Hq → SR) : (Rs.ok a h).into f = f a h := rfl
@[simp] theorem Rs.into_exc {α : Type} (x : Xn) (h : Hq) (f : α → Hq → SR) : (Rs.exc x h : Rs α).into f = .exc x h := rfl
@[simp] theorem Rs.into_no {α : Type} (f : α → Hq → SR) : (Rs.no : Rs α).into f = .no := rfl
@[simp] theorem SR.then_nx (fr : Fr) (h : Hq) (g : Ss) : (SR.nx fr h).then g = g fr h := rfl
@[simp] theorem SR.then_rt (d : D) (h : Hq) (g : Ss) : (SR.rt d h).then g = .rt d h := rfl
@[simp] theorem SR.then_exc (x : Xn) (h : Hq) (g : Ss) : (SR.exc x h).then g = .exc x h := rfl
@[simp] theorem SR.then_no (g : Ss) : SR.no.then g = .no := rfl
@[simp] theorem SR.then_bk (fr : Fr) (h : Hq) (g : Ss) : (SR.bk fr h).then g = .bk fr h := rfl
@[simp] theorem SR.then_ct (fr : Fr) (h : Hq) (g : Ss) : (SR.ct fr h).then g = .ct fr h := rfl
def SPo (K : PySem.W.Frag) (mg : Str → Option Value) (ι : List Addr) (H : Hp) (Z : Ends) (E : XK) : SR → Prop
  | .nx fr h' => ∀ ι' H' σ', Ext ι H ι' H' → HR K ι' h' H' → FR K ι' H' σ' fr → Z.nx σ' H'
  | .rt d h' => ∀ ι' H' v, Ext ι H ι' H' → HR K ι' h' H' → VR K ι' H' v d → Z.rt v H'
  | .bk fr h' => ∀ ι' H' σ', Ext ι H ι' H' → HR K ι' h' H' → FR K ι' H' σ' fr → Z.bk σ' H'
  | .ct fr h' => ∀ ι' H' σ', Ext ι H ι' H' → HR K ι' h' H' → FR K ι' H' σ' fr → Z.ct σ' H'
  | .exc x h' => ∀ ι' H' cls d, Ext ι H ι' H' → HR K ι' h' H' → XR K mg ι' H' x cls d → E cls d H'
  | .no => False
section
variable {K : PySem.W.Frag} {mg : Str → Option Value} {ι ι' : List Addr} {H H' : Hp} {E : XK} {Z Z' : Ends}
theorem SPo.ext (e : Ext ι H ι' H') : ∀ {r : SR}, SPo K mg ι H Z E r → SPo K mg ι' H' Z E r
  | .nx _ _, h => fun a b c e2 => h a b c (e.trans e2)
  | .rt _ _, h => fun a b c e2 => h a b c (e.trans e2)
  | .bk _ _, h => fun a b c e2 => h a b c (e.trans e2)
  | .ct _ _, h => fun a b c e2 => h a b c (e.trans e2)
  | .exc _ _, h => fun a b c d e2 => h a b c d (e.trans e2)
  | .no, h => h
/-- what a statement's rest wants, as what is wanted behind it -/
def Rest (K : PySem.W.Frag) (mg : Str → Option Value) (ι : List Addr) (H : Hp) (Z : Ends) (E : XK) (g : Ss) (σ : L2.St) (H1 : Hp) : Prop :=
  ∃ ι1 h1 fr, Ext ι H ι1 H1 ∧ HR K ι1 h1 H1 ∧ FR K ι1 H1 σ fr ∧ SPo K mg ι1 H1 Z E (g fr h1)
theorem SPo.then {g : Ss} : ∀ {r : SR}, SPo K mg ι H Z E (r.then g) → SPo K mg ι H { Z with nx := Rest K mg ι H Z E g } E r
  | .nx fr h1, h => fun i1 H1 σ e R F => ⟨i1, h1, fr, e, R, F, SPo.ext e h⟩
  | .rt _ _, h => h
  | .bk _ _, h => h
  | .ct _ _, h => h
  | .exc _ _, h => h
  | .no, h => h
theorem Po.into {α β : Type} {R : List Addr → Hp → β → α → Prop} {f : α → Hq → SR} : ∀ {r : Rs α}, SPo K mg ι H Z E (r.into f) →
    Po K mg R ι H (fun v H1 => ∃ ι1 h1 a, Ext ι H ι1 H1 ∧ HR K ι1 h1 H1 ∧ R ι1 H1 v a ∧ SPo K mg ι1 H1 Z E (f a h1)) E r
  | .ok a h1, h => fun i1 H1 v e1 r1 q => ⟨i1, h1, a, e1, r1, q, SPo.ext e1 h⟩
  | .exc _ _, h => h
  | .no, h => h
end
def tMs (K : PySem.W.Frag) (mg : Str → Option Value) (E : XK) (f : Ss) : TS := fun Z σ H => ∃ ι h fr, HR K ι h H ∧ FR K ι H σ fr ∧ SPo K mg ι H Z E (f fr h)
abbrev PMs (X : Cx) (E : XK) (st : Stmt) (f : Ss) : Prop := PS X st (tMs X.K X.mg E f)
abbrev PMb' (X : Cx) (E : XK) (st : List Stmt) (f : Ss) : Prop := PSs X st (tMs X.K X.mg E f)
section
variable {X : Cx}
theorem ps_imp {st : Stmt} {t t' : TS} (h : PS X st t) (m : ∀ Z σ H, t' Z σ H → t Z σ H) : PS X st t' := ⟨fun pins s σ H Z I q => h.run pins s σ H Z I (m Z σ H q)⟩
theorem pss_imp {st : List Stmt} {t t' : TS} (h : PSs X st t) (m : ∀ Z σ H, t' Z σ H → t Z σ H) : PSs X st t' := ⟨fun pins s σ H Z I q => h.run pins s σ H Z I (m Z σ H q)⟩
variable {E : XK} {st : Stmt} {rest : List Stmt} {f g : Ss} {e a b c : Expr} {fe : Sx} {pos : Pos}
def sEnd : Ss := fun fr h => .nx fr h
def sSeq (f g : Ss) : Ss := fun fr h => (f fr h).then g
theorem m_end : PMb' X E [] sEnd := pss_imp pss_nil fun Z σ H ⟨ι, h, fr, R, F, P⟩ => P ι H σ (Ext.refl _ _) R F
theorem m_seq (h1 : PMs X E st f) (h2 : PMb' X E rest g) : PMb' X E (st :: rest) (sSeq f g) := pss_imp (pss_cons h1 h2) fun Z σ H ⟨ι, h, fr, R, F, P⟩ => by
  refine ⟨ι, h, fr, R, F, ?_⟩
  have q := SPo.then P
  revert q
  cases f fr h with
  | nx fr1 h1 =>
    intro q i1 H1 σ1 e1 R1 F1
    obtain ⟨i2, h2, fr2, e2, R2, F2, P2⟩ := q i1 H1 σ1 e1 R1 F1
    exact ⟨i2, h2, fr2, R2, F2, P2⟩
  | rt d h1 => exact fun q => q
  | bk fr1 h1 => exact fun q => q
  | ct fr1 h1 => exact fun q => q
  | exc x h1 => exact fun q => q
  | no => exact fun q => q
def sBreak : Ss := fun fr h => .bk fr h
def sCont : Ss := fun fr h => .ct fr h
def sRet (f : Sx) : Ss := fun fr h => (f fr h).into fun d h1 => .rt d h1
theorem m_ret (ha : PM X E e fe) : PMs X E (.Return (some e) pos) (sRet fe) := ps_imp (ps_ret ha) fun Z σ H ⟨ι, h, fr, R, F, P⟩ => by
  refine ⟨ι, h, fr, R, F, Po.mono ?_ (Po.into P)⟩
  rintro v H1 ⟨i1, h1, d, e1, R1, r1, P1⟩
  exact P1 i1 H1 v (Ext.refl _ _) R1 r1
def sExpr (f : Sx) : Ss := fun fr h => (f fr h).into fun _ h1 => .nx fr h1
theorem m_expr (ha : PM X E e fe) (hs : swapsWith e none pos.line X.env = pure false := by rfl) : PMs X E (.Expr e pos) (sExpr fe) := ps_imp (ps_expr ha hs) fun Z σ H ⟨ι, h, fr, R, F, P⟩ => by
  refine ⟨ι, h, fr, R, F, Po.mono ?_ (Po.into P)⟩
  rintro v H1 ⟨i1, h1, d, e1, R1, r1, P1⟩
  exact P1 i1 H1 σ (Ext.refl _ _) R1 (F.ext e1)
def sIf (c : Sb) (f g : Ss) : Ss := fun fr h => (c fr h).into fun b h1 => if b = true then f fr h1 else g fr h1
theorem m_ifs {fc : Sb} {bs cs : List Stmt} (hc : PMb X E c fc) (hb : PMb' X E bs f) (ho : PMb' X E cs g) : PMs X E (.If c bs cs pos) (sIf fc f g) := ps_imp (ps_if hc hb ho) fun Z σ H ⟨ι, h, fr, R, F, P⟩ => by
  refine ⟨ι, h, fr, R, F, Po.mono ?_ (Po.into P)⟩
  rintro v H1 ⟨i1, h1, d, e1, R1, r1, P1⟩
  subst r1
  cases v with
  | true => exact ⟨i1, h1, fr, R1, F.ext e1, P1⟩
  | false => exact ⟨i1, h1, fr, R1, F.ext e1, P1⟩
abbrev Tg := D → Fr → Option Fr
def TgS (K : PySem.W.Frag) (g : TG) (t : Tg) : Prop :=
  ∀ (ι : List Addr) (h : Hq) (H : Hp) (v : V) (d : D) (σ : L2.St) (fr fr' : Fr) (Q : L2.St → Hp → Prop), HR K ι h H → VR K ι H v d → FR K ι H σ fr → t d fr = some fr' → (∀ σ', FR K ι H σ' fr' → Q σ' H) → g v σ H Q
structure PMg (X : Cx) (tg : Expr) (t : Tg) : Prop where
  ex : ∃ g, PG X tg g ∧ TgS X.K g t
def tgN (i : Nat) : Tg := fun d fr => some (fr.set i (some d))
theorem tgN_s {K : PySem.W.Frag} (i : Nat) : TgS K (gName i) (tgN i) := by
  intro ι h H v d σ fr fr' Q R r F e k
  cases e
  exact k _ (F.set r)
theorem m_tgN (i : Nat) {x : Str} (nd : X.N.Nodup) (hi : X.N[i]? = some x := by rfl) (hx : Loc X.env.scope x := by first | exact Or.inl rfl | exact Or.inr rfl) (hf : X.fn x = true ∨ X.env.scope.names.lookup x = some .local := by first | exact .inl rfl | exact .inr rfl) :
    PMg X (.Name x pos) (tgN i) := ⟨_, pg_name nd hi hx hf, tgN_s i⟩
/-- a, b, .. from a tuple -/
def setAll : List Nat → List D → Fr → Option Fr
  | [], [], fr => some fr
  | i :: is, d :: ds, fr => setAll is ds (fr.set i (some d))
  | _, _, _ => none
def tgT (is : List Nat) : Tg := fun d fr => match d with
  | .tup l => setAll is l fr
  | _ => none
structure PMgs (X : Cx) (tgs : List Expr) (is : List Nat) : Prop where
  ex : ∃ g, PGs X tgs g ∧ ∀ (ι : List Addr) (h : Hq) (H : Hp) (vs : List V) (ds : List D) (σ : L2.St) (fr fr' : Fr) (Q : L2.St → Hp → Prop), HR X.K ι h H → VRs X.K ι H vs ds → FR X.K ι H σ fr → setAll is ds fr = some fr' → (∀ σ', FR X.K ι H σ' fr' → Q σ' H) → g vs σ H Q
theorem m_gnil : PMgs X [] [] := ⟨_, pgs_nil, fun ι h H vs ds σ fr fr' Q R r F e k => by
  cases r with
  | nil => cases e; exact ⟨rfl, k σ F⟩
  | cons _ _ => cases e⟩
theorem m_gcons (i : Nat) {x : Str} {ts : List Expr} {is : List Nat} (nd : X.N.Nodup) (ht : PMgs X ts is) (hi : X.N[i]? = some x := by rfl) (hx : Loc X.env.scope x := by first | exact Or.inl rfl | exact Or.inr rfl)
    (hf : X.fn x = true ∨ X.env.scope.names.lookup x = some .local := by first | exact .inl rfl | exact .inr rfl) (hs : (assignEach (.Name x pos :: ts) X.env).map (·.2) = assign (.Name x pos) X.env :: (assignEach ts X.env).map (·.2) := by rfl) :
    PMgs X (.Name x pos :: ts) (i :: is) := by
  obtain ⟨g, hg, hgs⟩ := ht.ex
  refine ⟨_, pgs_cons (pg_name nd hi hx hf) hg hs, fun ι h H vs ds σ fr fr' Q R r F e k => ?_⟩
  cases r with
  | nil => cases e
  | cons r1 r2 => exact ⟨_, _, rfl, hgs ι h H _ _ _ _ _ Q R r2 (F.set r1) e k⟩
theorem setAll_len : ∀ {is : List Nat} {ds : List D} {fr fr' : Fr}, setAll is ds fr = some fr' → ds.length = is.length
  | [], [], _, _, _ => rfl
  | [], _ :: _, _, _, e => by cases e
  | _ :: _, [], _, _, e => by cases e
  | _ :: is, _ :: ds, _, _, e => by rw [List.length_cons, List.length_cons, setAll_len (is := is) (ds := ds) e]
theorem m_tgT {ts : List Expr} {is : List Nat} {k : Nat} (hc : X.calm = true) (ht : PMgs X ts is) (hn : (assignEach ts X.env).length = is.length := by rfl) (hst : (assignEach ts X.env).findIdx? (·.1) = none := by rfl) : PMg X (.Tuple ts k pos) (tgT is) := by
  obtain ⟨g, hg, hgs⟩ := ht.ex
  refine ⟨_, pg_tup hc hg hn hst, fun ι h H v d σ fr fr' Q R r F e kk => ?_⟩
  unfold tgT at e
  split at e
  · cases r with
    | tup hx q =>
      refine ⟨_, _, rfl, .of hx, by rw [q.length]; exact setAll_len e, ?_⟩
      exact hgs ι h H _ _ _ _ _ Q R q F e kk
  · cases e
def sAsg (f : Sx) (t : Tg) : Ss := fun fr h => (f fr h).into fun d h1 => match t d fr with
  | some fr' => .nx fr' h1
  | none => .no
theorem asg_in {K : PySem.W.Frag} {mg : Str → Option Value} {gg : TG} {t : Tg} (hs : TgS K gg t) {Z : Ends} {σ : L2.St} {H : Hp} (q : tMs K mg E (sAsg fe t) Z σ H) : tAsg (tM K mg E fe) gg Z σ H := by
  obtain ⟨ι, h, fr, R, F, P⟩ := q
  refine ⟨ι, h, fr, R, F, Po.mono ?_ (Po.into P)⟩
  rintro v H1 ⟨i1, h1, d, e1, R1, r1, P1⟩
  split at P1
  · rename_i fr' e
    exact hs i1 h1 H1 v d σ fr fr' _ R1 r1 (F.ext e1) e fun σ' F' => P1 i1 H1 σ' (Ext.refl _ _) R1 F'
  · exact P1.elim
/-- name = e -/
theorem m_set (i : Nat) {x : Str} {pos' : Pos} (nd : X.N.Nodup) (ha : PM X E e fe) (hi : X.N[i]? = some x := by rfl) (hx : Loc X.env.scope x := by first | exact Or.inl rfl | exact Or.inr rfl) (hs : swapsWith e (some (.Name x pos')) pos.line X.env = pure false := by rfl)
    (hf : X.fn x = true ∨ X.env.scope.names.lookup x = some .local := by first | exact .inl rfl | exact .inr rfl) : PMs X E (.Assign [.Name x pos'] e pos) (sAsg fe (tgN i)) := ps_imp (ps_set nd hi hx ha hs hf) fun _ _ _ q => asg_in (tgN_s i) q
/-- a target of another form = e -/
theorem m_asg {tg : Expr} {t : Tg} (ha : PM X E e fe) (ht : PMg X tg t) (hs : swapsWithSole [tg] e pos.line X.env = pure false := by rfl) (hw : swappedStores [tg] e X.env = pure none := by rfl) (h1 : (assignEach [tg] X.env).map (·.2) = [assign tg X.env] := by rfl) :
    PMs X E (.Assign [tg] e pos) (sAsg fe t) := by
  obtain ⟨g, hg, hgs⟩ := ht.ex
  exact ps_imp (ps_asg ha hg hs hw h1) fun _ _ _ q => asg_in hgs q
/-- a, b = x, y -/
def sPar (i j : Nat) (fs : Sa) : Ss := fun fr h => (fs fr h).into fun ds h1 => match ds with
  | [d, e] => .nx ((fr.set i (some d)).set j (some e)) h1
  | _ => .no
theorem m_par (i j : Nat) {x y : Str} {fs : Sa} {px py pt : Pos} {kt k2 : Nat} {pt2 : Pos} (wh : Wh X E) (ha : PMa X E [a, b] fs) (hi : X.N[i]? = some x := by rfl) (hj : X.N[j]? = some y := by rfl) (hij : i ≠ j := by decide)
    (hx : X.env.scope.names.lookup x = some .local := by rfl) (hy : X.env.scope.names.lookup y = some .local := by rfl) (hw : swappedStores [.Tuple [.Name x px, .Name y py] kt pt] (.Tuple [a, b] k2 pt2) X.env = pure (some [x, y]) := by rfl)
    (hs : swapsWithSole [.Tuple [.Name x px, .Name y py] kt pt] (.Tuple [a, b] k2 pt2) pos.line X.env = pure false := by rfl) :
    PMs X E (.Assign [.Tuple [.Name x px, .Name y py] kt pt] (.Tuple [a, b] k2 pt2) pos) (sPar i j fs) := ps_imp (ps_par wh.calm wh.nd hi hj hij hx hy ha hw hs) fun Z σ H ⟨ι, h, fr, R, F, P⟩ => by
  refine ⟨ι, h, fr, R, F, Po.mono ?_ (Po.into P)⟩
  rintro vs H1 ⟨i1, h1, ds, e1, R1, r1, P1⟩
  split at P1
  · obtain ⟨v, w, rfl, q1, q2⟩ := r1.two
    exact ⟨v, w, rfl, P1 i1 H1 _ (Ext.refl _ _) R1 (((F.ext e1).set q1).set q2)⟩
  · exact P1.elim
/-- xs[k] = e -/
def sPut (fe fo fi : Sx) : Ss := fun fr h => (fe fr h).into fun d h1 => (fo fr h1).into fun o h2 => (fi fr h2).into fun k h3 => match o, k with
  | .ref m, .int j => match lstAt h3 m with
    | some l => match ixN l.length j with
      | some n => .nx fr (h3.set m (.lst (l.set n d)))
      | none => .no
    | none => .no
  | _, _ => .no
theorem m_put {fo fi : Sx} {p2 : Pos} (ha : PM X E e fe) (ho : PM X E a fo) (hi : PM X E b fi) (hh : ∀ v, assign (.Subscript a b p2) X.env v = (do
      let ov ← holding [v] (eval a X.env)
      let iv ← holding [v, ov] (eval b X.env)
      standAt p2
      holding [v, ov, iv] (setItem ov iv v)
      release [v, ov, iv] []) := by intro _; rfl) (hs : swapsWithSole [.Subscript a b p2] e pos.line X.env = pure false := by rfl) (hw : swappedStores [.Subscript a b p2] e X.env = pure none := by rfl)
    (h1 : (assignEach [.Subscript a b p2] X.env).map (·.2) = [assign (.Subscript a b p2) X.env] := by rfl) :
    PMs X E (.Assign [.Subscript a b p2] e pos) (sPut fe fo fi) := ps_imp (ps_asg ha (pg_sub ho hi set_list hh) hs hw h1) fun Z σ H ⟨ι, h, fr, R, F, P⟩ => by
  refine ⟨ι, h, fr, R, F, Po.mono ?_ (Po.into P)⟩
  rintro v H1 ⟨i1, h1, d, e1, R1, r1, P1⟩
  refine ⟨i1, h1, fr, R1, F.ext e1, Po.mono ?_ (Po.into P1)⟩
  rintro o H2 ⟨i2, h2, od, e2, R2, r2, P2⟩
  refine ⟨i2, h2, fr, R2, (F.ext e1).ext e2, Po.mono ?_ (Po.into P2)⟩
  rintro i H3 ⟨i3, h3, kd, e3, R3, r3, P3⟩
  split at P3
  · rename_i m j
    split at P3
    · rename_i _ l hl
      split at P3
      · rename_i _ n hn
        cases r3
        cases r2.ext e3 with
        | ref hx =>
          rename_i p
          obtain ⟨vs, c1, q⟩ := R3.lst hx hl
          have rv := (r1.ext e2).ext e3
          obtain ⟨e4, R4⟩ := R3.put (lstAt_some hl) hx (o := .lst (vs.set n v)) (c := .lst (l.set n d)) fun H' e z => ⟨_, z, (VRs.set rv n q).ext e⟩
          exact ⟨p, vs, j, n, rfl, rfl, c1, by rw [q.length]; exact hn, P3 i3 _ σ e4 R4 ((((F.ext e1).ext e2).ext e3).ext e4)⟩
      · exact P3.elim
    · exact P3.elim
  · exact P3.elim
end
end MI
end
section
set_option Elab.async false
set_option linter.all false
set_option autoImplicit false
set_option maxRecDepth 100000
set_option maxHeartbeats 4000000
namespace MI
open PySem L2
/-- n turns from the i-th on: get tells a turn's item (none: it can't be told), fin whether the walk ends where it should -/
def turns (get : Nat → Hq → Option D) (fin : Nat → Hq → Bool) (t : Tg) (b : Ss) : Nat → Nat → Ss
  | 0, i, fr, h => if fin i h = true then .nx fr h else .no
  | n + 1, i, fr, h => match get i h with
    | none => .no
    | some d => match t d fr with
      | none => .no
      | some fr1 => match b fr1 h with
        | .nx fr2 h2 => turns get fin t b n (i + 1) fr2 h2
        | .ct fr2 h2 => turns get fin t b n (i + 1) fr2 h2
        | .bk fr2 h2 => .nx fr2 h2
        | .rt d h2 => .rt d h2
        | .exc x h2 => .exc x h2
        | .no => .no
/-- an iterator J (over the heap as it lies) walks as get and fin tell -/
structure Wk (K : PySem.W.Frag) (ι : List Addr) (H0 : Hp) (J : It) (get : Nat → Hq → Option D) (fin : Nat → Hq → Bool) : Prop where
  go : ∀ (i : Nat) (ι' : List Addr) (h : Hq) (H : Hp) (d : D), Ext ι H0 ι' H → HR K ι' h H → get i h = some d → J.go i H ∧ ∀ x H', J.yld i H x H' → ∃ ι2, Ext ι' H ι2 H' ∧ HR K ι2 h H' ∧ VR K ι2 H' x d
  stop : ∀ (i : Nat) (ι' : List Addr) (h : Hq) (H : Hp), Ext ι H0 ι' H → HR K ι' h H → fin i h = true → J.stop i H
section
variable {K : PySem.W.Frag} {mg : Str → Option Value} {E : XK} {Z : Ends}
/-- the loop's wish, from the worth of its turns -/
theorem for_in {ι : List Addr} {H0 : Hp} {J : It} {get : Nat → Hq → Option D} {fin : Nat → Hq → Bool} {t : Tg} {b : Ss} {gg : TG} {tb : TS} (w : Wk K ι H0 J get fin) (hg : TgS K gg t)
    (hb : ∀ (Z' : Ends) (σ : L2.St) (H : Hp), tMs K mg E b Z' σ H → tb Z' σ H) {n : Nat} {h0 : Hq} {fr0 : Fr} {σ0 : L2.St} (R0 : HR K ι h0 H0) (F0 : FR K ι H0 σ0 fr0) (P0 : SPo K mg ι H0 Z E (turns get fin t b n 0 fr0 h0)) :
    ∃ W : Nat → Nat → L2.St → Hp → Prop, (∃ m, W 0 m σ0 H0) ∧ ∀ i m σ H, W i m σ H →
      (J.stop i H ∧ Z.nx σ H) ∨ (J.go i H ∧ ∃ N : L2.St → Hp → Prop, (∀ σ' H', N σ' H' → ∃ m', m' < m ∧ W (i + 1) m' σ' H') ∧ ∀ x H', J.yld i H x H' → gg x σ H' fun σ2 H2 => tb { Z with nx := N, ct := N, bk := Z.nx } σ2 H2) := by
  refine ⟨fun i m σ H => ∃ ι1 h fr, Ext ι H0 ι1 H ∧ HR K ι1 h H ∧ FR K ι1 H σ fr ∧ SPo K mg ι1 H Z E (turns get fin t b m i fr h), ⟨n, ι, h0, fr0, Ext.refl _ _, R0, F0, P0⟩, ?_⟩
  rintro i m σ H ⟨ι1, h, fr, e1, R, F, P⟩
  cases m with
  | zero =>
    unfold turns at P
    split at P
    · rename_i hf
      exact .inl ⟨w.stop i ι1 h H e1 R hf, P ι1 H σ (Ext.refl _ _) R F⟩
    · exact P.elim
  | succ m =>
    unfold turns at P
    split at P
    · exact P.elim
    · rename_i _ d hd
      split at P
      · exact P.elim
      · rename_i _ fr1 ht
        obtain ⟨g1, g2⟩ := w.go i ι1 h H d e1 R hd
        refine .inr ⟨g1, fun σ' H' => ∃ ι2 h2 fr2, Ext ι H0 ι2 H' ∧ HR K ι2 h2 H' ∧ FR K ι2 H' σ' fr2 ∧ SPo K mg ι2 H' Z E (turns get fin t b m (i + 1) fr2 h2), fun σ' H' q => ⟨m, Nat.lt_succ_self m, q⟩, fun x H' y => ?_⟩
        obtain ⟨ι2, e2, R2, r2⟩ := g2 x H' y
        refine hg ι2 h H' x d σ fr fr1 _ R2 r2 (F.ext e2) ht fun σ2 F2 => hb _ _ _ ⟨ι2, h, fr1, R2, F2, ?_⟩
        have P2 := SPo.ext e2 P
        revert P2
        cases b fr1 h with
        | nx fr3 h3 => exact fun q ι3 H3 σ3 e3 R3 F3 => ⟨ι3, h3, fr3, (e1.trans e2).trans e3, R3, F3, SPo.ext e3 q⟩
        | ct fr3 h3 => exact fun q ι3 H3 σ3 e3 R3 F3 => ⟨ι3, h3, fr3, (e1.trans e2).trans e3, R3, F3, SPo.ext e3 q⟩
        | bk fr3 h3 => exact fun q => q
        | rt d3 h3 => exact fun q => q
        | exc x3 h3 => exact fun q => q
        | no => exact fun q => q
end
/-- what is walked: how many turns, each turn's item, the end -/
structure Src where
  n : Nat
  get : Nat → Hq → Option D
  fin : Nat → Hq → Bool
abbrev Si := Fr → Hq → Rs Src
def tMi (K : PySem.W.Frag) (mg : Str → Option Value) (E : XK) (f : Si) : TI := fun σ H Q => ∃ ι h fr, HR K ι h H ∧ FR K ι H σ fr ∧ Po K mg (fun ι' H' (J : It) (S : Src) => Wk K ι' H' J S.get S.fin) ι H Q E (f fr h)
abbrev PMi (X : Cx) (E : XK) (tg iter : Expr) (f : Si) : Prop := PI X tg iter (tMi X.K X.mg E f)
theorem pi_imp {X : Cx} {tg iter : Expr} {w w' : TI} (h : PI X tg iter w) (m : ∀ σ H Q, w' σ H Q → w σ H Q) : PI X tg iter w' := ⟨fun pins s σ H R I q => h.run pins s σ H R I (m σ H R q)⟩
section
variable {X : Cx} {E : XK} {tg e e2 : Expr} {body : List Stmt} {fe fe2 : Sx} {fs : Sa} {b : Ss} {t : Tg} {pos p : Pos} {src : Si}
def sFor (t : Tg) (src : Si) (b : Ss) : Ss := fun fr h => (src fr h).into fun S h1 => turns S.get S.fin t b S.n 0 fr h1
theorem m_for (wh : Wh X E) (hi : PMi X E tg e src) (ht : PMg X tg t) (hb : PMb' X E body b) (hf : ∀ x, foldedSetIterable e X.env x = pure x := by intro _; rfl) : PMs X E (.For tg e body [] pos) (sFor t src b) := by
  obtain ⟨gg, hgg, hgs⟩ := ht.ex
  refine ps_imp (ps_for wh.po wh.calm hi hgg hb hf) fun Z σ H ⟨ι, h, fr, R, F, P⟩ => ?_
  refine ⟨ι, h, fr, R, F, Po.mono ?_ (Po.into P)⟩
  rintro J H1 ⟨i1, h1, S, e1, R1, w, P1⟩
  exact for_in w hgs (fun _ _ _ q => q) R1 (F.ext e1) P1
/-- range(n), range(m, n) -/
def iR (lo n : Int) (h : Hq) : Rs Src := if n < 2 ^ 61 ∧ -(2 ^ 61) < n ∧ lo < 2 ^ 61 ∧ -(2 ^ 61) < lo then .ok ⟨(n - lo).toNat, fun i _ => if i < (n - lo).toNat then some (.int (lo + i)) else none, fun i _ => decide ((n - lo).toNat ≤ i)⟩ h else .no
def iRange (fs : Sa) : Si := fun fr h => (fs fr h).bind fun ds h1 => match ds with
  | [.int j] => iR 0 j h1
  | _ => .no
theorem wk_range (K : PySem.W.Frag) (ι : List Addr) (H0 : Hp) (lo : Int) (n : Nat) : Wk K ι H0 (Itr lo n) (fun i _ => if i < n then some (.int (lo + i)) else none) (fun i _ => decide (n ≤ i)) where
  go := fun i ι' h H d e R q => by
    split at q
    · rename_i hi
      cases q
      refine ⟨hi, fun x H' ⟨e1, e2⟩ => ?_⟩
      subst e1 e2
      exact ⟨ι', Ext.refl _ _, R, .int _⟩
    · cases q
  stop := fun i ι' h H e R q => show n ≤ i from of_decide_eq_true q
theorem m_range (hm : X.mg "range" = none) (ha : PMa X E [e] fs) (hg : Gl X "range" := by rfl) (hs : starEach [e] X.env = [(false, eval e X.env)] := by rfl) : PMi X E tg (.Call (.Name "range" p) [e] [] pos) (iRange fs) := pi_imp (pi_range1 hg hm ha hs) fun σ H Q ⟨ι, h, fr, R, F, P⟩ => by
  refine ⟨ι, h, fr, R, F, Po.mono ?_ (Po.bind P)⟩
  rintro vs H1 ⟨i1, h1, ds, e1, R1, r1, P1⟩
  split at P1
  · rename_i j
    unfold iR at P1
    split at P1
    · obtain ⟨v, rfl, q⟩ := r1.one
      cases q
      refine ⟨j, rfl, by omega, by omega, P1 i1 H1 _ (Ext.refl _ _) R1 ?_⟩
      rw [Int.sub_zero]
      exact wk_range X.K i1 H1 0 j.toNat
    · exact P1.elim
  · exact P1.elim
/-- a list or a tuple -/
def srcT (l : List D) : Src := ⟨l.length, fun i _ => l[i]?, fun i _ => decide (l.length ≤ i)⟩
def srcC (m n : Nat) : Src := ⟨n, fun i h => (lstAt h m).bind fun l => l[i]?, fun i h => match lstAt h m with | some l => decide (l.length ≤ i) | none => false⟩
def iSeq (f : Sx) : Si := fun fr h => (f fr h).bind fun d h1 => match d with
  | .tup l => .ok (srcT l) h1
  | .ref m => match lstAt h1 m with
    | some l => .ok (srcC m l.length) h1
    | none => .no
  | _ => .no
theorem pi_seq {X : Cx} {tg l : Expr} {tl : TE} (hl : PE X l tl) : PI X tg l (fun σ H R => iList X.K tl σ H R ∨ iTup X.K tl σ H R) :=
  ⟨fun pins s σ H R I q => q.elim (fun q => (pi_list hl).run pins s σ H R I q) fun q => (pi_tup hl).run pins s σ H R I q⟩
theorem wk_tup {K : PySem.W.Frag} {ι : List Addr} {H0 : Hp} {a : Addr} {vs : List V} {l : List D} (hx : H0 a = some (.tup vs)) (q : VRs K ι H0 vs l) : Wk K ι H0 (Itt K a) (srcT l).get (srcT l).fin where
  go := fun i ι' h H d e R g => by
    have q' := q.ext e
    obtain ⟨v, h1, h2⟩ := q'.get g
    refine ⟨⟨vs, v, .of (e.tups _ _ hx), h1⟩, fun x H' ⟨e1, e2⟩ => ?_⟩
    subst e1
    have := e2 vs (.of (e.tups _ _ hx))
    rw [h1] at this; cases this
    exact ⟨ι', Ext.refl _ _, R, h2⟩
  stop := fun i ι' h H e R g => ⟨vs, .of (e.tups _ _ hx), by rw [q.length]; exact of_decide_eq_true g⟩
theorem wk_lst {K : PySem.W.Frag} {ι : List Addr} {H0 : Hp} {a : Addr} {m n : Nat} (hx : ι[m]? = some a) : Wk K ι H0 (Itl K a) (srcC m n).get (srcC m n).fin where
  go := fun i ι' h H d e R g => by
    obtain ⟨l, hl, g⟩ := Option.bind_eq_some_iff.mp (show (lstAt h m).bind (fun l => l[i]?) = some d from g)
    obtain ⟨vs, c1, q⟩ := R.lst (e.get hx) hl
    obtain ⟨v, h1, h2⟩ := q.get g
    refine ⟨⟨vs, v, .of c1, h1⟩, fun x H' ⟨e1, e2⟩ => ?_⟩
    subst e1
    have := e2 vs (.of c1)
    rw [h1] at this; cases this
    exact ⟨ι', Ext.refl _ _, R, h2⟩
  stop := fun i ι' h H e R g => by
    have g' : (match lstAt h m with | some l => decide (l.length ≤ i) | none => false) = true := g
    split at g'
    · rename_i l hl
      obtain ⟨vs, c1, q⟩ := R.lst (e.get hx) hl
      exact ⟨vs, .of c1, by rw [q.length]; exact of_decide_eq_true g'⟩
    · cases g'
theorem m_seqI (ha : PM X E e fe) : PMi X E tg e (iSeq fe) := pi_imp (pi_seq ha) fun σ H Q ⟨ι, h, fr, R, F, P⟩ => by
  unfold iSeq at P
  cases q : fe fr h with
  | no => rw [q] at P; exact P.elim
  | exc x h1 => rw [q] at P; exact .inl ⟨ι, h, fr, R, F, by rw [q]; exact P⟩
  | ok d h1 =>
    rw [q] at P
    rw [Rs.bind_ok] at P
    have P1 := P
    clear P
    split at P1
    · rename_i l
      refine .inr ⟨ι, h, fr, R, F, ?_⟩
      rw [q]
      intro ι1 H1 v e1 R1 r1
      cases r1 with
      | tup hx q => exact ⟨_, rfl, ⟨_, .of hx⟩, P1 ι1 H1 _ e1 R1 (wk_tup hx q)⟩
    · split at P1
      · rename_i m _ l hl
        refine .inl ⟨ι, h, fr, R, F, ?_⟩
        rw [q]
        intro ι1 H1 v e1 R1 r1
        cases r1 with
        | ref hx =>
          obtain ⟨vs, c1, _⟩ := R1.lst hx hl
          exact ⟨_, rfl, ⟨_, .of c1⟩, P1 ι1 H1 _ e1 R1 (wk_lst hx)⟩
      · exact P1.elim
    · exact P1.elim
end
def whileN (c : Sb) (b : Ss) : Nat → Fr → Hq → Option SR
  | 0, _, _ => none
  | n + 1, fr, h => match c fr h with
    | .ok true h1 => match b fr h1 with
      | .nx fr2 h2 => whileN c b n fr2 h2
      | .ct fr2 h2 => whileN c b n fr2 h2
      | .bk fr2 h2 => some (.nx fr2 h2)
      | r => some r
    | .ok false h1 => some (.nx fr h1)
    | .exc x h1 => some (.exc x h1)
    | .no => some .no
theorem whileN_mono {c : Sb} {b : Ss} : ∀ (n : Nat) (fr : Fr) (h : Hq) (r : SR), whileN c b n fr h = some r → whileN c b (n + 1) fr h = some r
  | 0, _, _, _, e => by cases e
  | n + 1, fr, h, r, e => by
    unfold whileN at e ⊢
    split at e
    · split at e
      · exact whileN_mono n _ _ _ e
      · exact whileN_mono n _ _ _ e
      · exact e
      · exact e
    · exact e
    · exact e
    · exact e
theorem whileN_le {c : Sb} {b : Ss} {n m : Nat} (hm : n ≤ m) {fr : Fr} {h : Hq} {r : SR} (e : whileN c b n fr h = some r) : whileN c b m fr h = some r := by
  obtain ⟨k, rfl⟩ := Nat.exists_eq_add_of_le hm
  induction k with
  | zero => exact e
  | succ k ih => exact whileN_mono _ _ _ _ (ih (Nat.le_add_right _ _))
open Classical in
noncomputable def sWhile (c : Sb) (b : Ss) : Ss := fun fr h => if q : ∃ r n, whileN c b n fr h = some r then q.choose else .no
theorem sWhile_eq {c : Sb} {b : Ss} {n : Nat} {fr : Fr} {h : Hq} {r : SR} (e : whileN c b n fr h = some r) : sWhile c b fr h = r := by
  have q : ∃ r n, whileN c b n fr h = some r := ⟨r, n, e⟩
  unfold sWhile
  rw [dif_pos q]
  obtain ⟨m, hm⟩ := q.choose_spec
  have h1 := whileN_le (Nat.le_max_left n m) e
  have h2 := whileN_le (Nat.le_max_right n m) hm
  rw [h1] at h2
  exact (Option.some.inj h2).symm
section
variable {X : Cx} {E : XK} {c : Expr} {body : List Stmt} {fc : Sb} {b : Ss} {pos : Pos}
theorem m_while (wh : Wh X E) (hc : PMb X E c fc) (hb : PMb' X E body b) : PMs X E (.While c body [] pos) (sWhile fc b) := ps_imp (ps_while wh.po hc hb) fun Z σ H ⟨ι, h, fr, R, F, P⟩ => by
  by_cases q : ∃ r n, whileN fc b n fr h = some r
  · obtain ⟨r, n, e⟩ := q
    rw [sWhile_eq e] at P
    refine ⟨fun m σ H => ∃ ι h fr r, HR X.K ι h H ∧ FR X.K ι H σ fr ∧ whileN fc b m fr h = some r ∧ SPo X.K X.mg ι H Z E r, ⟨n, ι, h, fr, r, R, F, e, P⟩, ?_⟩
    rintro m σ H ⟨ι, h, fr, r, R, F, e, P⟩
    cases m with
    | zero => cases e
    | succ m =>
      refine ⟨ι, h, fr, R, F, ?_⟩
      unfold whileN at e
      cases hq : fc fr h with
      | no => rw [hq] at e; cases e; exact P
      | exc x h1 => rw [hq] at e; cases e; exact P
      | ok v h1 =>
        rw [hq] at e
        intro ι1 H1 v' e1 R1 hv
        have hv' : v' = v := hv
        subst hv'
        cases v' with
        | false =>
          cases e
          exact P ι1 H1 σ e1 R1 (F.ext e1)
        | true =>
          refine ⟨fun σ' H' => ∃ ι h fr r, HR X.K ι h H' ∧ FR X.K ι H' σ' fr ∧ whileN fc b m fr h = some r ∧ SPo X.K X.mg ι H' Z E r, fun σ' H' q => ⟨m, Nat.lt_succ_self m, q⟩, ι1, h1, fr, R1, F.ext e1, ?_⟩
          have P1 := SPo.ext e1 P
          revert e
          dsimp only
          cases b fr h1 with
          | nx fr2 h2 => exact fun e ι2 H2 σ2 e2 R2 F2 => ⟨ι2, h2, fr2, r, R2, F2, e, SPo.ext e2 P1⟩
          | ct fr2 h2 => exact fun e ι2 H2 σ2 e2 R2 F2 => ⟨ι2, h2, fr2, r, R2, F2, e, SPo.ext e2 P1⟩
          | bk fr2 h2 => intro e; cases e; exact P1
          | rt d2 h2 => intro e; cases e; exact P1
          | exc x2 h2 => intro e; cases e; exact P1
          | no => intro e; cases e; exact P1
  · unfold sWhile at P
    rw [dif_neg q] at P
    exact P.elim
end
def sRaise (x : Str) : Ss := fun _ h => .exc { cls := x } h
section
variable {X : Cx} {E : XK} {C : Addr} {bmB : List Value} {B newId initId : String} {x m : Str} {j : Nat} {p p2 pos pos2 : Pos}
theorem m_raise (wh : Wh X E) (F0 : ExcBaseFacts B newId initId bmB) (q : PySem.W.excIn X.K C bmB newId = true) (gC : X.mg x = some (.ref C)) (kC : PySem.W.keepIn X.K (.ref C) = true) (r : Raises X (.ref C)) (hg : Gl X x := by rfl) (hdb : (x == ("__debug__" : Str)) = false := by decide) :
    PMs X E (.Raise (some (.Call (.Name x p) [.Constant (.str m) j p2] [] pos)) none pos2) (sRaise x) := ps_imp (ps_raise wh.calm wh.tk (pmk_own F0 q gC kC r hg hdb)) fun Z σ H ⟨ι, h, fr, R, F, P⟩ => P ι H (.ref C) none (Ext.refl _ _) R ⟨C, gC, rfl, rfl⟩
/-- xs.append(e) -/
def eApp (fo : Sx) (f : Sx) : Sx := fun fr h => (fo fr h).bind fun o h1 => match o with
  | .ref n => match lstAt h1 n with
    | some _ => (f fr h1).bind fun d h2 => match lstAt h2 n with
      | some l => if small (l.length + 1) = true then .ok .non (h2.set n (.lst (l ++ [d]))) else .no
      | none => .no
    | none => .no
  | _ => .no
theorem m_app {o e : Expr} {fo fe : Sx} {apos cpos : Pos} (ho : PM X E o fo) (he : PM X E e fe) (h1 : attributeBase o "append" X.env (eval o X.env) = eval o X.env := by rfl) (h3 : starEach (e :: []) X.env = (false, eval e X.env) :: starEach [] X.env := by rfl)
    (h2 : (((backTo cpos (starEach [e] X.env)).all fun x => !x.fst) && (backToKw cpos (keywordEach [] X.env)).all (fun x => x.fst.isSome) && decide (([e].length + ([] : List Keyword).length + if ([] : List Keyword).isEmpty = true then 0 else 1) < 30)) = true := by rfl)
    (h4 : (apos.endLine == cpos.line) = true := by rfl) :
    PM X E (.Call (.Attribute o "append" apos) [e] [] cpos) (eApp fo fe) := pe_imp (pe_bm PySem.F.plainAttrs_list PySem.F.slot_list_append PySem.F.type_list_append mt_append ho (pa_cons he pa_nil h3) h1 h2 h4 h3) fun σ H Q ⟨ι, h, fr, R, F, P⟩ => by
  refine ⟨ι, h, fr, R, F, Po.mono ?_ (Po.bind P)⟩
  rintro v H1 ⟨i1, h1, od, e1, R1, r1, P1⟩
  split at P1
  · rename_i n
    split at P1
    · rename_i _ l0 hl0
      cases r1 with
      | ref hx =>
        rename_i a
        obtain ⟨vs0, c0, _⟩ := R1.lst hx hl0
        refine ⟨.inl ⟨rfl, vs0, .of c0⟩, i1, h1, fr, R1, F.ext e1, Po.mono ?_ (Po.bind P1)⟩
        rintro w H2 ⟨i2, h2, d, e2, R2, r2, P2⟩
        split at P2
        · rename_i _ l hl
          split at P2
          · rename_i hz
            obtain ⟨vs, c2, q2⟩ := R2.lst (e2.get hx) hl
            obtain ⟨e3, R3⟩ := R2.put (lstAt_some hl) (e2.get hx) (o := .lst (vs ++ [w])) (c := .lst (l ++ [d])) fun H' e z => ⟨_, z, (q2.append (.cons r2 .nil)).ext e⟩
            refine ⟨a, vs, w, rfl, rfl, c2, ?_, P2 i2 _ _ e3 R3 .non⟩
            have := small_le hz
            rw [q2.length]; omega
          · exact P2.elim
        · exact P2.elim
    · exact P1.elim
  · exact P1.elim
end
end MI
end
section
set_option Elab.async false
set_option linter.all false
set_option autoImplicit false
set_option maxRecDepth 100000
set_option maxHeartbeats 4000000
namespace MI
open PySem L2
open PyProof.Rows (envOfC)
def fin : SR → Rs D
  | .nx _ h => .ok .non h
  | .rt d h => .ok d h
  | .exc x h => .exc x h
  | _ => .no
/-- n parameters, k more names -/
def ofBody (n k : Nat) (b : Ss) : Sf := fun ds h => if ds.length = n then fin (b (ds.map some ++ List.replicate k none) h) else .no
theorem fr_start {K : PySem.W.Frag} {ι : List Addr} {H : Hp} {N : List Str} {vs : List V} {ds : List D} (r : VRs K ι H vs ds) : FR K ι H (L2.start N vs) (ds.map some ++ List.replicate (N.length - ds.length) none) := by
  unfold L2.start
  rw [r.length]
  refine ⟨by simp [r.length], fun i d e => ?_⟩
  by_cases hi : i < ds.length
  · rw [List.getElem?_append_left (by simpa using hi), List.getElem?_map] at e
    cases q : ds[i]? with
    | none => rw [q] at e; cases e
    | some d' =>
      rw [q] at e
      cases e
      obtain ⟨v, h1, h2⟩ := r.get q
      refine ⟨v, ?_, h2⟩
      rw [List.getElem?_append_left (by rw [List.length_map, r.length]; exact hi), List.getElem?_map, h1]
      rfl
  · rw [List.getElem?_append_right (by simpa using hi), List.getElem?_replicate] at e
    split at e <;> cases e
section
variable {P : Program} {w : World} {K : PySem.W.Frag} {mg : Str → Option Value} {base : Heap} {k : Nat} {f : Addr} {name qual : Str} {params : Arguments} {body : List Stmt} {scope : Scope} {dV kV doc pm cdv ct oc : Value} {an od : Option Addr}
  {osl : Array (Option Value)} {N ps : List Str}
theorem wh_of {A : Around} {outer : List Env} {s : Shared} {H : Hp} {E : XK} (S : FnScope N ps scope) (hg : A.guards = some []) : Wh (cxOf (L2.CX P w) P w K mg base N qual scope f cdv A outer s H E) E :=
  ⟨takes_of rfl rfl rfl rfl, passes_of rfl, hg, rfl, S.nd⟩
/-- a def's body, walked once, tells the def's worth -/
theorem fnG_of {b : Ss} (lk : K.lookup f = some ⟨oc, od, .func (PySem.W.fnOf name qual params body scope dV kV doc pm an cdv ct), osl⟩) (hcd : PySem.W.codeIn K cdv qual = true) (S : FnScope N ps scope)
    (hb : ∀ (A : Around) (outer : List Env) (s : Shared) (H : Hp) (E : XK), Room k (A.deeper (envOfC qual scope s.heap.objs.size f cdv)) → Wh (cxOf (L2.CX P w) P w K mg base N qual scope f cdv A outer s H E) E →
      PMb' (cxOf (L2.CX P w) P w K mg base N qual scope f cdv A outer s H E) E body b) :
    FnG P w K mg base (k + 1) f (PySem.W.fnOf name qual params body scope dV kV doc pm an cdv ct) ps (ofBody ps.length (N.length - ps.length) b) := by
  constructor
  intro A outer s H args us vs ds ι h Q E room guard e0 bind rv R rd hlen P1
  have hvl : vs.length = ps.length := by rw [rd.length]; exact hlen
  have kin : K.In s.heap := e0.mod.kin.keeps fun b o e => (e0.bs b o e).1
  have nolim : s.heap.NoLimit := e0.mod.nolimit.keeps fun b o e => (e0.bs b o e).1
  have kinds : ∀ y ∈ ps.zip us, scope.names.lookup y.1 = some .local ∨ (scope.names.lookup y.1 = some .cell ∧ ((cellsFrom (s.heap.objs.size + 1) scope.names []).lookup y.1).isSome = true) := by
    rintro ⟨n, v⟩ hy
    rcases S.par n (List.of_mem_zip hy).1 with q | q
    · exact .inl q
    · exact .inr ⟨q, PySem.W.cellsFrom_some _ _ _ (.inl q)⟩
  refine codeAny_call_function room.depth (kin _ _ lk) rfl S.co S.gen rfl (PySem.W.codeRec_of kin hcd) (bind _ _ _ _ ?_)
  refine wpAny_newFunctionEnv_cells S.kind kinds ?_
  intro env henv s1 x
  subst henv
  refine ⟨nolim.keeps x.toInCall.keep, codeAny_func ?_⟩
  have body1 := hb A outer s H E (room.deeper _) (wh_of S guard)
  have I1 : Inv (cxOf (L2.CX P w) P w K mg base N qual scope f cdv A outer s H E) [] (L2.start N vs) H s1 := inv_start S room.hd e0 hvl rv x
  have P2 : PoV K mg ι H Q E (fin (b (ds.map some ++ List.replicate (N.length - ds.length) none) h)) := by
    unfold ofBody at P1
    rw [if_pos hlen] at P1
    rw [hlen]
    exact P1
  have P3 : SPo K mg ι H { nx := fun _ H' => Q .non H', rt := Q } E (b (ds.map some ++ List.replicate (N.length - ds.length) none) h) := by
    revert P2
    cases b (ds.map some ++ List.replicate (N.length - ds.length) none) h with
    | nx fr h1 => exact fun q ι1 H1 σ1 e1 R1 _ => q ι1 H1 .non e1 R1 .non
    | rt d h1 => exact fun q => q
    | exc x h1 => exact fun q => q
    | bk fr h1 => exact fun q => q.elim
    | ct fr h1 => exact fun q => q.elim
    | no => exact fun q => q
  refine wpAny_mono (body1.run [] s1 (L2.start N vs) H { nx := fun _ H' => Q .non H', rt := Q } I1 ⟨ι, h, _, R, fr_start rd, P3⟩) (fun fl s2 q => ?_) fun e s2 q => q
  cases fl with
  | ret u =>
    obtain ⟨v, σ2, H2, J, r2, q2⟩ := q
    exact ⟨v, H2, J.os, J.bare, J.base, J.hok, r2, q2⟩
  | next =>
    obtain ⟨σ2, H2, J, q2⟩ := q
    exact ⟨V.non, H2, J.os, J.bare, J.base, J.hok, rfl, q2⟩
  | brk => obtain ⟨_, _, _, q2⟩ := q; exact q2.elim
  | cont => obtain ⟨_, _, _, q2⟩ := q; exact q2.elim
end
section
variable {P : Program} {w : World} {K : PySem.W.Frag} {mg : Str → Option Value} {base : Heap}
/-- .. with defaults -/
theorem funD_G {x qual : Str} {params : Arguments} {body : List Stmt} {scope : Scope} {dvs : List V} {kws : List (Str × V)} {f : Addr} {fd : FuncData} {N ps : List Str} {k : Nat} {b : Ss} (F : FunD K x qual params body scope dvs kws f fd) (S : FnScope N ps scope)
    (hb : ∀ (cdv : Value) (A : Around) (outer : List Env) (s : Shared) (H : Hp) (E : XK), Room k (A.deeper (envOfC qual scope s.heap.objs.size f cdv)) → Wh (cxOf (L2.CX P w) P w K mg base N qual scope f cdv A outer s H E) E →
      PMb' (cxOf (L2.CX P w) P w K mg base N qual scope f cdv A outer s H E) E body b) : FnG P w K mg base (k + 1) f fd ps (ofBody ps.length (N.length - ps.length) b) := by
  obtain ⟨oc, od, dV, kV, doc, pm, an, cdv, ct, osl, rfl, lk, hcd, _, _⟩ := F.ex
  exact fnG_of lk hcd S fun A outer s H E => hb cdv A outer s H E
end
def keyP : L2.Key → PyData
  | .inl i => .int i
  | .inr x => .str x
/-- data as a whole, dicts too -/
def toPyR (h : Hq) : Nat → D → Option PyData
  | 0, _ => none
  | _ + 1, .non => some .none
  | _ + 1, .bl b => some (.bool b)
  | _ + 1, .int i => some (.int i)
  | _ + 1, .str x => some (.str x)
  | n + 1, .tup l => (opts (toPyR h n) l).map .tuple
  | n + 1, .ref m => match h[m]? with
    | some (.lst l) => (opts (toPyR h n) l).map .list
    | some (.dct l) => (opts (toPyR h n) (l.map (·.2))).map fun ps => .dict ((l.map fun p => keyP p.1).zip ps)
    | none => none
  | _ + 1, .scr l => some (.list (l.map .int))
  | _ + 1, .opq => none
  | _ + 1, .adr _ => none
  | _ + 1, .ty _ => none
mutual
def noLst : PyData → Bool
  | .list _ => false
  | .tuple xs => noLsts xs
  | .dict kvs => noLstK kvs
  | _ => true
def noLsts : List PyData → Bool
  | [] => true
  | x :: xs => noLst x && noLsts xs
def noLstK : List (PyData × PyData) → Bool
  | [] => true
  | (_, v) :: r => noLst v && noLstK r
end
theorem noLsts_k : ∀ (ks : List PyData) (ps : List PyData), noLstK (ks.zip ps) = true → ks.length = ps.length → noLsts ps = true
  | [], [], _, _ => by simp [noLsts]
  | k :: ks, p :: ps, e, hl => by
    have e' : (noLst p && noLstK (ks.zip ps)) = true := by simpa [noLstK] using e
    have e2 := Bool.and_eq_true_iff.mp e'
    simp [noLsts, e2.1, noLsts_k ks ps e2.2 (by simpa using hl)]
def RdA (h : Heap) (us : List Value) (ps : List PyData) : Prop := ∃ as, ReadsAll h us ps as ∧ (noLsts ps = true → ∀ a ∈ as, (a == sysModules) = false)
def Rd1 (h : Heap) (u : Value) (p : PyData) : Prop := ∃ as, Reads h u p as ∧ (noLst p = true → ∀ a ∈ as, (a == sysModules) = false)
section
variable {X : Cx} {pins : List (Addr × Obj)} {σ : L2.St} {H : Hp} {s : Shared}
theorem rd_all {ι : List Addr} {f : D → Option PyData} (hf : ∀ d p v u, f d = some p → VR X.K ι H v d → RelV v u → Rd1 s.heap u p) : ∀ {l : List D} {ps : List PyData} {vs : List V} {us : List Value}, opts f l = some ps → VRs X.K ι H vs l → Vals vs us → RdA s.heap us ps
  | [], _, _, _, e, r, rv => by
    cases r; cases e; cases rv
    exact ⟨[], .nil, fun _ a z => (nomatch z)⟩
  | d :: l, _, _, _, e, r, rv => by
    unfold opts at e
    split at e
    · rename_i p q h1 h2
      cases e
      cases r with
      | cons r1 r2 =>
        cases rv with
        | cons v1 v2 =>
          obtain ⟨as, a1, a2⟩ := hf _ _ _ _ h1 r1 v1
          obtain ⟨bs, b1, b2⟩ := rd_all hf h2 r2 v2
          refine ⟨as ++ bs, .cons a1 b1, fun z a m => ?_⟩
          have z' : (noLst p && noLsts q) = true := by simpa [noLsts] using z
          have z2 := Bool.and_eq_true_iff.mp z'
          exact (List.mem_append.mp m).elim (a2 z2.1 a) (b2 z2.2 a)
    · cases e
theorem ints_rd : ∀ (l : List Int) (us : List Value), Vals (l.map V.int) us → ∃ as, ReadsAll s.heap us (l.map PyData.int) as
  | [], _, r => by cases r; exact ⟨[], .nil⟩
  | i :: l, _, r => by
    cases r with
    | cons r1 r2 =>
      obtain ⟨t, rfl⟩ := r1
      obtain ⟨as, h⟩ := ints_rd l _ r2
      exact ⟨_, .cons (.int i t) h⟩
theorem keys_read (P : Program) (w : World) (h : Heap) : ∀ (k : L2.Key) (key : Value), (mixKind P w).is k key = true → Reads h key (keyP k) [] := fun k key e => by
  rcases keyIs_shape e with ⟨i, t, rfl, rfl⟩ | ⟨x, t, rfl, rfl⟩
  · exact .int i t
  · exact .str x t
theorem pairs_rd {h : Heap} : ∀ {kvs : List (L2.Key × V)} {vs : List (L2.Key × Value)} {ps : List PyData} {as : List Addr}, KV kvs vs → ReadsAll h (vs.map (·.2)) ps as → PyProof.V.PairsRead h keyP vs ((kvs.map fun p => keyP p.1).zip ps) as
  | [], _, _, _, r, q => by
    cases r
    cases q
    exact .nil
  | p :: kvs, _, _, _, r, q => by
    cases r with
    | cons r1 r2 =>
      rename_i b vs
      obtain ⟨k, v⟩ := b
      have q' : ReadsAll h (v :: vs.map (·.2)) _ _ := q
      cases q' with
      | cons q1 q2 =>
        have e : p.1 = k := r1.1
        rw [List.map_cons, e, List.zip_cons_cons]
        exact .cons q1 (pairs_rd r2 q2)
theorem kv_vals : ∀ {kvs : List (L2.Key × V)} {vs : List (L2.Key × Value)}, KV kvs vs → Vals (kvs.map (·.2)) (vs.map (·.2))
  | [], _, r => by cases r; exact .nil
  | p :: kvs, _, r => by
    cases r with
    | cons r1 r2 => exact .cons r1.2 (kv_vals r2)
theorem opts_len {α β : Type} {f : α → Option β} : ∀ {l : List α} {ps : List β}, opts f l = some ps → ps.length = l.length
  | [], _, e => by cases e; rfl
  | d :: l, _, e => by
    unfold opts at e
    split at e
    · rename_i p q h1 h2
      cases e
      rw [List.length_cons, List.length_cons, opts_len h2]
    · cases e
theorem rd_of (I : Inv X pins σ H s) {ι : List Addr} {h : Hq} (R : HR X.K ι h H) : ∀ (n : Nat) (d : D) (p : PyData) (v : V) (u : Value), toPyR h n d = some p → VR X.K ι H v d → RelV v u → Rd1 s.heap u p
  | 0, _, _, _, _, e, _, _ => by cases e
  | n + 1, d, p, v, u, e, r, rv => by
    cases r with
    | non => cases e; cases rv; exact ⟨[], .none, fun _ a z => (nomatch z)⟩
    | bl b => cases e; cases rv; exact ⟨[], .bool b, fun _ a z => (nomatch z)⟩
    | int i => cases e; obtain ⟨t, rfl⟩ := rv; exact ⟨[], .int i t, fun _ a z => (nomatch z)⟩
    | str x => cases e; obtain ⟨t, rfl⟩ := rv; exact ⟨[], .str x t, fun _ a z => (nomatch z)⟩
    | tup hx q =>
      cases rv
      rename_i a vs l
      have e' : (opts (toPyR h n) l).map PyData.tuple = some p := e
      obtain ⟨ps, h1, h2⟩ := Option.map_eq_some_iff.mp e'
      subst h2
      obtain ⟨its, r1, ⟨o, g1, g2, m, g3⟩, _⟩ := I.tuple (.of hx)
      obtain ⟨as, a1, a2⟩ := rd_all (fun d p v u => rd_of I R n d p v u) h1 q r1
      exact ⟨as, .tuple g1 g2 g3 (by simpa using a1), fun z => a2 (by simpa [noLst] using z)⟩
    | ref hx =>
      cases rv
      rename_i a m
      have e' : (match h[m]? with
        | some (.lst l) => (opts (toPyR h n) l).map PyData.list
        | some (.dct l) => (opts (toPyR h n) (l.map (·.2))).map fun ps => .dict ((l.map fun p => keyP p.1).zip ps)
        | none => none) = some p := e
      split at e'
      · rename_i l hl
        obtain ⟨ps, h1, h2⟩ := Option.map_eq_some_iff.mp e'
        subst h2
        obtain ⟨vs, c1, q1⟩ := R.cells m _ a hl hx
        obtain ⟨its, r1, ⟨o, g1, g2, g3, g4, g5⟩, _⟩ := I.list (.of c1)
        obtain ⟨as, a1, a2⟩ := rd_all (fun d p v u => rd_of I R n d p v u) h1 q1 r1
        exact ⟨a :: as, .list g2 g3 g5 (by simpa using a1), fun z => by simp [noLst] at z⟩
      · rename_i l hl
        obtain ⟨ps, h1, h2⟩ := Option.map_eq_some_iff.mp e'
        subst h2
        obtain ⟨kvs, c1, k1, q1⟩ := R.cells m _ a hl hx
        obtain ⟨hz, hsys, vs, r1, dd⟩ : kvs.length ≤ sizeLine ∧ (a == sysModules) = false ∧ ∃ vs, KV kvs vs ∧ s.heap.DictOf (mixKind X.prog X.w) a vs := I.hok a _ c1
        obtain ⟨as, a1, a2⟩ := rd_all (fun d p v u => rd_of I R n d p v u) h1 q1 (kv_vals r1)
        have ek : (l.map fun p => keyP p.1) = kvs.map fun p => keyP p.1 := by
          have e1 : (l.map fun p => keyP p.1) = (l.map (·.1)).map keyP := by rw [List.map_map]; rfl
          rw [e1, ← k1, List.map_map]
          rfl
        rw [ek]
        refine ⟨a :: as, PyProof.V.reads_dictOf (keys_read X.prog X.w s.heap) dd (pairs_rd r1 a1), fun z b hb => ?_⟩
        rcases List.mem_cons.mp hb with rfl | hb
        · exact hsys
        · refine a2 (noLsts_k (kvs.map fun p => keyP p.1) ps (by simpa [noLst] using z) ?_) b hb
          have l1 := opts_len h1
          have l2 := congrArg List.length k1
          simp only [List.length_map] at l1 l2 ⊢
          omega
      · cases e'
    | opq v => cases e
    | adr a => cases e
    | ty n => cases e
    | scr hx =>
      cases rv
      cases e
      obtain ⟨its, r1, ⟨o, g1, g2, g3, g4, g5⟩, _⟩ := I.list hx.sq
      obtain ⟨as, a1⟩ := ints_rd (s := s) _ _ r1
      exact ⟨_ :: as, .list g2 g3 g5 (by simpa using a1), fun z => by simp [noLst] at z⟩
end
mutual
/-- data whose repr is told: where a dict lies, no list beside it in the same item -/
def okT : PyData → Bool
  | .tuple ps => (!(PyData.tuple ps).hasDict || noLst (.tuple ps)) || okTs ps
  | .list ps => !(PyData.list ps).hasDict
  | .dict kvs => noLst (.dict kvs)
  | _ => true
def okTs : List PyData → Bool
  | [] => true
  | p :: ps => okT p && okTs ps
end
/-- what repr takes -/
def shows (p : PyData) : Bool := p.showable && (!p.hasDict || noLst p) && decide (p.depth ≤ 60) && small p.shown.length
def showsT (p : PyData) : Bool := match p with
  | .tuple ps => p.showable && okTs ps && decide (p.depth ≤ 60) && small p.shown.length
  | _ => false
def gRepr (ds : List D) (h : Hq) : Rs D := match ds with
  | [d] => match toPyR h 60 d with
    | some p => if shows p = true then .ok (.str p.shown) h else if showsT p = true then .ok (.str p.shown) h else .no
    | none => .no
  | _ => .no
def rRepr (X : Cx) : List V → Hp → VK → Prop := fun xs H Q => ∃ ι h d p v, xs = [v] ∧ HR X.K ι h H ∧ VR X.K ι H v d ∧ toPyR h 60 d = some p ∧ (shows p = true ∨ showsT p = true) ∧ Q (.str p.shown) H
mutual
/-- item by item -/
inductive RdS (h : Heap) : Value → PyData → Prop
  | leaf {u : Value} {p : PyData} {as : List Addr} : Reads h u p as → (p.hasDict = true → sysModules ∉ as) → RdS h u p
  | tup {a : Addr} {o : Obj} {us : List Value} {xs : List PyData} {m : Nat} {as : List Addr} : h.get? a = some o → o.cls = .type "tuple" → o.data = .seq us.toArray m → Reads h (.ref a) (.tuple xs) as → RdSs h us xs → RdS h (.ref a) (.tuple xs)
inductive RdSs (h : Heap) : List Value → List PyData → Prop
  | nil : RdSs h [] []
  | cons {u : Value} {p : PyData} {us : List Value} {ps : List PyData} : RdS h u p → RdSs h us ps → RdSs h (u :: us) (p :: ps)
end
theorem okT_leaf {p : PyData} (h : okT p = true) : (p.hasDict = true → noLst p = true) ∨ ∃ ps, p = .tuple ps ∧ okTs ps = true := by
  cases p with
  | tuple ps =>
    have h' : (!(PyData.tuple ps).hasDict || noLst (.tuple ps)) = true ∨ okTs ps = true := by simpa [okT] using h
    rcases h' with h' | h'
    · refine .inl fun e => ?_
      rw [e] at h'
      simpa using h'
    · exact .inr ⟨ps, rfl, h'⟩
  | list ps =>
    refine .inl fun e => ?_
    have h' : (!(PyData.list ps).hasDict) = true := h
    rw [e] at h'; cases h'
  | dict kvs => exact .inl fun _ => h
  | _ => exact .inl fun _ => rfl
theorem rdSs_of {h : Heap} {X : Cx} {H : Hp} {ι : List Addr} {f : D → Option PyData} (hf : ∀ d p v u, f d = some p → VR X.K ι H v d → RelV v u → okT p = true → RdS h u p) : ∀ {l : List D} {ps : List PyData} {vs : List V} {us : List Value}, opts f l = some ps → VRs X.K ι H vs l → Vals vs us → okTs ps = true → RdSs h us ps
  | [], _, _, _, e, r, rv, _ => by
    cases r; cases e; cases rv
    exact .nil
  | d :: l, _, _, _, e, r, rv, z => by
    unfold opts at e
    split at e
    · rename_i p q h1 h2
      cases e
      have z' : (okT p && okTs q) = true := z
      obtain ⟨z1, z2⟩ := Bool.and_eq_true_iff.mp z'
      cases r with
      | cons r1 r2 =>
        cases rv with
        | cons v1 v2 => exact .cons (hf _ _ _ _ h1 r1 v1 z1) (rdSs_of hf h2 r2 v2 z2)
    · cases e
theorem rdS_of {X : Cx} {pins : List (Addr × Obj)} {σ : L2.St} {H : Hp} {s : Shared} (I : Inv X pins σ H s) {ι : List Addr} {h : Hq} (R : HR X.K ι h H) : ∀ (n : Nat) (d : D) (p : PyData) (v : V) (u : Value), toPyR h n d = some p → VR X.K ι H v d → RelV v u → okT p = true → RdS s.heap u p
  | 0, _, _, _, _, e, _, _, _ => by cases e
  | n + 1, d, p, v, u, e, r, rv, ok => by
    rcases okT_leaf ok with hl | ⟨ps, rfl, oks⟩
    · obtain ⟨as, a1, a2⟩ := rd_of I R (n + 1) d p v u e r rv
      exact .leaf a1 fun hd hm => by
        have := a2 (hl hd) _ hm
        simp at this
    · cases r with
      | tup hx qd =>
        rename_i a vs l
        cases rv
        have e' : (opts (toPyR h n) l).map PyData.tuple = some (.tuple ps) := e
        obtain ⟨ps', h1, h2⟩ := Option.map_eq_some_iff.mp e'
        cases h2
        obtain ⟨its, r1, ⟨o, g1, g2, m, g3⟩, _⟩ := I.tuple (.of hx)
        obtain ⟨as, a1, _⟩ := rd_of I R (n + 1) (.tup l) (.tuple ps) (.ref a) (.ref a) e (.tup hx qd) rfl
        exact .tup g1 g2 g3 a1 (rdSs_of (fun d p v u e1 r1 v1 z => rdS_of I R n d p v u e1 r1 v1 z) h1 qd r1 oks)
      | ref hx =>
        rename_i a m
        exfalso
        have e' : (match h[m]? with
          | some (.lst l) => (opts (toPyR h n) l).map PyData.list
          | some (.dct l) => (opts (toPyR h n) (l.map (·.2))).map fun ps => .dict ((l.map fun p => keyP p.1).zip ps)
          | none => none) = some (.tuple ps) := e
        split at e'
        · obtain ⟨_, _, z⟩ := Option.map_eq_some_iff.mp e'; cases z
        · obtain ⟨_, _, z⟩ := Option.map_eq_some_iff.mp e'; cases z
        · cases e'
      | scr hx => cases e
      | non => cases e
      | bl b => cases e
      | int i => cases e
      | str x => cases e
      | opq v => cases e
      | adr a => cases e
      | ty n => cases e
mutual
theorem RdS.repr {P : Program} {w : World} {h : Heap} : ∀ {u : Value} {p : PyData}, RdS h u p → p.showable = true → p.shown.length ≤ sizeLine → ∃ bs, ReadAtMost h p.depth bs ∧ ReprK P w bs h p.depth u p.shown
  | _, _, .leaf r hd, hs, hz => ReprK.of_reads r hs hd hz
  | _, _, .tup (a := a) (us := us) (xs := xs) g1 g2 g3 r q, hs, hz => by
    have hz' : (tupleText (PyData.shownAll xs)).length ≤ sizeLine := by simpa only [PyData.shown] using hz
    obtain ⟨bs, hb, hk⟩ := RdSs.repr (P := P) (w := w) q (by simpa [PyData.showable] using hs) (fun t ht => Nat.le_trans (tupleText_mem_le ht) hz')
    have hna : a ∉ bs := not_mem_of_deeper r (by simp only [PyData.depth]; omega) hb
    refine ⟨a :: bs, ReadAtMost.cons r (by simp only [PyData.depth]; omega) hb, ?_⟩
    simp only [PyData.depth, PyData.shown]
    exact ReprK.tuple g1 g2 g3 hna (by simpa using hk)
theorem RdSs.repr {P : Program} {w : World} {h : Heap} : ∀ {us : List Value} {ps : List PyData}, RdSs h us ps → PyData.showableAll ps = true → (∀ t ∈ PyData.shownAll ps, t.length ≤ sizeLine) →
    ∃ bs, ReadAtMost h (PyData.depthAll ps) bs ∧ ReprAllK P w bs h (PyData.depthAll ps) us (PyData.shownAll ps)
  | _, _, .nil, _, _ => ⟨[], fun b z => (nomatch z), by simp only [PyData.shownAll]; exact .nil⟩
  | _, _, .cons (p := p) (ps := ps) r1 r2, hs, hz => by
    have hs' : p.showable = true ∧ PyData.showableAll ps = true := by simpa [PyData.showableAll] using hs
    obtain ⟨b1, hb1, k1⟩ := RdS.repr (P := P) (w := w) r1 hs'.1 (hz _ (by simp only [PyData.shownAll]; exact List.mem_cons_self ..))
    obtain ⟨b2, hb2, k2⟩ := RdSs.repr (P := P) (w := w) r2 hs'.2 (fun t ht => hz t (by simp only [PyData.shownAll]; exact List.mem_cons_of_mem _ ht))
    refine ⟨b1 ++ b2, ?_, ?_⟩
    · intro b hm
      simp only [PyData.depthAll]
      rcases List.mem_append.mp hm with hm | hm
      · obtain ⟨d', as', r', hd'⟩ := hb1 b hm
        exact ⟨d', as', r', Nat.le_trans hd' (Nat.le_max_left _ _)⟩
      · obtain ⟨d', as', r', hd'⟩ := hb2 b hm
        exact ⟨d', as', r', Nat.le_trans hd' (Nat.le_max_right _ _)⟩
    · simp only [PyData.depthAll, PyData.shownAll]
      exact .cons ((k1.more fun b hb => List.mem_append_left _ hb).level_le (Nat.le_max_left _ _)) (k2.more_le (fun b hb => List.mem_append_right _ hb) (Nat.le_max_right _ _))
end
theorem RdS.reads {h : Heap} : ∀ {u : Value} {p : PyData}, RdS h u p → ∃ as, Reads h u p as
  | _, _, .leaf r _ => ⟨_, r⟩
  | _, _, .tup _ _ _ r _ => ⟨_, r⟩
theorem RdSs.reads {h : Heap} : ∀ {us : List Value} {ps : List PyData}, RdSs h us ps → ∃ as, ReadsAll h us ps as
  | _, _, .nil => ⟨[], .nil⟩
  | _, _, .cons r1 r2 => by
    obtain ⟨as, a1⟩ := RdS.reads r1
    obtain ⟨bs, b1⟩ := RdSs.reads r2
    exact ⟨_, .cons a1 b1⟩
theorem call_reprT {X : Cx} (hg : X.A.guards = some []) (hu : X.A.units + 64 < cLine) {pins : List (Addr × Obj)} {σ : L2.St} {H : Hp} {s : Shared} {ι : List Addr} {h : Hq} {d : D} {p : PyData} {v : V} {u : Value} {Q : VK} (I : Inv X pins σ H s) (R : HR X.K ι h H) (rd : VR X.K ι H v d) (e : toPyR h 60 d = some p)
    (sh : showsT p = true) (rv : RelV v u) (q : Q (.str p.shown) H) : wpAny (model X.prog X.w) X.A (call (.builtin "repr") [u]) (EP X pins σ Q) X.xe s := by
  unfold showsT at sh
  split at sh
  · rename_i ps
    have sh' : (((PyData.showableAll ps = true ∧ okTs ps = true) ∧ (PyData.tuple ps).depth ≤ 60) ∧ (PyData.tuple ps).shown.length ≤ 16777216) := by
      simpa [small, PyData.showable, Bool.and_eq_true, -List.all_eq_true] using sh
    obtain ⟨⟨⟨s1, s2⟩, s3⟩, s4⟩ := sh'
    have s3' : PyData.depthAll ps + 1 ≤ 60 := s3
    have sz : (tupleText (PyData.shownAll ps)).length ≤ sizeLine := by rw [line_eq]; exact s4
    cases rd with
    | tup hx qd =>
      rename_i a vs l
      cases rv
      have e' : (opts (toPyR h 59) l).map PyData.tuple = some (.tuple ps) := e
      obtain ⟨ps', h1, h2⟩ := Option.map_eq_some_iff.mp e'
      cases h2
      obtain ⟨its, r1, ⟨o, g1, g2, m, g3⟩, _⟩ := I.tuple (.of hx)
      have ea := rdSs_of (fun d p v u e1 r1 v1 z => rdS_of I R 59 d p v u e1 r1 v1 z) h1 qd r1 s2
      obtain ⟨bs, hb, hk⟩ := RdSs.repr (P := X.prog) (w := X.w) ea s1 fun t ht => Nat.le_trans (tupleText_mem_le ht) sz
      obtain ⟨as, ra⟩ := ea.reads
      have hna : a ∉ bs := not_mem_of_deeper (.tuple g1 g2 g3 (by simpa using ra)) (by simp only [PyData.depth]; omega) hb
      refine call_repr_slot (by omega) ⟨o, g1, g2⟩ F.slot_tuple_repr ?_
      exact call_tuple_reprK (h₀ := s.heap) g1 g2 g3 hna (by simpa using hk) hg (fun b _ => Clear.nil b) (by show X.A.units + 1 + (PyData.depthAll ps + 1) < cLine; omega) (fun _ _ z => z) (fun h' t tk hk' => ⟨_, _, rfl, .str (PyData.tuple ps).shown, H, I.kept hk', ⟨t, rfl⟩, q⟩) sz
    | ref hx =>
      rename_i a m
      exfalso
      have e' : (match h[m]? with
        | some (.lst l) => (opts (toPyR h 59) l).map PyData.list
        | some (.dct l) => (opts (toPyR h 59) (l.map (·.2))).map fun ps => .dict ((l.map fun p => keyP p.1).zip ps)
        | none => none) = some (.tuple ps) := e
      split at e'
      · obtain ⟨_, _, z⟩ := Option.map_eq_some_iff.mp e'; cases z
      · obtain ⟨_, _, z⟩ := Option.map_eq_some_iff.mp e'; cases z
      · cases e'
    | scr hx => cases e
    | non => cases e
    | bl b => cases e
    | int i => cases e
    | str x => cases e
    | opq v => cases e
    | adr a => cases e
    | ty n => cases e
  · cases sh
theorem call_repr {X : Cx} (hg : X.A.guards = some []) (hu : X.A.units + 64 < cLine) : CallR X (.builtin "repr") (rRepr X) := by
  intro pins s σ H xs us Q I r h
  obtain ⟨ι, h, d, p, v, rfl, R, rd, e, sh0, q⟩ := h
  rcases sh0 with sh | sh
  rotate_left
  · cases r with
    | cons rv rr =>
      cases rr
      exact call_reprT hg hu I R rd e sh rv q
  have sh' : (((p.showable = true ∧ (p.hasDict = false ∨ noLst p = true)) ∧ p.depth ≤ 60) ∧ p.shown.length ≤ 16777216) := by
    simpa [shows, small, Bool.and_eq_true, Bool.or_eq_true] using sh
  obtain ⟨⟨⟨s1, s2⟩, s3⟩, s4⟩ := sh'
  cases r with
  | cons rv rr =>
    cases rr
    rename_i u
    have fin : ∀ (h' : Heap) (t : Tok) (tk : Nat), (∀ b o, s.heap.get? b = some o → h'.get? b = some o) → EP X pins σ Q (.str p.shown t) { s with heap := h', toks := tk } := fun h' t tk hk => ⟨.str p.shown, H, I.kept hk, ⟨t, rfl⟩, q⟩
    obtain ⟨as, rd1, rd2⟩ := rd_of I R 60 d p v u e rd rv
    by_cases hu' : ∃ a, u = .ref a
    · obtain ⟨a, rfl⟩ := hu'
      refine repr_of_reads' rd1 s1 (fun hd => ?_) hg (by omega) (fun _ _ z => z) (fun h' t tk hk => fin h' t tk hk) (by rw [line_eq]; exact s4)
      intro hm
      rcases s2 with z | z
      · rw [z] at hd; cases hd
      · have := rd2 z _ hm
        simp at this
    · cases rd1 with
      | none => exact PySem.P.repr_of_none (fin s.heap _ _ fun _ _ z => z)
      | bool b => exact PySem.P.repr_of_bool (fin s.heap _ _ fun _ _ z => z)
      | int i t => exact PySem.P.repr_of_int (by simpa [PyData.showable] using s1) (fin s.heap _ _ fun _ _ z => z)
      | str x t => exact PySem.P.repr_of_str (fin s.heap _ _ fun _ _ z => z) (by rw [line_eq]; exact s4)
      | list _ _ _ _ => exact absurd ⟨_, rfl⟩ hu'
      | tuple _ _ _ _ => exact absurd ⟨_, rfl⟩ hu'
      | dict _ _ _ _ _ => exact absurd ⟨_, rfl⟩ hu'
theorem s_repr {X : Cx} {E : XK} : CaS X.K X.mg E gRepr (rRepr X) := by
  intro ι h H ds vs Q R r P
  unfold gRepr at P
  split at P
  · split at P
    · rename_i d _ p e
      split at P
      · rename_i hs
        obtain ⟨v, rfl, q⟩ := r.one
        exact ⟨ι, h, d, p, v, rfl, R, q, e, .inl hs, P ι H _ (Ext.refl _ _) R (.str _)⟩
      · split at P
        · rename_i hs
          obtain ⟨v, rfl, q⟩ := r.one
          exact ⟨ι, h, d, p, v, rfl, R, q, e, .inr hs, P ι H _ (Ext.refl _ _) R (.str _)⟩
        · exact P.elim
    · exact P.elim
  · exact P.elim
theorem m_repr {X : Cx} {E : XK} {a : Expr} {as : List Expr} {fs : Sa} {p pos : Pos} (wh : Wh X E) (hu : X.A.units + 64 < cLine) (hm : X.mg "repr" = none) (ha : PMa X E (a :: as) fs) (hg : Gl X "repr" := by rfl) (he : starEach (a :: as) X.env = (false, eval a X.env) :: starEach as X.env := by rfl) (hpl : (backTo pos (starEach as X.env)).any (·.1) = false := by rfl) :
    PM X E (.Call (.Name "repr" p) (a :: as) [] pos) (eBi gRepr fs) := m_bi (call_repr wh.gd hu) s_repr hm PyProof.Rows.bootS_repr ha hg (he := he) (hpl := hpl)
end MI
end
section
set_option Elab.async false
set_option linter.all false
set_option autoImplicit false
set_option maxRecDepth 100000
set_option maxHeartbeats 4000000
namespace MI
open PySem L2 PyProof.Rows HT
theorem adjust_rev (n : Nat) : Builtin.Slice.sliceAdjust none none (-1) (n : Int) = ((n : Int) - 1, -1) := by
  unfold Builtin.Slice.sliceAdjust
  simp
theorem places_rev (n : Nat) : Builtin.Slice.slicePlaces ((n : Int) - 1) (-1) (-1) = n := by
  unfold Builtin.Slice.slicePlaces
  have h1 : ¬ ((-1 : Int) > 0) := by omega
  simp only [h1, if_false, Int.neg_neg, Int.ediv_one]
  by_cases h : ((n : Int) - 1) > -1
  · simp only [h, if_true]; omega
  · simp only [h, if_false]; omega
theorem back_run (l : List Value) : ∀ k : Nat, k ≤ l.length → (List.range k).filterMap (fun m : Nat => l[l.length - 1 - m]?) = (l.drop (l.length - k)).reverse
  | 0, _ => by simp
  | k + 1, h => by
    have hk : l.length - 1 - k < l.length := by omega
    have e1 : l.length - (k + 1) = l.length - 1 - k := by omega
    have e2 : l.length - 1 - k + 1 = l.length - k := by omega
    rw [List.range_succ, List.filterMap_append, back_run l k (by omega), e1, List.drop_eq_getElem_cons hk, List.reverse_cons, e2]
    simp [List.getElem?_eq_getElem hk]
theorem fm_congr {α β : Type} {f g : α → Option β} : ∀ {l : List α}, (∀ a ∈ l, f a = g a) → l.filterMap f = l.filterMap g
  | [], _ => rfl
  | a :: l, h => by rw [List.filterMap_cons, List.filterMap_cons, h a List.mem_cons_self, fm_congr fun b hb => h b (List.mem_cons_of_mem _ hb)]
theorem pick_rev (l : List Value) : ((List.range l.toArray.size).filterMap fun (m : Nat) => l.toArray[(((l.toArray.size : Nat) : Int) - 1 + (m : Int) * (-1)).toNat]?).toArray = l.reverse.toArray := by
  congr 1
  have e : (List.range l.length).filterMap (fun (m : Nat) => l.toArray[((l.length : Int) - 1 + (m : Int) * (-1)).toNat]?) = (List.range l.length).filterMap (fun m : Nat => l[l.length - 1 - m]?) := by
    refine fm_congr fun m hm => ?_
    have h1 := List.mem_range.mp hm
    have h2 : ((l.length : Int) - 1 + (m : Int) * (-1)).toNat = l.length - 1 - m := by omega
    rw [h2, List.getElem?_toArray]
  rw [List.size_toArray, e, back_run l l.length (Nat.le_refl _), Nat.sub_self, List.drop_zero]
section
variable {prog : Program} {w : World} {A : Around} {E : Value → Shared → Prop} {s : Shared}
theorem getItem_back {t sl : Addr} {l : List Value} {vs : Value} {Q : Value → Shared → Prop} (ht : IsTup s.heap t l.toArray) (hs : s.heap.IsSliceOf sl .none .none vs) (pk : IsPart vs (some (-1)))
    (h : Q (.ref s.heap.objs.size) { s with heap := s.heap.push { cls := .type "tuple", data := .seq l.reverse.toArray } }) (hsz : l.length ≤ sizeLine) : wpAny (model prog w) A (getItem (.ref t) (.ref sl)) Q E s := by
  have hfit : sizeOk (.seq l.reverse.toArray) := by
    show l.reverse.toArray.size ≤ sizeLine
    rw [List.size_toArray, List.length_reverse]
    exact hsz
  obtain ⟨os, hos, hcs, hds⟩ := id hs
  have hTs : s.TypeIs (.ref sl) "slice" := ⟨os, hos, hcs⟩
  unfold getItem
  try with_reducible refine wpAny_holding ?_
  first | refine wpAny_bind (wpAny_pure ?_) | skip
  refine wpAny_bind (wpAny_sequenceKey ht.typeIs (by decide) ?_)
  refine wpAny_bind (wpAny_callSpecial?_slot (name := Str.ofString "__getitem__") ht.typeIs PyProof.Rows.slot_tuple_getitem (wpAny_call_entry PyProof.Rows.slot_tuple_getitem ht.typeIs entry_tuple_getitem ?_ (args_tuple_getitem _ _)))
  show wpAny _ _ (Builtin.Tuple.tupleItemsOf (.ref t) >>= _) _ _ s
  refine wpAny_bind (tupleItemsOf_ ht (wpAny_bind (wpAny_typeOf hTs ?_)))
  rw [if_pos (by decide)]
  have ap : ∀ {A' : Around} {E' : Value → Shared → Prop} {Q' : Int × Int × Nat → Shared → Prop}, Q' ((l.toArray.size : Int) - 1, -1, l.toArray.size) s → wpAny (model prog w) A' (Builtin.Slice.sliceApplied (.ref sl) (pure (l.toArray.size : Int))) Q' E' s := by
    intro A' E' Q' q
    unfold Builtin.Slice.sliceApplied Builtin.Slice.sliceFields
    refine wpAny_bind (wpAny_bind (wpAny_field hos hds (x := .none) rfl (wpAny_bind (wpAny_field hos hds (x := .none) rfl (wpAny_bind (wpAny_field hos hds (x := vs) rfl (wpAny_pure ?_)))))))
    refine wpAny_bind (slicePart_ pk ?_)
    show wpAny _ _ (if ((-1 : Int) == 0) = true then _ else _) _ _ s
    rw [if_neg (by decide)]
    refine wpAny_bind (slicePart_ .none (wpAny_bind (slicePart_ .none (wpAny_bind (wpAny_pure ?_)))))
    show wpAny _ _ (match Builtin.Slice.sliceAdjust none none (-1) ((l.toArray.size : Nat) : Int) with | (lo, hi) => pure (lo, (-1 : Int), Builtin.Slice.slicePlaces lo hi (-1))) _ _ s
    rw [adjust_rev]
    show wpAny _ _ (pure (((l.toArray.size : Nat) : Int) - 1, (-1 : Int), Builtin.Slice.slicePlaces (((l.toArray.size : Nat) : Int) - 1) (-1) (-1))) _ _ s
    rw [places_rev]
    exact wpAny_pure q
  refine wpAny_bind (ap ?_)
  have hno : ¬ (((((l.toArray.size : Nat) : Int) - 1) == 0 && (-1 : Int) == 1 && l.toArray.size == l.toArray.size) = true) := by
    intro q
    rw [Bool.and_eq_true, Bool.and_eq_true] at q
    exact absurd q.1.2 (by decide)
  show wpAny _ _ (if ((((l.toArray.size : Nat) : Int) - 1) == 0 && (-1 : Int) == 1 && l.toArray.size == l.toArray.size) = true then _ else _) _ _ s
  rw [if_neg hno, pick_rev]
  first
    | exact wpAny_bind (m := Builtin.Tuple.tupleExact _) (wpAny_newObj_type (wpAny_pure ⟨_, rfl, wpAny_pure h⟩) hfit)
    | exact wpAny_bind (m := Builtin.Tuple.tupleExact _) (wpAny_newObj_type (wpAny_bind (wpAny_pure (wpAny_pure ⟨_, rfl, wpAny_pure h⟩))) hfit)
    | exact wpAny_bind (wpAny_bind (m := Builtin.Tuple.tupleExact _) (wpAny_newObj_type (wpAny_pure (wpAny_pure ⟨_, rfl, wpAny_pure h⟩)) hfit))
    | exact wpAny_bind (wpAny_bind (m := Builtin.Tuple.tupleExact _) (wpAny_newObj_type (wpAny_pure ⟨_, rfl, wpAny_pure h⟩) hfit))
end
/-- a tuple (or a list) the other way about -/
def dBack (x : D) (h : Hq) : Rs D := match x with
  | .tup l => .ok (.tup l.reverse) h
  | .ref m => match lstAt h m with
    | some l => .ok (.ref h.length) (h ++ [.lst l.reverse])
    | none => .no
  | _ => .no
theorem VRs.back {K : PySem.W.Frag} {ι : List Addr} {H : Hp} {vs : List V} {l : List D} (r : VRs K ι H vs l) : VRs K ι H vs.reverse l.reverse := by
  induction l generalizing vs with
  | nil => cases r; exact .nil
  | cons d l ih =>
    cases r with
    | cons r1 r2 => rw [List.reverse_cons, List.reverse_cons]; exact (ih r2).append (.cons r1 .nil)
section
variable {X : Cx} {E : XK} {a : Expr} {fa : Sx} {k : Nat} {p1 p2 p3 pos : Pos}
theorem m_back (ha : PM X E a fa) : PM X E (.Subscript a (.Slice none none (some (.UnaryOp .USub (.Constant (.int 1) k p1) p2)) p3) pos) (eUn dBack fa) := by
  constructor
  intro pins s σ H Q I q
  obtain ⟨ι, h, fr, R, F, P⟩ := q
  refine Subscript_ (thn (ha.run pins s σ H _ I ⟨ι, h, fr, R, F, Po.bind P⟩) ?_)
  rintro v s1 ⟨x, H1, I1, r1, ι1, h1, d, e1, R1, rd, P1⟩
  have hst : PO X (some (.UnaryOp .USub (.Constant (.int 1) k p1) p2)) (tPart (tUn (rU fun i => .int (-i)) (tC (.int 1)))) := po_some (pe_un un_neg pe_int)
  refine wpAny_Slice (thn (po_none.run pins s1 σ H1 (fun o H2 => o = none ∧ H2 = H1) I1 ⟨rfl, rfl⟩) ?_)
  rintro vl s2 ⟨l, H2, I2, pl, rfl, rfl⟩
  refine thn (po_none.run pins s2 σ H2 (fun o H3 => o = none ∧ H3 = H2) I2 ⟨rfl, rfl⟩) ?_
  rintro vu s3 ⟨u, H3, I3, pu, rfl, rfl⟩
  refine thn (hst.run pins s3 σ H3 (fun o H4 => o = some (-1) ∧ H4 = H3) I3 ⟨1, rfl, -1, rfl, rfl, rfl⟩) ?_
  rintro vk s4 ⟨o, H4, I4, pk, rfl, rfl⟩
  have I5 : L2.Inv X pins σ H4 { s4 with heap := s4.heap.push { cls := .type "slice", data := .fields #[vl, vu, vk] } } := I4.kept (t' := s4.toks) fun b ob q => Heap.get?_push_of_some _ q
  unfold dBack at P1
  split at P1
  · cases rd with
    | tup hx qd =>
      rename_i xs a' vs
      cases r1
      obtain ⟨its, r, ht, hz⟩ := I5.tuple (.of hx)
      have el : vl = .none := by cases pl; rfl
      have eu : vu = .none := by cases pu; rfl
      subst el eu
      refine tail_any (ops := [.ref a', .ref s4.heap.objs.size]) ht.typeIs PyProof.Rows.slot_tuple_getitem.lookup (getItem_back ht (Heap.IsSliceOf.new _ _ _ vk) pk ?_ (by rw [← r.length]; exact hz)) (by with_unfolding_all rfl)
      have hf := I5.hok.fresh (Nat.le_refl _)
      obtain ⟨e2, R2⟩ := R1.tup hf vs.reverse
      refine ⟨.ref _, _, I5.laid (t' := s4.toks) (o := .tup vs.reverse) (fun b ob q => Heap.get?_push_of_some _ q) (Nat.le_refl _) ⟨by rw [List.length_reverse]; exact hz, _, r.reverse, ⟨_, Heap.get?_push_size _ rfl, rfl, _, rfl⟩⟩, rfl, P1 ι1 _ _ e2 R2 (.tup upd_same ((VRs.back qd).ext e2))⟩
  · split at P1
    · rename_i m _ xs hl
      cases rd with
      | ref hx =>
        rename_i a'
        cases r1
        obtain ⟨vs, c1, qd⟩ := R1.lst hx hl
        obtain ⟨its, r, ht, hz⟩ := I5.list (.of c1)
        have hlen := r.length
        refine tail_any (ops := [.ref a', .ref s4.heap.objs.size]) ht.isList.typeIs (PySem.slot_list_getitem.lookup) ?_ (by with_unfolding_all rfl)
        refine wpAny_getItem_list_slice ht.isList (Heap.IsSliceOf.new _ vl vu vk) pl pu pk (by decide) ?_ (by rw [List.size_toArray]; omega)
        rw [PySem.W.krv_pick]
        have hf := I5.hok.fresh (Nat.le_refl _)
        obtain ⟨e2, R2⟩ := R1.new hf (o := .lst vs.reverse) (c := .lst xs.reverse) fun ι' H' e z => ⟨_, z, (VRs.back qd).ext e⟩
        refine ⟨.ref _, _, I5.laid (t' := s4.toks) (o := .lst vs.reverse) (fun b ob q => Heap.get?_push_of_some _ q) (Nat.le_refl _) ⟨by rw [List.length_reverse]; exact hz, _, 0, r.reverse, Heap.get?_push_size _ rfl⟩, rfl, P1 _ _ _ e2 R2 (.ref (ref_new R1 _))⟩
    · exact P1.elim
  · exact P1.elim
end
end MI
end
section
set_option Elab.async false
set_option linter.all false
set_option autoImplicit false
set_option maxRecDepth 100000
set_option maxHeartbeats 4000000
namespace MI
open PySem L2
open PyProof.Rows (envOfC)
def wipeF (fr : Fr) : List Nat → Fr
  | [] => fr
  | v :: vs => (wipeF fr vs).set v none
theorem fr_wipe {K : PySem.W.Frag} {ι : List Addr} {H : Hp} {σ : L2.St} {fr : Fr} (F : FR K ι H σ fr) : ∀ vs : List Nat, FR K ι H (L2.wipe σ vs) (wipeF fr vs)
  | [] => F
  | v :: vs => (fr_wipe F vs).wipe v
theorem wipe_get (σ : L2.St) : ∀ (vs : List Nat) (j : Nat), (L2.wipe σ vs)[j]? = if j ∈ vs then σ[j]?.map (fun _ => none) else σ[j]?
  | [], j => by simp [L2.wipe]
  | v :: vs, j => by
    have e : L2.wipe σ (v :: vs) = (L2.wipe σ vs).set v none := rfl
    rw [e, List.getElem?_set]
    have ih := wipe_get σ vs j
    by_cases hj : v = j
    · subst hj
      rw [if_pos rfl, if_pos List.mem_cons_self, L2.wipe_length]
      by_cases hl : v < σ.length
      · rw [if_pos hl, List.getElem?_eq_getElem hl]; rfl
      · rw [if_neg hl, List.getElem?_eq_none (by omega)]; rfl
    · rw [if_neg hj, ih]
      by_cases hm : j ∈ vs
      · rw [if_pos hm, if_pos (List.mem_cons_of_mem _ hm)]
      · rw [if_neg hm, if_neg (by simp [hm]; omega)]
theorem wipe_set {σ : L2.St} {vs : List Nat} {i : Nat} {x : Option V} (hi : i ∈ vs) : L2.wipe (σ.set i x) vs = L2.wipe σ vs := by
  refine List.ext_getElem? fun j => ?_
  rw [wipe_get, wipe_get]
  by_cases hj : j ∈ vs
  · rw [if_pos hj, if_pos hj, List.getElem?_set]
    by_cases hij : i = j
    · subst hij
      by_cases hl : i < σ.length
      · simp [hl]
      · simp [hl]
    · simp [hij]
  · rw [if_neg hj, if_neg hj, List.getElem?_set_ne (fun z : i = j => hj (by rw [← z]; exact hi))]
theorem wipe_wipe (σ : L2.St) (vs : List Nat) : L2.wipe (L2.wipe σ vs) vs = L2.wipe σ vs := by
  refine List.ext_getElem? fun j => ?_
  rw [wipe_get, wipe_get]
  by_cases hj : j ∈ vs
  · rw [if_pos hj, if_pos hj]
    cases σ[j]? <;> rfl
  · rw [if_neg hj, if_neg hj]
/-- a comprehension's turns: its list grows at the cell m -/
def picks (m : Nat) (get : Nat → Hq → Option D) (fin : Nat → Hq → Bool) (t : Tg) (c : Sb) (e : Sx) (fr : Fr) : Nat → Nat → Hq → Rs D
  | 0, i, h => if fin i h = true then .ok (.ref m) h else .no
  | n + 1, i, h => match get i h with
    | none => .no
    | some d => match t d fr with
      | none => .no
      | some fr1 => match c fr1 h with
        | .ok true h1 => match e fr1 h1 with
          | .ok y h2 => match lstAt h2 m with
            | some acc => if small (acc.length + 1) = true then picks m get fin t c e fr n (i + 1) (h2.set m (.lst (acc ++ [y]))) else .no
            | none => .no
          | _ => .no
        | .ok false h1 => picks m get fin t c e fr n (i + 1) h1
        | _ => .no
def eComp (src : Si) (own : List Nat) (t : Tg) (c : Sb) (e : Sx) : Sx := fun fr h => (src fr h).bind fun S h1 => picks h1.length S.get S.fin t c e (wipeF fr own) S.n 0 (h1 ++ [.lst []])
def cYes : Sb := fun _ h => .ok true h
abbrev E00 : XK := fun _ _ _ => False
section
variable {K : PySem.W.Frag} {mg : Str → Option Value} {Q : VK}
theorem comp_in {ι : List Addr} {H1 : Hp} {J : It} {get : Nat → Hq → Option D} {fin : Nat → Hq → Bool} {t : Tg} {c : Sb} {e : Sx} {gg : TG} {own : List Nat} {E : XK} (w : Wk K ι H1 J get fin) (hg : TgS K gg t)
    (hw : ∀ (v : V) (σ : L2.St) (H : Hp) (Q : L2.St → Hp → Prop), gg v (L2.wipe σ own) H Q → gg v (L2.wipe σ own) H fun σ2 H2 => L2.wipe σ2 own = L2.wipe σ own ∧ Q σ2 H2)
    {n : Nat} {h0 : Hq} {fr : Fr} {σ : L2.St} (R0 : HR K ι h0 H1) (F0 : FR K ι H1 σ fr)
    (P0 : PoV K mg ι H1 Q E (picks h0.length get fin t c e (wipeF fr own) n 0 (h0 ++ [.lst []]))) : ∀ Dd, H1 Dd = none → ∃ W : Nat → Nat → Hp → Prop, (∃ m, W 0 m (upd H1 Dd (.lst []))) ∧ ∀ i m H, W i m H →
        (J.stop i H ∧ Q (.ref Dd) H) ∨ (J.go i H ∧ ∃ Nx : Hp → Prop, (∀ H', Nx H' → ∃ m', m' < m ∧ W (i + 1) m' H') ∧ ∀ x H', J.yld i H x H' → gg x (L2.wipe σ own) H' fun σ2 H2 => L2.wipe σ2 own = L2.wipe σ own ∧ tMb K mg E00 c σ2 H2 fun b H3 =>
          if b = true then tM K mg E00 e σ2 H3 fun y H4 => ∃ acc, H4 Dd = some (.lst acc) ∧ acc.length < sizeLine ∧ Nx (upd H4 Dd (.lst (acc ++ [y]))) else Nx H3) := by
  intro Dd nD
  obtain ⟨eD, RD⟩ := R0.new nD (o := .lst []) (c := .lst []) fun ι' H' _ q => ⟨[], q, .nil⟩
  have hD : (ι ++ [Dd])[h0.length]? = some Dd := ref_new R0 Dd
  refine ⟨fun i m H => ∃ ι1 h, Ext (ι ++ [Dd]) (upd H1 Dd (.lst [])) ι1 H ∧ HR K ι1 h H ∧ PoV K mg ι1 H Q E (picks h0.length get fin t c e (wipeF fr own) m i h), ⟨n, _, _, Ext.refl _ _, RD, Po.ext eD P0⟩, ?_⟩
  rintro i m H ⟨ι1, h, e1, R, P⟩
  have eAll : Ext ι H1 ι1 H := eD.trans e1
  cases m with
  | zero =>
    unfold picks at P
    split at P
    · rename_i hf
      exact .inl ⟨w.stop i ι1 h H eAll R hf, P ι1 H _ (Ext.refl _ _) R (.ref (e1.get hD))⟩
    · exact P.elim
  | succ m =>
    unfold picks at P
    split at P
    · exact P.elim
    · rename_i _ d hd
      split at P
      · exact P.elim
      · rename_i _ fr1 ht
        obtain ⟨g1, g2⟩ := w.go i ι1 h H d eAll R hd
        refine .inr ⟨g1, fun H' => ∃ ι2 h2, Ext (ι ++ [Dd]) (upd H1 Dd (.lst [])) ι2 H' ∧ HR K ι2 h2 H' ∧ PoV K mg ι2 H' Q E (picks h0.length get fin t c e (wipeF fr own) m (i + 1) h2), fun H' q => ⟨m, Nat.lt_succ_self m, q⟩, fun x H' y => ?_⟩
        obtain ⟨ι2, e2, R2, r2⟩ := g2 x H' y
        have F2 : FR K ι2 H' (L2.wipe σ own) (wipeF fr own) := (fr_wipe F0 own).ext (eAll.trans e2)
        refine hw x σ H' _ (hg ι2 h H' x d _ _ fr1 _ R2 r2 F2 ht fun σ2 F3 => ?_)
        refine ⟨ι2, h, fr1, R2, F3, ?_⟩
        split at P
        · rename_i h3 hc
          rw [hc]
          intro ι3 H3 b e3 R3 hb
          have hb' : b = true := hb
          subst hb'
          rw [if_pos rfl]
          refine ⟨ι3, h3, fr1, R3, F3.ext e3, ?_⟩
          split at P
          · rename_i y' h4 he
            split at P
            · rename_i _ acc hl
              split at P
              · rename_i hz
                rw [he]
                intro ι4 H4 v e4 R4 rv
                have eF : Ext (ι ++ [Dd]) (upd H1 Dd (.lst [])) ι4 H4 := ((e1.trans e2).trans e3).trans e4
                have hx := eF.get hD
                obtain ⟨vs, c1, q1⟩ := R4.lst hx hl
                have hz' := small_le hz
                obtain ⟨e5, R5⟩ := R4.put (lstAt_some hl) hx (o := .lst (vs ++ [v])) (c := .lst (acc ++ [y'])) fun H' e z => ⟨_, z, (q1.append (.cons rv .nil)).ext e⟩
                exact ⟨vs, c1, by rw [q1.length]; omega, ι4, _, eF.trans e5, R5, Po.ext (((e2.trans e3).trans e4).trans e5) P⟩
              · exact P.elim
            · exact P.elim
          · exact P.elim
        · rename_i h3 hc
          rw [hc]
          intro ι3 H3 b e3 R3 hb
          have hb' : b = false := hb
          subst hb'
          rw [if_neg Bool.false_ne_true]
          exact ⟨ι3, h3, (e1.trans e2).trans e3, R3, Po.ext (e2.trans e3) P⟩
        · exact P.elim
end
/-- a comprehension's target, of names of its own -/
structure PMo' (X : Cx) (scope : Scope) (tg : Expr) (t : Tg) (own : List Nat) : Prop where
  ex : ∃ g, (∀ (s : Shared) (H : Hp) (C : Addr) (cl : List (Str × Addr)) (fp : List Addr), PG (X.blk s H scope (compEnvC scope cl C X.env) fp) tg g) ∧ TgS X.K g t ∧
    ∀ (v : V) (σ : L2.St) (H : Hp) (Q : L2.St → Hp → Prop), g v (L2.wipe σ own) H Q → g v (L2.wipe σ own) H fun σ2 H2 => L2.wipe σ2 own = L2.wipe σ own ∧ Q σ2 H2
section
variable {X : Cx} {E : XK} {scope : Scope} {pos : Pos}
theorem m_oN (i : Nat) {x : Str} {own : List Nat} (nd : X.N.Nodup) (hi : X.N[i]? = some x := by rfl) (ho : i ∈ own := by decide)
    (hx : ∀ (C : Addr) (cl : List (Str × Addr)), Loc (compEnvC scope cl C X.env).scope x := by intro _ _; first | exact Or.inl rfl | exact Or.inr rfl)
    (hf : ∀ (C : Addr) (cl : List (Str × Addr)), (scope.names.lookup x == some NameKind.cell) = true ∨ (compEnvC scope cl C X.env).scope.names.lookup x = some .local := by intro _ _; first | exact .inl rfl | exact .inr rfl) :
    PMo' X scope (.Name x pos) (tgN i) own :=
  ⟨gName i, fun s H C cl fp => pg_name (X := X.blk s H scope (compEnvC scope cl C X.env) fp) nd hi (hx C cl) (hf C cl), tgN_s i, fun v σ H Q q => ⟨by rw [wipe_set ho, wipe_wipe], q⟩⟩
/-- two names, three -/
theorem m_oT2 (i j : Nat) {x y : Str} {own : List Nat} {k : Nat} {px py : Pos} (nd : X.N.Nodup) (hc : X.calm = true) (hi : X.N[i]? = some x := by rfl) (hj : X.N[j]? = some y := by rfl) (ho : i ∈ own := by decide) (ho2 : j ∈ own := by decide)
    (hx : ∀ (C : Addr) (cl : List (Str × Addr)), Loc (compEnvC scope cl C X.env).scope x := by intro _ _; first | exact Or.inl rfl | exact Or.inr rfl)
    (hf : ∀ (C : Addr) (cl : List (Str × Addr)), (scope.names.lookup x == some NameKind.cell) = true ∨ (compEnvC scope cl C X.env).scope.names.lookup x = some .local := by intro _ _; first | exact .inl rfl | exact .inr rfl)
    (hy : ∀ (C : Addr) (cl : List (Str × Addr)), Loc (compEnvC scope cl C X.env).scope y := by intro _ _; first | exact Or.inl rfl | exact Or.inr rfl)
    (hf2 : ∀ (C : Addr) (cl : List (Str × Addr)), (scope.names.lookup y == some NameKind.cell) = true ∨ (compEnvC scope cl C X.env).scope.names.lookup y = some .local := by intro _ _; first | exact .inl rfl | exact .inr rfl) :
    PMo' X scope (.Tuple [.Name x px, .Name y py] k pos) (tgT [i, j]) own := by
  refine ⟨gTup X.K 2 (gCons (gName i) (gCons (gName j) gNil)), fun s H C cl fp => pg_tup (X := X.blk s H scope (compEnvC scope cl C X.env) fp) hc
    (pgs_cons (pg_name (X := X.blk s H scope (compEnvC scope cl C X.env) fp) nd hi (hx C cl) (hf C cl)) (pgs_cons (pg_name (X := X.blk s H scope (compEnvC scope cl C X.env) fp) nd hj (hy C cl) (hf2 C cl)) pgs_nil)), ?_, ?_⟩
  · intro ι h H v d σ fr fr' Q R r F e k
    unfold tgT at e
    split at e
    · rename_i l
      cases r with
      | tup hx q =>
        match l, e with
        | [d1, d2], e =>
          cases e
          obtain ⟨v1, v2, rfl, q1, q2⟩ := q.two
          exact ⟨_, _, rfl, .of hx, rfl, v1, [v2], rfl, v2, [], rfl, rfl, k _ ((F.set q1).set q2)⟩
    · cases e
  · rintro v σ H Q ⟨a, xs, e1, hs, hl, v1, r, e2, v2, r2, e3, e4, q⟩
    subst e2 e3 e4
    exact ⟨a, _, e1, hs, hl, v1, _, rfl, v2, _, rfl, rfl, by rw [wipe_set ho2, wipe_set ho, wipe_wipe], q⟩
variable {elt tg iter : Expr} {src : Si} {t : Tg} {c : Sb} {fe : Sx} {own : List (Str × Nat)}
/-- the tests: none, one -/
def PMt (X : Cx) (scope : Scope) (ifs : List Expr) (c : Sb) : Prop := ∀ (s : Shared) (H : Hp) (C : Addr) (cl : List (Str × Addr)) (fp : List Addr), PTs (X.blk s H scope (compEnvC scope cl C X.env) fp) ifs (tMb X.K X.mg E00 c)
theorem m_t0 : PMt X scope [] cYes := fun s H C cl fp => ⟨fun pins s σ H Q I ⟨ι, h, fr, R, F, P⟩ => pts_nil.run pins s σ H Q I (P ι H true (Ext.refl _ _) R rfl)⟩
theorem tLc_in {ifs : List Expr} {gg : TG} (hg : TgS X.K gg t) (hw : ∀ (v : V) (σ : L2.St) (H : Hp) (Q : L2.St → Hp → Prop), gg v (L2.wipe σ (own.map (·.2))) H Q → gg v (L2.wipe σ (own.map (·.2))) H fun σ2 H2 => L2.wipe σ2 (own.map (·.2)) = L2.wipe σ (own.map (·.2)) ∧ Q σ2 H2)
    {σ : L2.St} {H : Hp} {Q : VK} (q : tM X.K X.mg E (eComp src (own.map (·.2)) t c fe) σ H Q) : tLc (tMi X.K X.mg E src) gg (tMb X.K X.mg E00 c) (tM X.K X.mg E00 fe) (own.map (·.2)) σ H Q := by
  obtain ⟨ι, h, fr, R, F, P⟩ := q
  refine ⟨ι, h, fr, R, F, Po.mono ?_ (Po.bind P)⟩
  rintro J H1 ⟨i1, h1, S, e1, R1, w, P1⟩
  exact comp_in w hg hw R1 (F.ext e1) P1
/-- a comprehension as a worth -/
theorem m_comp {ifs : List Expr} (wh : Wh X E) (hi : PMi X E tg iter src) (ok : BlkOk X.N X.env.scope scope own) (ho : PMo' X scope tg t (own.map (·.2))) (ht : PMt X scope ifs c)
    (he : ∀ (s : Shared) (H : Hp) (C : Addr) (cl : List (Str × Addr)) (fp : List Addr), PM (X.blk s H scope (compEnvC scope cl C X.env) fp) E00 elt fe) (hs : ∀ x, foldedSetIterable iter X.env x = pure x := by intro _; rfl) :
    PM X E (.ListComp elt [⟨tg, iter, ifs, 0⟩] scope pos) (eComp src (own.map (·.2)) t c fe) := by
  obtain ⟨g, hg, hgs, hw⟩ := ho.ex
  exact pe_imp (pe_lc wh.calm wh.nd hi ok hg ht he hs) fun σ H Q q => tLc_in (ifs := ifs) hgs hw q
/-- name = [..] -/
theorem m_setC (i : Nat) {y : Str} {py spos : Pos} {ifs : List Expr} (wh : Wh X E) (hi : PMi X E tg iter src) (ok : BlkOk X.N X.env.scope scope own) (ho : PMo' X scope tg t (own.map (·.2))) (ht : PMt X scope ifs c)
    (he : ∀ (s : Shared) (H : Hp) (C : Addr) (cl : List (Str × Addr)) (fp : List Addr), PM (X.blk s H scope (compEnvC scope cl C X.env) fp) E00 elt fe)
    (hsw : swapsWith (.ListComp elt [⟨tg, iter, ifs, 0⟩] scope pos) (some (.Name y py)) spos.line X.env = pure true) (hy : X.N[i]? = some y := by rfl) (hyl : X.env.scope.names.lookup y = some .local := by rfl) (hs : ∀ x, foldedSetIterable iter X.env x = pure x := by intro _; rfl) :
    PMs X E (.Assign [.Name y py] (.ListComp elt [⟨tg, iter, ifs, 0⟩] scope pos) spos) (sAsg (eComp src (own.map (·.2)) t c fe) (tgN i)) := by
  obtain ⟨g, hg, hgs, hw⟩ := ho.ex
  refine ps_imp (ps_setLc (te := tM X.K X.mg E00 fe) wh.calm wh.nd hy hyl hsw hi ok hg ht he hs) fun Z σ H q => ?_
  have q2 := asg_in (tgN_s i) q
  exact tLc_in (ifs := ifs) hgs hw q2
end
section
variable {X : Cx} {E : XK} {k : Nat} {f : Addr} {fd : FuncData} {ps ks : List Str} {sem : Sf} {x : Str} {p pos kpos : Pos} {a : Expr} {as : List Expr} {fs fk : Sa} {kws : List Keyword} {nm : Option Str} {fa : Sx}
/-- f(a, .., k = b, ..): the written arguments, then the keywords' (in the parameters' order) -/
def eCallK (n : Nat) (sem : Sf) (f g : Sa) : Sx := fun fr h => (f fr h).bind fun ds h1 => (g fr h1).bind fun es h2 => if (ds ++ es).length = n then sem (ds ++ es) h2 else .no
end
end MI
end
section
set_option Elab.async false
set_option linter.all false
set_option autoImplicit false
set_option maxRecDepth 100000
set_option maxHeartbeats 4000000
namespace MI
open PySem L2
open PyProof.Rows (envOfC)
end MI
end
section
set_option Elab.async false
set_option linter.all false
set_option autoImplicit false
set_option maxRecDepth 100000
set_option maxHeartbeats 4000000
namespace MI
open PySem L2
open PyProof.Rows (envOfC)
open PyProof.Rows (IntsAre)
open PyProof.Rows (AllBare)
section
variable {P : Program} {w : World} {K : PySem.W.Frag} {mg mb : Str → Option Value} {k : Nat} {fa a : Addr} {fd : FuncData} {x : Str} {sem : Sf} {s1 : Shared} {vs : List Value} {ns : List Int}
/-- the call of the law, where what is tracked at its entry is the script or nothing -/
theorem law_go {H : Hp} (KX : K.In s1.heap) (hns : s1.heap.Ns mainGlobals mg) (hb : s1.heap.Ns builtinsNs mb) (hbb : ∀ y : Str, y ≠ "__name__" → mb y = bootBuiltins y) (hlim : s1.heap.NoLimit) (hg : s1.gens = #[])
    (ha : s1.heap.get? a = some { cls := .type "list", data := .seq vs.toArray }) (hr : Room k callerA) (F : ∀ base : Heap, K.In base → base.Ns mainGlobals mg → FnG P w K mg base k fa fd [x] sem) (hbind : ∀ (s : Shared) (u : Value), BindsTo s fd ⟨[u], []⟩ [(x, u)])
    (hs : ∃ h', sem [.scr ns] [] = .ok (.bl true) h') (only : ∀ b, H b = none ∨ ∃ o xs, H b = some (.frz o (.lst xs))) (scr : Scr K H a ns) (hok : HOk P w H s1.heap) (at_ : ∀ b, H b ≠ none → b = a) (off : H a ≠ none → K.lookup a = none) :
    codeAny (model P w) callerA (.call (.ref fa) ⟨[.ref a], []⟩) (fun r s' => r = .ok (.ret (.bool true)) ∧ OldK s1.heap s'.heap ∧ s'.os = s1.os ∧ AllBare s'.gens) s1 := by
  have seen : ∀ {b : Addr} {o : Obj}, s1.heap.get? b = some o → H b = none → (hidT s1.heap H).get? b = some o := fun e n => hidT_get e n
  have dicts : ∀ {b : Addr} {o : Obj} {es : Array DictEntry} {ep : Nat}, s1.heap.get? b = some o → o.data = .dict es ep → H b = none := by
    intro b o es ep e d
    by_cases q : H b = none
    · exact q
    · have e' : b = a := at_ b q
      subst e'
      rw [ha] at e
      cases e
      cases d
  have space : ∀ {b : Addr} {m : Str → Option Value}, s1.heap.Ns b m → (hidT s1.heap H).Ns b m := by
    rintro b m ⟨o, es, ep, e, d, r⟩
    exact ⟨o, es, ep, seen e (dicts e d), d, r⟩
  have kin : K.In (hidT s1.heap H) := by
    intro b o e
    refine seen (KX b o e) ?_
    by_cases q : H b = none
    · exact q
    · have e' : b = a := at_ b q
      subst e'
      rw [off q] at e
      cases e
  have md : Mod K mg (hidT s1.heap H) := by
    obtain ⟨mc, c1, c2⟩ := hlim
    exact ⟨kin, space hns, ⟨mb, space hb, hbb⟩, ⟨mc, space c1, c2⟩⟩
  have none0 : ∀ b : Addr, b ∉ ([] : List Addr) := fun b z => (nomatch z)
  have e0 : Env0 P w K mg (hidT s1.heap H) callerA [] s1 H := ⟨rfl, md, fun b o e => of_hidT e, Nat.le_of_eq (hidT_size _ _), trivial, fun b hb => absurd (show b ∈ ([] : List Addr) from hb) (none0 b), hok, .of_eq hg⟩
  obtain ⟨h', hs⟩ := hs
  have P1 : PoV K mg [] H (fun v _ => v = .bl true) (fun _ _ _ => False) (sem [.scr ns] []) := by
    rw [hs]
    intro ι' H' v e1 R1 r1
    cases r1
    rfl
  have R0 : HR K [] [] H := ⟨rfl, List.nodup_nil, fun n c a h1 => by simp at h1⟩
  refine codeAny_mono ((F _ kin (space hns)).go callerA [] s1 H ⟨[.ref a], []⟩ [.ref a] [.ref a] [.scr ns] [] [] (fun v _ => v = .bl true) (fun _ _ _ => False) hr rfl e0 (hbind s1 (.ref a)) (.cons rfl .nil) R0 (.cons (.scr scr) .nil) rfl P1) ?_
  intro r s' q
  cases r with
  | error e =>
    obtain ⟨_, _, _, _, _, _, _, _, _, _, _, _, z⟩ := q
    exact z.elim
  | ok fl =>
    cases fl with
    | next => exact q.elim
    | brk => exact q.elim
    | cont => exact q.elim
    | ret u =>
      obtain ⟨v, H', os, bare, un, hok2, rv, ev⟩ := q
      have ev' : v = .bl true := ev
      subst ev'
      cases (show u = Value.bool true from rv)
      refine ⟨rfl, OldK.of_keep fun b o e => ?_, os, bare⟩
      rcases only b with z | ⟨ob, xs, z⟩
      · exact un.keep b o e z (none0 b) (none0 b)
      · have z2 := un.frzs b ob _ z
        obtain ⟨e1, _⟩ := hok b _ z
        obtain ⟨e2, _⟩ := hok2 b _ z2
        rw [e] at e1
        cases e1
        exact e2
theorem law_at (KX : K.In s1.heap) (hns : s1.heap.Ns mainGlobals mg) (hb : s1.heap.Ns builtinsNs mb) (hbb : ∀ y : Str, y ≠ "__name__" → mb y = bootBuiltins y) (hlim : s1.heap.NoLimit) (hg : s1.gens = #[])
    (ha : s1.heap.get? a = some { cls := .type "list", data := .seq vs.toArray }) (hi : IntsAre vs ns) (hl : ns.length ≤ sizeLine) (hr : Room k callerA) (F : ∀ base : Heap, K.In base → base.Ns mainGlobals mg → FnG P w K mg base k fa fd [x] sem)
    (hbind : ∀ (s : Shared) (u : Value), BindsTo s fd ⟨[u], []⟩ [(x, u)]) (hs : ∃ h', sem [.scr ns] [] = .ok (.bl true) h') :
    codeAny (model P w) callerA (.call (.ref fa) ⟨[.ref a], []⟩) (fun r s' => r = .ok (.ret (.bool true)) ∧ OldK s1.heap s'.heap ∧ s'.os = s1.os ∧ AllBare s'.gens) s1 := by
  have rv := vals_ints hi
  cases hk : K.lookup a with
  | some o =>
    have e := KX a o hk
    rw [ha] at e
    cases e
    refine law_go (H := fun _ => none) KX hns hb hbb hlim hg ha hr F hbind hs (fun _ => .inl rfl) (.inr ⟨_, vs.toArray, _, hk, rfl, rfl, rfl, by rw [List.size_toArray, hi.length]; exact hl, by simpa using rv⟩) (fun b u z => ?_) (fun b z => absurd rfl z) fun z => absurd rfl z
    have z' : (none : Option HO) = some u := z
    cases z'
  | none =>
    refine law_go (H := fun b => if b = a then some (.frz { cls := .type "list", data := .seq vs.toArray } (.lst (ns.map V.int))) else none) KX hns hb hbb hlim hg ha hr F hbind hs (fun b => ?_) (.inl ⟨_, if_pos rfl⟩) (fun b u z => ?_) (fun b z => ?_) fun _ => hk
    · by_cases q : b = a
      · exact .inr ⟨_, _, if_pos q⟩
      · exact .inl (if_neg q)
    · by_cases q : b = a
      · have z' := (if_pos q).symm.trans z
        cases z'
        subst q
        exact ⟨ha, by rw [List.length_map]; exact hl, vs, _, rv, ha⟩
      · have z' := (if_neg q).symm.trans z
        cases z'
    · by_cases q : b = a
      · exact q
      · exact absurd (if_neg q) z
end
/-- the goal that k_head leaves, from the law's worth -/
theorem walkG {l : PySem.W.OpenLaw} {n k : Nat} {q : Program} {loose : List Str} {XP : (Str → Option Value) → Heap → Prop} {YP : World → Heap → Prop} {d : DefRec} {K : Params → PySem.W.Frag} {sem : Sf} {x : Str}
    (hn : l.most = some n) (hn2 : n ≤ sizeLine) (hdf : d.params.defaults = []) (hr : Room k callerA) (hY : ∀ (w : World) (h : Heap), YP w h → (K w.params).In h)
    (F : ∀ (w : World) (mg : Str → Option Value) (fa : Addr) (h : Heap), (K w.params).In h → h.Ns mainGlobals mg → mg d.name = some (.ref fa) →
      ∃ fd : FuncData, (∀ (s : Shared) (u : Value), BindsTo s fd ⟨[u], []⟩ [(x, u)]) ∧ ∀ base : Heap, (K w.params).In base → base.Ns mainGlobals mg → FnG l.prog w (K w.params) mg base k fa fd [x] sem)
    (hs : ∀ ns : List Int, ns.length ≤ n → ∃ h', sem [.scr ns] [] = .ok (.bl true) h') : PySem.W.WalkO q loose XP YP l.row.toRowW d [] (fun f vs => PySem.call f vs) := by
  refine Att.attach_call hn hdf ?_
  intro w s0 s1 mg mb fa o pm cd doc a vs ns G Y ho hd hcd hmg hobj hints hlen hg
  have KX := hY w _ Y
  obtain ⟨fd, hb, hF⟩ := F w mg fa _ KX G.T.g hmg
  exact law_at KX G.T.g G.T.b G.T.builtins G.T.nolimit hg hobj hints (Nat.le_trans hlen hn2) hr hF hb (hs ns hlen)
end MI
end
section
set_option Elab.async false
set_option linter.all false
set_option autoImplicit false
set_option maxRecDepth 100000
set_option maxHeartbeats 4000000
namespace MI
open PySem L2
open PyProof.Rows (envOfC)
/-- the def that the module's name x stands for is worth sem -/
structure Good (P : Program) (w : World) (K : PySem.W.Frag) (mg : Str → Option Value) (base : Heap) (k : Nat) (x : Str) (ps : List Str) (sem : Sf) : Prop where
  ex : ∃ (f : Addr) (fd : FuncData), mg x = some (.ref f) ∧ FnG P w K mg base k f fd ps sem ∧ PySem.W.keepIn K (.ref f) = true ∧ Binds K fd ps []
section
variable {X : Cx} {E : XK} {k j : Nat} {ps : List Str} {sem : Sf} {x : Str} {p pos : Pos} {a : Expr} {as : List Expr} {fs : Sa}
theorem m_callG (G : Good X.prog X.w X.K X.mg X.base k x ps sem) (wh : Wh X E) (hr : Room j X.A) (hkj : k ≤ j) (ha : PMa X E (a :: as) fs) (hg : Gl X x := by rfl) (hdb : (x == ("__debug__" : Str)) = false := by decide)
    (he : starEach (a :: as) X.env = (false, eval a X.env) :: starEach as X.env := by rfl) (hpl : (backTo pos (starEach as X.env)).any (·.1) = false := by rfl) :
    PM X E (.Call (.Name x p) (a :: as) [] pos) (eCall ps.length sem fs) := by
  obtain ⟨f, fd, hm, F, hk, hb⟩ := G.ex
  exact m_call F wh (hr.mono hkj) hm hk hb ha hg hdb he hpl
theorem wh_blk (wh : Wh X E) {s : Shared} {H : Hp} {scope : Scope} {cenv : Env} {fp : List Addr} : Wh (X.blk s H scope cenv fp) E00 :=
  ⟨fun u s' q => by obtain ⟨_, _, _, _, _, _, _, _, _, _, _, _, _, _, _, _, z⟩ := q; exact z.elim, PySem.PassesOwn.never, wh.gd, wh.calm, wh.nd⟩
end
/-- the block's own names stand where they should -/
def blkB (N : List Str) (sc scope : Scope) (own : List (Str × Nat)) : Bool :=
  decide (scope.kind = .function) && (scope.names.all (fun y => decide (scope.names.lookup y.1 = some y.2)) && (own.all (fun p => decide (N[p.2]? = some p.1)) &&
    (scope.names.all (fun y => !decide (y.2 = .free) || (decide (sc.names.lookup y.1 = some .cell) || decide (sc.names.lookup y.1 = some .free))) &&
      scope.names.all (fun y => !(decide (y.2 = .local) || decide (y.2 = .cell)) || (decide (y.1 ∈ own.map (·.1)) || decide (y.1 ∉ N))))))
theorem blk_of {N : List Str} {sc scope : Scope} {own : List (Str × Nat)} (h : blkB N sc scope own = true) : BlkOk N sc scope own := by
  unfold blkB at h
  simp only [Bool.and_eq_true, decide_eq_true_eq, List.all_eq_true, Bool.or_eq_true, Bool.not_eq_true', decide_eq_false_iff_not] at h
  obtain ⟨h1, h2, h3, h4, h5⟩ := h
  exact ⟨h1, h2, h3, fun y hy e => (h4 y hy).elim (fun z => absurd e z) id, fun y hy e => (h5 y hy).elim (fun z => absurd e (by simpa using z)) id⟩
end MI
end
section
set_option Elab.async false
set_option linter.all false
set_option autoImplicit false
set_option maxRecDepth 100000
set_option maxHeartbeats 4000000
namespace MI
open PySem L2
section
variable {α β : Type} {r r' : Rs α} {s s' : SR} {g : Ss} {fr : Fr} {h : Hq} {a b c f : Sx} {t u : Sb} {p q : Ss} {as : Sa} {d : D} {i j : Int} {n m : Nat}
theorem c_bind {f : α → Hq → Rs β} (e : r = r') : r.bind f = r'.bind f := by rw [e]
theorem c_into {f : α → Hq → SR} (e : r = r') : r.into f = r'.into f := by rw [e]
theorem c_then (e : s = s') : s.then g = s'.then g := by rw [e]
theorem v_K : eK d fr h = .ok d h := rfl
def vR : Option (Option D) → Hq → Rs D
  | some (some d), h => .ok d h
  | _, _ => .no
theorem v_V : eV n fr h = vR fr[n]? h := by unfold eV vR; split <;> simp_all
theorem v_vR : vR (some (some d)) h = .ok d h := rfl
theorem v_Op {g : D → D → Hq → Rs D} : eOp g a b fr h = (a fr h).bind fun x h1 => (b fr h1).bind fun y h2 => g x y h2 := rfl
theorem v_Un {g : D → Hq → Rs D} : eUn g a fr h = (a fr h).bind g := rfl
theorem v_bOf : bOf a fr h = isB (a fr h) := rfl
theorem v_isB {b : Bool} : isB (.ok (.bl b) h) = .ok b h := rfl
theorem v_isBx {x : Xn} : isB (.exc x h) = .exc x h := rfl
theorem v_bAnd : bAnd t u fr h = (t fr h).bind fun c h1 => if c = true then u fr h1 else .ok false h1 := rfl
theorem v_bOr : bOr t u fr h = (t fr h).bind fun c h1 => if c = true then .ok true h1 else u fr h1 := rfl
theorem v_bNot : bNot t fr h = (t fr h).bind fun c h1 => .ok (!c) h1 := rfl
theorem v_eAnd : eAnd a b fr h = (isB (a fr h)).bind fun c h1 => if c = true then b fr h1 else .ok (.bl false) h1 := rfl
theorem v_eOr : eOr a b fr h = (isB (a fr h)).bind fun c h1 => if c = true then .ok (.bl true) h1 else b fr h1 := rfl
theorem v_eNot : eNot a fr h = (isB (a fr h)).bind fun c h1 => .ok (.bl (!c)) h1 := rfl
theorem v_eIf : eIf t a b fr h = (t fr h).bind fun c h1 => if c = true then a fr h1 else b fr h1 := rfl
theorem v_aNil : aNil fr h = .ok [] h := rfl
theorem v_aCons : aCons a as fr h = (a fr h).bind fun x h1 => (as fr h1).bind fun xs h2 => .ok (x :: xs) h2 := rfl
theorem v_Tup : eTup as fr h = (as fr h).bind fun xs h1 => if small xs.length = true then .ok (.tup xs) h1 else .no := rfl
theorem v_Lst : eLst as fr h = (as fr h).bind fun xs h1 => if small xs.length = true then .ok (.ref h1.length) (h1 ++ [.lst xs]) else .no := rfl
theorem v_Dct : eDct0 fr h = .ok (.ref h.length) (h ++ [.dct []]) := rfl
theorem v_Dct2 {a b : Str} {i j : Int} : eDct2 a b i j fr h = .ok (.ref h.length) (h ++ [.dct [(.inr a, .int i), (.inr b, .int j)]]) := rfl
theorem v_Call {sem : Sf} : eCall n sem as fr h = (as fr h).bind fun ds h1 => if ds.length = n then sem ds h1 else .no := rfl
theorem v_CallK {sem : Sf} {bs : Sa} : eCallK n sem as bs fr h = (as fr h).bind fun ds h1 => (bs fr h1).bind fun es h2 => if (ds ++ es).length = n then sem (ds ++ es) h2 else .no := rfl
theorem v_Bi {g : List D → Hq → Rs D} : eBi g as fr h = (as fr h).bind g := rfl
theorem v_Isi {x : String} : eIsi x a fr h = (a fr h).bind fun d h1 => gIsi x d h1 := rfl
theorem v_Cut {lo hi : So} : eCut a lo hi fr h = (a fr h).bind fun x h1 => (lo fr h1).bind fun l h2 => (hi fr h2).bind fun u h3 => dCut x l u h3 := rfl
theorem v_oNone : oNone fr h = .ok none h := rfl
def vO : D → Hq → Rs (Option Int)
  | .int i, h => .ok (some i) h
  | _, _ => .no
theorem v_oSome : oSome a fr h = (a fr h).bind vO := by
  unfold oSome
  congr 1
  funext x h1
  cases x <;> rfl
theorem v_vO : vO (.int i) h = .ok (some i) h := rfl
/-- statements -/
theorem v_End : sEnd fr h = .nx fr h := rfl
theorem v_Seq : sSeq p q fr h = (p fr h).then q := rfl
theorem v_If : sIf t p q fr h = (t fr h).into fun b h1 => if b = true then p fr h1 else q fr h1 := rfl
theorem v_Ret : sRet a fr h = (a fr h).into fun d h1 => .rt d h1 := rfl
theorem v_Expr : sExpr a fr h = (a fr h).into fun _ h1 => .nx fr h1 := rfl
theorem v_Set : sAsg a (tgN n) fr h = (a fr h).into fun d h1 => .nx (fr.set n (some d)) h1 := rfl
theorem v_SetT {is : List Nat} : sAsg a (tgT is) fr h = (a fr h).into fun d h1 => match tgT is d fr with | some fr' => .nx fr' h1 | none => .no := rfl
theorem v_Par {k : Nat} : sPar n k as fr h = (as fr h).into fun ds h1 => match ds with | [d, e] => .nx ((fr.set n (some d)).set k (some e)) h1 | _ => .no := rfl
theorem v_Raise {x : Str} : sRaise x fr h = .exc { cls := x } h := rfl
theorem v_For {src : Si} {tg : Tg} : sFor tg src p fr h = (src fr h).into fun S h1 => turns S.get S.fin tg p S.n 0 fr h1 := rfl
def vPut (d : D) : D → D → Fr → Hq → SR
  | .ref m, .int j, fr, h3 => match lstAt h3 m with
    | some l => match ixN l.length j with
      | some n => .nx fr (h3.set m (.lst (l.set n d)))
      | none => .no
    | none => .no
  | _, _, _, _ => .no
theorem v_Put : sPut a b c fr h = (a fr h).into fun d h1 => (b fr h1).into fun o h2 => (c fr h2).into fun k h3 => vPut d o k fr h3 := by
  unfold sPut
  congr 1
  funext d h1
  congr 1
  funext o h2
  congr 1
  funext k h3
  cases o <;> cases k <;> rfl
theorem v_vPut {l : List D} {k : Nat} (e : lstAt h m = some l) (e2 : ixN l.length j = some k) : vPut d (.ref m) (.int j) fr h = .nx fr (h.set m (.lst (l.set k d))) := by
  unfold vPut
  simp only [e, e2]
theorem v_fnx : fin (.nx fr h) = .ok .non h := rfl
theorem v_frt : fin (.rt d h) = .ok d h := rfl
theorem v_fex {x : Xn} : fin (.exc x h) = .exc x h := rfl
theorem v_of {n k : Nat} {p : Ss} {ds : List D} {h : Hq} (e : ds.length = n) : ofBody n k p ds h = fin (p (ds.map some ++ List.replicate k none) h) := by
  unfold ofBody
  rw [if_pos e]
theorem v_add : dAdd (.int i) (.int j) h = .ok (.int (i + j)) h := rfl
theorem v_sub : dSub (.int i) (.int j) h = .ok (.int (i - j)) h := rfl
theorem v_mul (e : mulOk i j = true) : dMul (.int i) (.int j) h = .ok (.int (i * j)) h := if_pos e
theorem v_div (e : divOk j = true) : dDiv (.int i) (.int j) h = .ok (.int (i / j)) h := if_pos e
theorem v_mod (e : 0 < j) : dMod (.int i) (.int j) h = .ok (.int (i % j)) h := if_pos e
theorem v_pow (e0 : 0 ≤ j) (e1 : j ≤ 1000) (e2 : i.natAbs.log2 < 10000) : dPow (.int i) (.int j) h = .ok (.int (i ^ j.toNat)) h := if_pos ⟨e0, e1, e2⟩
theorem v_neg : dNeg (.int i) h = .ok (.int (-i)) h := rfl
theorem v_rel {f : Int → Int → Bool} : dRel f (.int i) (.int j) h = .ok (.bl (f i j)) h := rfl
theorem v_ixT {l : List D} (e : atI l i = some d) : dIx (.tup l) (.int i) h = .ok d h := by
  unfold dIx
  simp only [e]
theorem v_ixL {l : List D} (e0 : lstAt h m = some l) (e : atI l i = some d) : dIx (.ref m) (.int i) h = .ok d h := by
  unfold dIx
  simp only [e0, e]
theorem v_ixS {l : List Int} (e : atI l i = some j) : dIx (.scr l) (.int i) h = .ok (.int j) h := by
  unfold dIx
  simp only [e]
theorem v_abs : gAbs [.int i] h = .ok (.int (if i < 0 then -i else i)) h := rfl
theorem v_lenT {l : List D} : gLen [.tup l] h = .ok (.int l.length) h := rfl
theorem v_lenS {l : List Int} : gLen [.scr l] h = .ok (.int l.length) h := rfl
theorem v_lenL {l : List D} (e : lstAt h m = some l) : gLen [.ref m] h = .ok (.int l.length) h := by
  unfold gLen
  simp only [e]
theorem v_max : gMax [.int i, .int j] h = .ok (.int (if j > i then j else i)) h := rfl
theorem v_min : gMin [.int i, .int j] h = .ok (.int (if j < i then j else i)) h := rfl
theorem v_intB {b : Bool} : gInt [.bl b] h = .ok (.int (if b then 1 else 0)) h := rfl
theorem v_intI : gInt [.int i] h = .ok (.int i) h := rfl
theorem v_gcd : gGcd [.int i, .int j] h = .ok (.int ((Nat.gcd i.natAbs j.natAbs : Nat) : Int)) h := rfl
theorem v_cutT {l : List D} {lo hi : Option Int} : dCut (.tup l) lo hi h = .ok (.tup (cutD l lo hi)) h := rfl
theorem v_cutL {l : List D} {lo hi : Option Int} (e : lstAt h m = some l) : dCut (.ref m) lo hi h = .ok (.ref h.length) (h ++ [.lst (cutD l lo hi)]) := by
  unfold dCut
  simp only [e]
theorem v_listT {l : List D} : gList [.tup l] h = .ok (.ref h.length) (h ++ [.lst l]) := rfl
theorem v_backT {l : List D} : dBack (.tup l) h = .ok (.tup l.reverse) h := rfl
theorem v_addT {k l : List D} (e : small (k.length + l.length) = true) : dAdd (.tup k) (.tup l) h = .ok (.tup (k ++ l)) h := if_pos e
theorem v_addL {k l : List D} (e1 : lstAt h m = some k) (e2 : lstAt h n = some l) (e : small (k.length + l.length) = true) : dAdd (.ref m) (.ref n) h = .ok (.ref h.length) (h ++ [.lst (k ++ l)]) := by
  unfold dAdd
  simp only [e1, e2, e, if_true]
theorem v_eqI {b : Bool} : dEqs b (.int i) (.int j) h = .ok (.bl ((i == j) != b)) h := by
  unfold dEqs eqQ dEqP
  simp [toPy, SeqAt.shaped, PyData.eqv, PyData.canLay0, PyData.depth]
end
theorem v_eqS {x y : Str} {b : Bool} {h : Hq} : dEqs b (.str x) (.str y) h = .ok (.bl (decide (x = y) != b)) h := rfl
end MI
end
section
set_option Elab.async false
set_option linter.all false
set_option autoImplicit false
set_option maxRecDepth 100000
set_option maxHeartbeats 4000000
namespace MI
open PySem L2
section
variable {X : Cx} {E : XK} {a b c e : Expr} {fa fb fc fe : Sx} {pos pos' : Pos}
def sAug (i : Nat) (g : Int → Int → Int) (f : Sx) : Ss := fun fr h => match fr[i]? with
  | some (some (.int x)) => (f fr h).into fun d h1 => match d with
    | .int y => .nx (fr.set i (some (.int (g x y)))) h1
    | _ => .no
  | _ => .no
theorem aug_in {K : PySem.W.Frag} {mg : Str → Option Value} {i : Nat} {g : Int → Int → Int} {Z : Ends} {σ : L2.St} {H : Hp} (q : tMs K mg E (sAug i g fe) Z σ H) : tAug i (tM K mg E fe) (ipI g) Z σ H := by
  obtain ⟨ι, h, fr, R, F, P⟩ := q
  unfold sAug at P
  split at P
  · rename_i x hx
    obtain ⟨v, e1, r⟩ := F.val i _ hx
    cases r
    refine ⟨.int x, e1, ι, h, fr, R, F, Po.mono ?_ (Po.into P)⟩
    rintro w H1 ⟨i1, h1, d, e2, R1, r1, P1⟩
    split at P1
    · rename_i y
      cases r1
      exact ⟨x, y, rfl, rfl, P1 i1 H1 _ (Ext.refl _ _) R1 ((F.ext e2).set (.int _))⟩
    · exact P1.elim
  · exact P.elim
theorem m_augAdd (i : Nat) {x : Str} (nd : X.N.Nodup) (ha : PM X E e fe) (hi : X.N[i]? = some x := by rfl) (hx : Loc X.env.scope x := by first | exact Or.inl rfl | exact Or.inr rfl) (hf : X.fn x = true ∨ X.env.scope.names.lookup x = some .local := by first | exact .inl rfl | exact .inr rfl) :
    PMs X E (.AugAssign (.Name x pos') .Add e pos) (sAug i (fun x y => x + y) fe) := ps_imp (ps_aug nd hi hx ha ip_add hf) fun _ _ _ q => aug_in q
/-- a < b < c as a test -/
theorem chain_in {K : PySem.W.Frag} {mg : Str → Option Value} {p q : Int → Int → Bool} {σ : L2.St} {H : Hp} {Q : VK} (z : tM K mg E (eChain p q fa fb fc) σ H Q) :
    tChain (rI0 fun i j => .bl (p i j)) (rI0 fun i j => .bl (q i j)) (tM K mg E fa) (tM K mg E fb) (tM K mg E fc) σ H Q := by
  obtain ⟨ι, h, fr, R, F, P⟩ := z
  refine ⟨ι, h, fr, R, F, Po.mono ?_ (Po.bind P)⟩
  rintro v H1 ⟨ι1, h1, x, e1, R1, r1, P1⟩
  refine ⟨ι1, h1, fr, R1, F.ext e1, Po.mono ?_ (Po.bind P1)⟩
  rintro w H2 ⟨ι2, h2, y, e2, R2, r2, P2⟩
  split at P2
  · rename_i i j
    have r1' := r1.ext e2
    cases r1'; cases r2
    refine ⟨i, j, rfl, rfl, p i j, rfl, ?_⟩
    cases hp : p i j with
    | true =>
      rw [hp, if_pos rfl] at P2
      rw [if_pos rfl]
      refine ⟨ι2, h2, fr, R2, (F.ext e1).ext e2, Po.mono ?_ (Po.bind P2)⟩
      rintro z H3 ⟨ι3, h3, u, e3, R3, r3, P3⟩
      exact s_rel q ι3 h3 H3 (.int j) u _ z Q R3 (.int j) r3 P3
    | false =>
      rw [hp, if_neg Bool.false_ne_true] at P2
      rw [if_neg Bool.false_ne_true]
      exact P2 ι2 H2 _ (Ext.refl _ _) R2 (.bl false)
  · exact P2.elim
theorem m_chainT {op op' : CmpOp} {p q : Int → Int → Bool} (ho : OpR X (compareOp op) (rI0 fun i j => .bl (p i j))) (ho' : OpR X (compareOp op') (rI0 fun i j => .bl (q i j))) (ha : PM X E a fa) (hb : PM X E b fb) (hc : PM X E c fc)
    (hm : lastMarks [op, op'] [b, c] = false := by with_unfolding_all rfl) : PMb X E (.Compare a [op, op'] [b, c] pos) (bOf (eChain p q fa fb fc)) := pt_imp (pt_chain ho ho' ha hb hc hm) fun σ H Q z => chain_in (test_in z)
/-- xs.insert(i, e) -/
def eIns (fo fi fe : Sx) : Sx := fun fr h => (fo fr h).bind fun o h1 => match o with
  | .ref n => match lstAt h1 n with
    | some _ => (fi fr h1).bind fun k h2 => (fe fr h2).bind fun d h3 => match k with
      | .int j => match lstAt h3 n with
        | some l => if 0 ≤ j ∧ j < 2 ^ 63 ∧ small (l.length + 1) = true then .ok .non (h3.set n (.lst (l.take j.toNat ++ [d] ++ l.drop j.toNat))) else .no
        | none => .no
      | _ => .no
    | none => .no
  | _ => .no
end
/-- a module's number, of a tag that is not named -/
theorem m_globE {X : Cx} {E : XK} {x : Str} {i : Int} {pos : Pos} (hm : ∃ t, X.mg x = some (.int i t)) (hg : Gl X x := by rfl) (hd : (x == ("__debug__" : Str)) = false := by decide) : PM X E (.Name x pos) (eK (.int i)) := by
  obtain ⟨t, hm⟩ := hm
  exact m_glob hm hg hd
def srcZ (l m : List D) : Src := ⟨min l.length m.length, fun i _ => match l[i]?, m[i]? with
  | some x, some y => some (.tup [x, y])
  | _, _ => none, fun i _ => decide (l.length ≤ i) || decide (m.length ≤ i)⟩
def srcZL (a b n : Nat) : Src := ⟨n, fun i h => match lstAt h a, lstAt h b with
  | some l, some m => (srcZ l m).get i h
  | _, _ => none, fun i h => match lstAt h a, lstAt h b with
  | some l, some m => (srcZ l m).fin i h
  | _, _ => false⟩
def iZip2 (fs : Sa) : Si := fun fr h => (fs fr h).bind fun ds h1 => match ds with
  | [.tup l, .tup m] => .ok (srcZ l m) h1
  | [.ref a, .ref b] => match lstAt h1 a, lstAt h1 b with
    | some l, some m => .ok (srcZL a b (min l.length m.length)) h1
    | _, _ => .no
  | _ => .no
end MI
end
section
set_option Elab.async false
set_option linter.all false
set_option autoImplicit false
set_option maxRecDepth 100000
set_option maxHeartbeats 4000000
namespace L2
open PySem PySem.Spec PyProof.Rows
section
variable {X : Cx}
theorem DpAll.length {K : PySem.W.Frag} {H : Hp} : ∀ {vs : List V} {ds : List PyData}, DpAll K H vs ds → vs.length = ds.length
  | _, _, .nil => rfl
  | _, _, .cons _ h => by rw [List.length_cons, List.length_cons, DpAll.length h]
end
end L2
namespace MI
open PySem L2
section
variable {X : Cx} {E : XK} {a b c e : Expr} {as : List Expr} {fa fb fe : Sx} {fs : Sa} {p pos : Pos}
theorem VRs.erase {K : PySem.W.Frag} {ι : List Addr} {H : Hp} : ∀ {vs : List V} {l : List D} (n : Nat), VRs K ι H vs l → VRs K ι H (vs.eraseIdx n) (l.eraseIdx n)
  | _, _, _, .nil => .nil
  | _, _, 0, .cons _ t => t
  | _, _, n + 1, .cons r t => .cons r (VRs.erase n t)
/-- l.pop() -/
def ePop (fo : Sx) : Sx := fun fr h => (fo fr h).bind fun o h1 => match o with
  | .ref m => match lstAt h1 m with
    | some l => match l[l.length - 1]? with
      | some d => .ok d (h1.set m (.lst l.dropLast))
      | none => .no
    | none => .no
  | _ => .no
theorem VRs.dropLast {K : PySem.W.Frag} {ι : List Addr} {H : Hp} {vs : List V} {l : List D} (r : VRs K ι H vs l) : VRs K ι H vs.dropLast l.dropLast := by
  rw [List.dropLast_eq_take, List.dropLast_eq_take, r.length]
  exact r.take _
theorem m_pop {o : Expr} {fo : Sx} {apos cpos : Pos} (ho : PM X E o fo) (hbase : attributeBase o "pop" X.env (eval o X.env) = eval o X.env := by rfl) (hline : (apos.endLine == cpos.line) = true := by rfl) :
    PM X E (.Call (.Attribute o "pop" apos) [] [] cpos) (ePop fo) := pe_imp (pe_bm0 PySem.F.plainAttrs_list PySem.F.slot_list_pop PySem.F.type_list_pop mt_pop ho hbase hline) fun σ H Q ⟨ι, h, fr, R, F, P⟩ => by
  refine ⟨ι, h, fr, R, F, Po.mono ?_ (Po.bind P)⟩
  rintro v H1 ⟨i1, h1, od, e1, R1, r1, P1⟩
  split at P1
  · rename_i n
    split at P1
    · rename_i _ l hl
      split at P1
      · rename_i _ d hd
        cases r1 with
        | ref hx =>
          rename_i a
          obtain ⟨vs, c2, q2⟩ := R1.lst hx hl
          obtain ⟨w, hw, rw_⟩ := q2.get hd
          obtain ⟨e4, R4⟩ := R1.put (lstAt_some hl) hx (o := .lst vs.dropLast) (c := .lst l.dropLast) fun H' e z => ⟨_, z, q2.dropLast.ext e⟩
          exact ⟨.inl ⟨rfl, vs, .of c2⟩, a, vs, w, rfl, rfl, c2, by rw [q2.length]; exact hw, P1 i1 _ _ e4 R4 (rw_.ext e4)⟩
      · exact P1.elim
    · exact P1.elim
  · exact P1.elim
def setAllT : List Tg → List D → Fr → Option Fr
  | [], [], fr => some fr
  | t :: ts, d :: ds, fr => (t d fr).bind fun fr1 => setAllT ts ds fr1
  | _, _, _ => none
def tgG (ts : List Tg) : Tg := fun d fr => match d with
  | .tup l => setAllT ts l fr
  | _ => none
structure PMgG (X : Cx) (tgs : List Expr) (ts : List Tg) : Prop where
  ex : ∃ g, PGs X tgs g ∧ ∀ (ι : List Addr) (h : Hq) (H : Hp) (vs : List V) (ds : List D) (σ : L2.St) (fr fr' : Fr) (Q : L2.St → Hp → Prop), HR X.K ι h H → VRs X.K ι H vs ds → FR X.K ι H σ fr → setAllT ts ds fr = some fr' → (∀ σ', FR X.K ι H σ' fr' → Q σ' H) → g vs σ H Q
theorem m_ggnil : PMgG X [] [] := ⟨_, pgs_nil, fun ι h H vs ds σ fr fr' Q R r F e k => by
  cases r with
  | nil => cases e; exact ⟨rfl, k σ F⟩
  | cons _ _ => cases e⟩
theorem m_ggcons {tg : Expr} {t : Tg} {es : List Expr} {ts : List Tg} (h1 : PMg X tg t) (ht : PMgG X es ts) (hs : (assignEach (tg :: es) X.env).map (·.2) = assign tg X.env :: (assignEach es X.env).map (·.2) := by rfl) :
    PMgG X (tg :: es) (t :: ts) := by
  obtain ⟨g, hg, hgs⟩ := ht.ex
  obtain ⟨g1, hg1, hgs1⟩ := h1.ex
  refine ⟨_, pgs_cons hg1 hg hs, fun ι h H vs ds σ fr fr' Q R r F e k => ?_⟩
  cases r with
  | nil => cases e
  | cons r1 r2 =>
    obtain ⟨fr1, e1, e2⟩ := Option.bind_eq_some_iff.mp (show (t _ fr).bind _ = some fr' from e)
    exact ⟨_, _, rfl, hgs1 ι h H _ _ _ _ _ _ R r1 F e1 fun σ' F' => hgs ι h H _ _ _ _ _ Q R r2 F' e2 k⟩
theorem setAllT_len : ∀ {ts : List Tg} {ds : List D} {fr fr' : Fr}, setAllT ts ds fr = some fr' → ds.length = ts.length
  | [], [], _, _, _ => rfl
  | [], _ :: _, _, _, e => by cases e
  | _ :: _, [], _, _, e => by cases e
  | t :: ts, d :: ds, fr, _, e => by
    obtain ⟨fr1, e1, e2⟩ := Option.bind_eq_some_iff.mp (show (t d fr).bind _ = some _ from e)
    rw [List.length_cons, List.length_cons, setAllT_len e2]
theorem m_tgG {ts : List Expr} {is : List Tg} {k : Nat} (hc : X.calm = true) (ht : PMgG X ts is) (hn : (assignEach ts X.env).length = is.length := by rfl) (hst : (assignEach ts X.env).findIdx? (·.1) = none := by rfl) : PMg X (.Tuple ts k pos) (tgG is) := by
  obtain ⟨g, hg, hgs⟩ := ht.ex
  refine ⟨_, pg_tup hc hg hn hst, fun ι h H v d σ fr fr' Q R r F e kk => ?_⟩
  unfold tgG at e
  split at e
  · cases r with
    | tup hx q =>
      refine ⟨_, _, rfl, .of hx, by rw [q.length]; exact setAllT_len e, ?_⟩
      exact hgs ι h H _ _ _ _ _ Q R q F e kk
  · cases e
def sDead : Ss := fun _ _ => .no
theorem m_deadS {st : Stmt} : PMs X E st sDead := ⟨fun pins s σ H Z I ⟨_, _, _, _, _, P⟩ => P.elim⟩
def truD (d : D) (h : Hq) : Rs Bool := match d with
  | .bl b => .ok b h
  | .tup l => .ok (!l.isEmpty) h
  | .ref m => match lstAt h m with
    | some l => .ok (!l.isEmpty) h
    | none => .no
  | _ => .no
def bTru (f : Sx) : Sb := fun fr h => (f fr h).bind truD
end
end MI
end
section
set_option Elab.async false
set_option linter.all false
set_option autoImplicit false
set_option maxRecDepth 100000
set_option maxHeartbeats 4000000
namespace PySem.MiX
open PySem PySem.AutoSeq1
end PySem.MiX
namespace L2
open PySem PySem.Spec PyProof.Rows
end L2
namespace MI
open PySem L2
section
variable {X : Cx} {E : XK} {a b c e : Expr} {as : List Expr} {fa fb fe : Sx} {fs : Sa} {p pos : Pos}
/-- l.count(x) -/
def cntG (m : Nat) (d : D) (h2 : Hq) : Rs D := match lstAt h2 m with
  | some l => match opts (toPy h2 60) l, toPy h2 60 d with
    | some ds, some q => if SeqAt.shaped q = true ∧ SeqAt.shaped (.list ds) = true then .ok (.int (ds.countP (fun z => PyData.eqv z q) : Nat)) h2 else .no
    | _, _ => .no
  | none => .no
def cntF (fe : Sx) (fr : Fr) (o : D) (h1 : Hq) : Rs D := match o with
  | .ref m => match lstAt h1 m with
    | some _ => (fe fr h1).bind fun d h2 => cntG m d h2
    | none => .no
  | _ => .no
def eCnt (fo fe : Sx) : Sx := fun fr h => (fo fr h).bind (cntF fe fr)
/-- l.extend(t) -/
def extG (m : Nat) (d : D) (h2 : Hq) : Rs D := match d with
  | .tup r => match lstAt h2 m with
    | some l => if small (l.length + r.length) = true then .ok .non (h2.set m (.lst (l ++ r))) else .no
    | none => .no
  | _ => .no
def extF (fe : Sx) (fr : Fr) (o : D) (h1 : Hq) : Rs D := match o with
  | .ref m => match lstAt h1 m with
    | some _ => (fe fr h1).bind fun d h2 => extG m d h2
    | none => .no
  | _ => .no
def eExt (fo fe : Sx) : Sx := fun fr h => (fo fr h).bind (extF fe fr)
/-- [*a, ..] -/
def stF (g : Sa) (fr : Fr) (x : D) (h1 : Hq) : Rs (List D) := match x with
  | .tup l => (g fr h1).bind fun xs h2 => .ok (l ++ xs) h2
  | .ref m => match lstAt h1 m with
    | some l => (g fr h1).bind fun xs h2 => .ok (l ++ xs) h2
    | none => .no
  | _ => .no
def aStar (f : Sx) (g : Sa) : Sa := fun fr h => (f fr h).bind (stF g fr)
end
end MI
namespace MI
open PySem L2
def aDef (fs : Sa) (dds : List D) : Sa := fun fr h => (fs fr h).bind fun ds h1 => .ok (ds ++ dds) h1
end MI
end
section
set_option Elab.async false
set_option linter.all false
set_option autoImplicit false
set_option maxRecDepth 100000
set_option maxHeartbeats 4000000
namespace PySem.MiEn
open PySem
open PySem.AutoSeq1 (wpAny_loadPart')
end PySem.MiEn
namespace L2
open PySem PySem.Spec PyProof.Rows
end L2
namespace MI
open PySem L2
def srcE (l : List D) : Src := ⟨l.length, fun i _ => match l[i]? with
  | some x => some (.tup [.int (i : Int), x])
  | none => none, fun i _ => decide (l.length ≤ i)⟩
def enF (ds : List D) (h1 : Hq) : Rs Src := match ds with
  | [.tup l] => .ok (srcE l) h1
  | _ => .no
def iEnum1 (fs : Sa) : Si := fun fr h => (fs fr h).bind enF
end MI
end
section
set_option Elab.async false
set_option linter.all false
set_option autoImplicit false
set_option maxRecDepth 100000
set_option maxHeartbeats 4000000
namespace MiSs
open PySem PySem.Spec PyProof.Rows L2 TS
/-- the heap keeps its tuples -/
def Kt (hp hq : Heap) : Prop := ∀ (z : Addr) (ob : Obj), hp.get? z = some ob → ob.cls = .type "tuple" → hq.get? z = some ob
def Prs (M : Int) (hp : Heap) (us : List Value) : Prop := ∀ u ∈ us, ∃ x y : Int, TupInts hp u [x, y] ∧ (-M ≤ y ∧ y ≤ M)
theorem Prs.kt {M : Int} {hp hq : Heap} {us : List Value} (g : Prs M hp us) (c : Kt hp hq) : Prs M hq us := by
  intro u hu
  obtain ⟨x, y, q, hy⟩ := g u hu
  exact ⟨x, y, q.keeps c, hy⟩
/-- where a pair stands -/
def rnk (M : Int) (l : List Int) : Int := l.headD 0 * (2 * M + 1) + (l.drop 1).headD 0
theorem rnk_pair (M x y : Int) : rnk M [x, y] = x * (2 * M + 1) + y := rfl
theorem rnk_lt {M x y u v : Int} (hy : -M ≤ y ∧ y ≤ M) (hv : -M ≤ v ∧ v ≤ M) : rnk M [x, y] < rnk M [u, v] ↔ x < u ∨ (x = u ∧ y < v) := by
  rw [rnk_pair, rnk_pair]
  have w : (0 : Int) ≤ 2 * M + 1 := by omega
  have far : ∀ {p q : Int}, p < q → p * (2 * M + 1) + (2 * M + 1) ≤ q * (2 * M + 1) := fun {p q} hpq => by
    have := Int.mul_le_mul_of_nonneg_right (show p + 1 ≤ q by omega) w
    rw [Int.add_mul, Int.one_mul] at this
    exact this
  constructor
  · intro z
    by_cases e : x = u
    · subst e; exact .inr ⟨rfl, by omega⟩
    · by_cases l : x < u
      · exact .inl l
      · have := far (show u < x by omega)
        omega
  · rintro (l | ⟨rfl, l⟩)
    · have := far l
      omega
    · omega
theorem heads {M : Int} {hp : Heap} : ∀ {us : List Value}, Prs M hp us → ∃ hd : List Value, PySem.W.KatTups hp us hd ∧ hd.length = us.length ∧ ∀ z ∈ hd, ∃ (i : Int) (tk : Tok), z = .int i tk := by
  intro us
  induction us with
  | nil => intro _; exact ⟨[], .nil, rfl, fun _ z => (nomatch z)⟩
  | cons u us ih =>
    intro g
    obtain ⟨hd, k1, k2, k3⟩ := ih fun z hz => g z (.tail _ hz)
    obtain ⟨x, y, ⟨ad, arr, rfl, ⟨ob, q1, q2, sz, q3⟩, ii⟩, _⟩ := g u (.head _)
    generalize hl : arr.toList = l at ii
    cases ii with
    | cons _ tk _ =>
      refine ⟨.int x tk :: hd, .cons q1 q2 q3 ?_ k1, congrArg (· + 1) k2, fun z hz => ?_⟩
      · rw [← Array.getElem?_toList, hl]; rfl
      · cases hz with
        | head => exact ⟨_, _, rfl⟩
        | tail _ hz => exact k3 z hz
section
variable {pr : Program} {wo : World} {Ar : Around} {Er : Value → Shared → Prop} {st : Shared} {M : Int}
theorem two {fl : Bool} {l m : List Value} {x y u v : Int} {R : Bool → Shared → Prop} (hl : IntsAre l [x, y]) (hm : IntsAre m [u, v]) (hy : -M ≤ y ∧ y ≤ M) (hv : -M ≤ v ∧ v ≤ M) (k : R (decide (rnk M [x, y] < rnk M [u, v])) st) :
    PySem.W.KatLex pr wo Ar fl false R (l.zip m) 0 st := by
  cases hl with
  | cons _ t1 hl => cases hl with
    | cons _ t2 hl => cases hl; cases hm with
      | cons _ t3 hm => cases hm with
        | cons _ t4 hm =>
          cases hm
          apply PySem.W.kat_cons (r := [(.int y t2, .int v t4)])
          apply wpAny_eqBool_int
          have rl := rnk_lt (x := x) (u := u) hy hv
          by_cases e : x = u
          · rw [show (x == u) = true from beq_iff_eq.mpr e]
            apply PySem.W.kat_yes
            apply PySem.W.kat_cons (r := [])
            apply wpAny_eqBool_int
            by_cases f : y = v
            · rw [show (y == v) = true from beq_iff_eq.mpr f]
              apply PySem.W.kat_yes
              apply PySem.W.kat_nil
              rwa [decide_eq_false (fun z => by rcases rl.mp z with z | z <;> omega)] at k
            · rw [show (y == v) = false by simpa using f]
              apply PySem.W.kat_no
              apply oneLt_ints
              rwa [show decide (rnk M [x, y] < rnk M [u, v]) = decide (y < v) from decide_eq_decide.mpr ⟨fun z => by rcases rl.mp z with z | z <;> omega, fun z => rl.mpr (.inr ⟨e, z⟩)⟩] at k
          · rw [show (x == u) = false by simpa using e]
            apply PySem.W.kat_no
            apply oneLt_ints
            rwa [show decide (rnk M [x, y] < rnk M [u, v]) = decide (x < u) from decide_eq_decide.mpr ⟨fun z => by rcases rl.mp z with z | z <;> omega, fun z => rl.mpr (.inl z)⟩] at k
/-- which comparison the sort takes, and that it is by the rank -/
theorem kind {us : List Value} (n2 : 2 ≤ us.length) (g : Prs M st.heap us) (f : Value → Int) (hf : ∀ u ∈ us, ∀ l, TupInts st.heap u l → f u = rnk M l) (R : SortKind → Shared → Prop) (k : ∀ kd, Cmp pr wo Ar st kd (pairsOf us) f → R kd st) :
    wpAny (model pr wo) Ar (keyKind' us.toArray) R Er st := by
  obtain ⟨hd, k1, k2, k3⟩ := heads g
  apply PySem.W.kat_kind (T := Value.type "int") k1
  · omega
  · intro z hz
    obtain ⟨i, tk, rfl⟩ := k3 z hz
    exact .of_pure rfl
  · rfl
  apply k
  intro c d hc hd' R' E' kk
  rw [pairsOf_toList] at hc hd'
  have mc := (mem_zip_self hc).2
  have md := (mem_zip_self hd').2
  obtain ⟨x, y, qx, hy⟩ := g _ mc
  obtain ⟨u, v, qu, hv⟩ := g _ md
  rw [hf _ mc _ qx, hf _ md _ qu] at kk
  obtain ⟨z1, l1, r1, ⟨ob1, p1, _, n1, s1⟩, i1⟩ := qx
  obtain ⟨z2, l2, r2, ⟨ob2, p2, _, n3, s2⟩, i2⟩ := qu
  rw [r1, r2]
  apply PySem.W.kat_lt p1 s1 p2 s2
  have z1 := i1.length
  have z2 := i2.length
  simp only [Array.length_toList, List.length_cons, List.length_nil] at z1 z2
  rw [decide_eq_false (show ¬ l1.size < l2.size by omega)]
  exact two i1 i2 hy hv kk
theorem sortL {ad : Addr} {us : List Value} {n : Nat} {R : PySem.Fin → Shared → Prop} (ho : st.heap.get? ad = some (seqObj "list" us.toArray n)) (few : us.length < 64) (g : Prs M st.heap us)
    (k : ∀ o : Array Value, o.toList.Perm us → o.toList.Pairwise (fun p q => rnk M (intsOf st.heap p) ≤ rnk M (intsOf st.heap q)) → R (.done (.ret .none)) { st with heap := sortedHeap st.heap ad us o }) :
    wpAny (model pr wo) Ar (Builtin.«list.sort» ⟨[.ref ad], []⟩) R Er st := by
  have kt : Kt st.heap (midHeap st.heap ad us) := by
    intro z ob e c
    by_cases hz : z = ad
    · subst hz
      rw [ho] at e
      cases e
      exact absurd c (by simp [seqObj])
    · exact midHeap_old hz e
  apply SK.plain_sort (r := fun u => rnk M (intsOf st.heap u)) ho few
  · intro n2 R' k'
    apply kind (st := { st with heap := midHeap st.heap ad us }) n2 (g.kt kt) _ _ _ k'
    intro u hu l q
    obtain ⟨x, y, q0, _⟩ := g u hu
    show rnk M (intsOf st.heap u) = rnk M l
    rw [q0.ints, ← q.ints, (q0.keeps kt).ints]
  · intro ps o e1 e2 e3
    obtain ⟨c1, c2⟩ := out_rank (r := fun u => rnk M (intsOf st.heap u)) e1 e2 e3
    exact k o c1 c2
theorem callSort {ad : Addr} {us : List Value} {n : Nat} {R : Value → Shared → Prop} (ho : st.heap.get? ad = some (seqObj "list" us.toArray n)) (few : us.length < 64) (g : Prs M st.heap us)
    (k : ∀ o : Array Value, o.toList.Perm us → o.toList.Pairwise (fun p q => rnk M (intsOf st.heap p) ≤ rnk M (intsOf st.heap q)) → R .none { st with heap := sortedHeap st.heap ad us o }) :
    wpAny (model pr wo) Ar (call (.builtin "list.sort") [.ref ad]) R Er st := by
  refine wpAny_call_entry slot_list_sort (show st.TypeIs (.ref ad) "list" from ⟨_, ho, rfl⟩) entry_list_sort ?_ (args_list_sort _)
  exact sortL ho few g fun o c1 c2 => ⟨_, rfl, k o c1 c2⟩
end
theorem perm_pull {α β : Type} {f : α → β} {xs ys : List β} (h : xs.Perm ys) : ∀ L : List α, L.map f = xs → ∃ L' : List α, L'.Perm L ∧ L'.map f = ys := by
  induction h with
  | nil => intro L e; exact ⟨L, .refl _, e⟩
  | @cons b u v _ ih =>
    intro L e
    cases L with
    | nil => cases e
    | cons a L =>
      obtain ⟨K, q1, q2⟩ := ih L (List.cons.inj e).2
      exact ⟨a :: K, q1.cons a, by rw [List.map_cons, q2, (List.cons.inj e).1]⟩
  | swap b c u =>
    intro L e
    match L, e with
    | x :: y :: L, e =>
      have e1 := List.cons.inj e
      have e2 := List.cons.inj e1.2
      exact ⟨y :: x :: L, .swap x y L, by rw [List.map_cons, List.map_cons, e1.1, e2.1, e2.2]⟩
  | trans _ _ ih1 ih2 =>
    intro L e
    obtain ⟨K, q1, q2⟩ := ih1 L e
    obtain ⟨J, r1, r2⟩ := ih2 K q2
    exact ⟨J, r1.trans q1, r2⟩
section
variable {pr : Program} {wo : World} {Ar : Around} {Er : Value → Shared → Prop} {st : Shared} {M : Int}
abbrev Row := Addr × List Int
def isPr (M : Int) (q : Row) : Prop := ∃ x y : Int, q.2 = [x, y] ∧ (-M ≤ y ∧ y ≤ M)
/-- sorted of a set of pairs -/
theorem sortSet {ad : Addr} {rows : List Row} {es : Array (Int × Value)} {ep : Nat} {tb : SetTable} {R : Value → Shared → Prop} (q : SetTR pr wo st.heap ad rows es ep tb) (calm : Ar.handled = none) (ok : ∀ z ∈ rows, isPr M z)
    (k : ∀ (st' : Shared) (at' : Addr) (o : Array Value) (c : Nat) (K : List Row), (∀ b u, st.heap.get? b = some u → st'.heap.get? b = some u) → st'.gens = st.gens → st'.os = st.os → st.heap.objs.size ≤ at' → st'.heap.get? at' = some (seqObj "list" o c) →
      o.toList = K.map (fun z => Value.ref z.1) → K.Perm rows → K.Pairwise (fun y z => rnk M y.2 ≤ rnk M z.2) → R (.ref at') st') :
    wpAny (model pr wo) Ar (call (.builtin "sorted") [.ref ad]) R Er st := by
  obtain ⟨ob, b1, b2, b3⟩ := q.ob
  have few := q.few
  apply Calls.call_function_entry kind_sorted plain_sorted entry_sorted (args_sorted1 _)
  unfold Builtin.«sorted»
  apply wpAny_bind (m := checkCount "sorted" 1 1 _)
  apply wpAny_pure
  apply wpAny_bind
  apply collect_set (A := Ar.in1) calm ⟨ob, b1, b2.1, b3⟩ q.fits (by have := q.size; unfold scanBound; omega) q.tab.ris q.led
  intro s1 us keep big gens os pm
  have er : es.toList.map (·.2) = rows.map fun z => Value.ref z.1 := by rw [q.rows, rowsOf, List.map_map]; rfl
  rw [er] at pm
  obtain ⟨K1, p1, e1⟩ := perm_pull pm.symm rows rfl
  have lu : us.length < 64 := by rw [← e1, List.length_map, p1.length_eq]; exact few
  apply wpAny_bind
  apply wpAny_newList
  rotate_left
  · rw [sizeLine_eq]; omega
  have at1 : (s1.heap.push (seqObj "list" us.toArray 0)).get? s1.heap.objs.size = some (seqObj "list" us.toArray 0) := Heap.get?_push_size _ rfl
  have old : ∀ b u, st.heap.get? b = some u → (s1.heap.push (seqObj "list" us.toArray 0)).get? b = some u := fun b u e => Heap.get?_push_of_some _ (keep b u e)
  have ti : ∀ z ∈ rows, TupInts (s1.heap.push (seqObj "list" us.toArray 0)) (.ref z.1) z.2 := fun z hz => tupInts_of (P := pr) (w := wo) (isT_keep (q.tup z hz) old)
  have good : Prs M (s1.heap.push (seqObj "list" us.toArray 0)) us := by
    intro u hu
    rw [← e1] at hu
    obtain ⟨z, hz, rfl⟩ := List.mem_map.mp hu
    have zr := p1.mem_iff.mp hz
    obtain ⟨x, y, e, hy⟩ := ok z zr
    have := ti z zr
    rw [e] at this
    exact ⟨x, y, this, hy⟩
  apply wpAny_bind
  apply wpAny_holding
  apply callSort (st := { s1 with heap := s1.heap.push (seqObj "list" us.toArray 0) }) at1 lu good
  intro o c1 c2
  obtain ⟨c, hc⟩ := sortedHeap_at (vs := us) (out := o) at1
  obtain ⟨K, p2, e2⟩ := perm_pull c1.symm K1 e1
  have pK := p2.trans p1
  apply wpAny_pure
  refine ⟨_, rfl, k _ s1.heap.objs.size o c K (fun b u e => ?_) gens os big hc e2.symm pK ?_⟩
  · have lt := Heap.lt_size (keep b u e)
    show (sortedHeap (s1.heap.push (seqObj "list" us.toArray 0)) s1.heap.objs.size us o).get? b = some u
    rw [sortedHeap_old (Nat.ne_of_lt lt) (by rw [size_push']; exact Nat.lt_succ_of_lt lt)]
    exact old b u e
  · rw [← e2] at c2
    have c3 := List.pairwise_map.mp c2
    refine c3.imp_of_mem fun {y z} hy hz le => ?_
    have i1 := (ti y (pK.mem_iff.mp hy)).ints
    have i2 := (ti z (pK.mem_iff.mp hz)).ints
    rwa [i1, i2] at le
end
section
variable {X : Cx}
/-- as a call's rule -/
def rSoZ (K : PySem.W.Frag) (P : Program) (w : World) : List V → Hp → VK → Prop := fun xs H Q => ∃ (ad : Addr) (rows : List Row) (M : Int), xs = [V.ref ad] ∧ H ad = some (SetTO P w ad rows) ∧ (∀ z ∈ rows, SqT K H z.1 (z.2.map V.int) ∧ isPr M z) ∧
  ∀ (J : List Row) (at' : Addr), J.Perm rows → (J.map (·.2)).Nodup → J.length < 64 → J.Pairwise (fun y z => rnk M y.2 ≤ rnk M z.2) → H at' = none → Q (.ref at') (upd H at' (.lst (J.map fun z => V.ref z.1)))
theorem cr_soZ (calm : X.calm = true) : CallR X (.builtin "sorted") (rSoZ X.K X.prog X.w) := by
  rintro pins st σ H xs us Q I rv ⟨ad, rows, M, rfl, e, ok, k⟩
  have t0 : SetT0 X.prog X.w st.heap ad rows := (I.hok ad _ e).1
  obtain ⟨es, ep, tb, q⟩ := t0.full fun z hz => I.isT (ok z hz).1
  rw [Vals.ref1 rv]
  apply sortSet q (I.ok.hd calm) fun z hz => (ok z hz).2
  rintro ⟨hp', ge', dr', to', os'⟩ at' o c J keep rfl rfl big new eo pm pw
  have free : H at' = none := I.hok.fresh big
  have few : J.length < 64 := by rw [pm.length_eq]; exact q.few
  have vo : Vals (J.map fun z => V.ref z.1) o.toList := by rw [eo]; exact vals_of_refs J
  have fit : (J.map fun z => V.ref z.1).length ≤ sizeLine := by
    rw [List.length_map, sizeLine_eq]
    exact Nat.le_trans (Nat.le_of_lt few) (by decide)
  have I' := I.call (ch := []) (d' := dr') (t' := to') (Un.laid keep big free) (I.hok.laid keep big (o := .lst (J.map fun z => V.ref z.1)) ⟨fit, o.toList, c, vo, new⟩) I.bare (fun _ z => nomatch z)
  exact ⟨.ref at', _, I', rfl, k J at' pm ((pm.map (·.2)).nodup_iff.mpr q.nd) few pw free⟩
end
end MiSs
end
section
set_option Elab.async false
set_option linter.all false
set_option autoImplicit false
set_option maxRecDepth 100000
set_option maxHeartbeats 4000000
namespace MI
open PySem L2
abbrev Zp := Int × Int
abbrev dZ (q : Zp) : D := .tup [.int q.1, .int q.2]
def prsD : List D → Option (List Zp)
  | [] => some []
  | .tup [.int x, .int y] :: l => (prsD l).map ((x, y) :: ·)
  | _ => none
theorem prsD_is : ∀ {l : List D} {qs : List Zp}, prsD l = some qs → l = qs.map dZ
  | [], _, e => by cases e; rfl
  | d :: l, qs, e => by
    unfold prsD at e
    split at e
    · rename_i h; cases h
    · rename_i x y l' h
      cases h
      obtain ⟨q, e1, rfl⟩ := Option.map_eq_some_iff.mp e
      rw [prsD_is e1]; rfl
    · cases e
theorem prsD_dZ : ∀ qs : List Zp, prsD (qs.map dZ) = some qs
  | [] => rfl
  | q :: qs => by
    show (prsD (qs.map dZ)).map ((q.1, q.2) :: ·) = _
    rw [prsD_dZ qs]; rfl
def zlt (p q : Zp) : Prop := p.1 < q.1 ∨ (p.1 = q.1 ∧ p.2 < q.2)
instance (p q : Zp) : Decidable (zlt p q) := inferInstanceAs (Decidable (_ ∨ _))
theorem zlt_trans {p q r : Zp} (a : zlt p q) (b : zlt q r) : zlt p r := by unfold zlt at *; omega
theorem zlt_irr {p : Zp} : ¬ zlt p p := by unfold zlt; omega
theorem zlt_tri {p q : Zp} (a : ¬ zlt p q) (b : p ≠ q) : zlt q p := by
  unfold zlt at *
  by_cases e : p.1 = q.1
  · have : p.2 ≠ q.2 := fun z => b (Prod.ext e z)
    omega
  · omega
def insZ (q : Zp) : List Zp → List Zp
  | [] => [q]
  | x :: l => if zlt q x then q :: x :: l else if q = x then x :: l else x :: insZ q l
def srtZ (l : List Zp) : List Zp := l.foldr insZ []
theorem mem_ins {q z : Zp} : ∀ l : List Zp, z ∈ insZ q l ↔ z = q ∨ z ∈ l
  | [] => by simp [insZ]
  | x :: l => by
    unfold insZ
    split
    · simp
    · split
      · rename_i e; subst e; simp
      · rw [List.mem_cons, mem_ins l, List.mem_cons]
        constructor
        · rintro (a | a | a)
          · exact .inr (.inl a)
          · exact .inl a
          · exact .inr (.inr a)
        · rintro (a | a | a)
          · exact .inr (.inl a)
          · exact .inl a
          · exact .inr (.inr a)
theorem ins_up {q : Zp} : ∀ l : List Zp, l.Pairwise zlt → (insZ q l).Pairwise zlt
  | [], _ => by simp [insZ]
  | x :: l, h => by
    have h1 := List.pairwise_cons.mp h
    unfold insZ
    split
    · rename_i c
      refine List.pairwise_cons.mpr ⟨fun z hz => ?_, h⟩
      rcases List.mem_cons.mp hz with rfl | hz
      · exact c
      · exact zlt_trans c (h1.1 z hz)
    · split
      · exact h
      · rename_i c e
        refine List.pairwise_cons.mpr ⟨fun z hz => ?_, ins_up l h1.2⟩
        rcases (mem_ins l).mp hz with rfl | hz
        · exact zlt_tri c e
        · exact h1.1 z hz
theorem srt_up (l : List Zp) : (srtZ l).Pairwise zlt := by
  induction l with
  | nil => exact .nil
  | cons q l ih => exact ins_up _ ih
theorem mem_srt {z : Zp} (l : List Zp) : z ∈ srtZ l ↔ z ∈ l := by
  induction l with
  | nil => rfl
  | cons q l ih =>
    show z ∈ insZ q (srtZ l) ↔ _
    rw [mem_ins, ih, List.mem_cons]
theorem up_one : ∀ {k l : List Zp}, k.Pairwise zlt → l.Pairwise zlt → (∀ z, z ∈ k ↔ z ∈ l) → k = l
  | [], [], _, _, _ => rfl
  | [], x :: l, _, _, h => by have := (h x).mpr (by simp); cases this
  | x :: k, [], _, _, h => by have := (h x).mp (by simp); cases this
  | x :: k, y :: l, hk, hl, h => by
    have k1 := List.pairwise_cons.mp hk
    have l1 := List.pairwise_cons.mp hl
    have e : x = y := by
      rcases List.mem_cons.mp ((h x).mp (by simp)) with e | e
      · exact e
      · rcases List.mem_cons.mp ((h y).mpr (by simp)) with f | f
        · exact f.symm
        · exact absurd (zlt_trans (l1.1 x e) (k1.1 y f)) zlt_irr
    subst e
    rw [up_one k1.2 l1.2 fun z => ?_]
    constructor
    · intro hz
      rcases List.mem_cons.mp ((h z).mp (.tail _ hz)) with e | e
      · subst e; exact absurd (k1.1 z hz) zlt_irr
      · exact e
    · intro hz
      rcases List.mem_cons.mp ((h z).mpr (.tail _ hz)) with e | e
      · subst e; exact absurd (l1.1 z hz) zlt_irr
      · exact e
def gSoSe (d : D) (h : Hq) : Rs D := match d with
  | .ref m => match lstAt h m with
    | some l => match prsD l with
      | some qs => if qs.length < 64 then .ok (.ref h.length) (h ++ [.lst ((srtZ qs).map dZ)]) else .no
      | none => .no
    | none => .no
  | _ => .no
def eSoSe (f : Sx) : Sx := fun fr h => (f fr h).bind gSoSe
section
variable {K : PySem.W.Frag} {ι : List Addr} {h : Hq} {H : Hp}
/-- one more thing in the heap that nothing speaks of -/
theorem HR.oth (r : HR K ι h H) {p : Addr} (np : H p = none) (o : HO) : Ext ι H ι (upd H p o) ∧ HR K ι h (upd H p o) := by
  have ne : ∀ a u, H a = some u → a ≠ p := fun a u q => ne_of_none q np
  have e : Ext ι H ι (upd H p o) := ⟨⟨[], by simp, fun a z => (nomatch z)⟩, fun a xs q => by rw [upd_ne (ne a _ q)]; exact q, fun a u v q => by rw [upd_ne (ne a _ q)]; exact q,
    fun a u q _ => by rw [upd_ne (ne a _ q)]; exact q, fun a q => by
      by_cases hp : a = p
      · subst hp; exact absurd np q
      · rw [upd_ne hp]; exact q⟩
  refine ⟨e, r.len, r.nd, fun n c a h1 h2 => (r.cells n c a h1 h2).ext e ?_⟩
  obtain ⟨u, q, _⟩ := r.mem (List.mem_of_getElem? h2)
  rw [upd_ne (ne a u q)]
end
/-- the rows of a list of pairs -/
theorem rows_of {K : PySem.W.Frag} {ι : List Addr} {H : Hp} : ∀ {qs : List Zp} {vs : List V}, VRs K ι H vs (qs.map dZ) → ∃ rows : List (Addr × List Int), vs = rows.map (fun z => V.ref z.1) ∧ rows.map (·.2) = qs.map (fun q => [q.1, q.2]) ∧ ∀ z ∈ rows, H z.1 = some (.tup (z.2.map V.int))
  | [], _, r => by cases r; exact ⟨[], rfl, rfl, fun _ z => (nomatch z)⟩
  | q :: qs, _, r => by
    cases r with
    | cons r1 r2 =>
      obtain ⟨rows, e1, e2, e3⟩ := rows_of r2
      cases r1 with
      | tup hx rs =>
        rename_i a vs2
        cases rs with
        | cons s1 s2 =>
          cases s2 with
          | cons s3 s4 =>
            cases s4
            cases s1
            cases s3
            refine ⟨(a, [q.1, q.2]) :: rows, by rw [e1]; rfl, by rw [List.map_cons, e2]; rfl, fun z hz => ?_⟩
            rcases List.mem_cons.mp hz with rfl | hz
            · exact hx
            · exact e3 z hz
theorem bound_of : ∀ qs : List Zp, ∃ M : Int, ∀ q ∈ qs, -M ≤ q.2 ∧ q.2 ≤ M
  | [] => ⟨0, fun _ z => (nomatch z)⟩
  | q :: qs => by
    obtain ⟨M, h⟩ := bound_of qs
    refine ⟨(if M < 0 then 0 else M) + (q.2.natAbs : Int), fun z hz => ?_⟩
    rcases List.mem_cons.mp hz with rfl | hz
    · split <;> omega
    · have := h z hz
      split <;> omega
theorem VRs.of_rows {K : PySem.W.Frag} {ι : List Addr} {H : Hp} : ∀ {J : List (Addr × List Int)} {ts : List Zp}, J.map (·.2) = ts.map (fun q => [q.1, q.2]) → (∀ z ∈ J, H z.1 = some (.tup (z.2.map V.int))) → VRs K ι H (J.map fun z => V.ref z.1) (ts.map dZ)
  | [], [], _, _ => .nil
  | [], _ :: _, e, _ => by cases e
  | _ :: _, [], e, _ => by cases e
  | z :: J, t :: ts, e, h => by
    have e1 : z.2 = [t.1, t.2] := (List.cons.inj e).1
    have hz := h z (by simp)
    rw [e1] at hz
    exact .cons (.tup hz (.cons (.int _) (.cons (.int _) .nil))) (VRs.of_rows (List.cons.inj e).2 fun y hy => h y (.tail _ hy))
theorem zs_of : ∀ {J : List (Addr × List Int)} {qs : List Zp}, (∀ z ∈ J, z.2 ∈ qs.map fun q => [q.1, q.2]) → ∃ ts : List Zp, J.map (·.2) = ts.map (fun q => [q.1, q.2]) ∧ ∀ t ∈ ts, t ∈ qs
  | [], _, _ => ⟨[], rfl, fun _ z => (nomatch z)⟩
  | z :: J, qs, h => by
    obtain ⟨ts, e1, e2⟩ := zs_of (J := J) (qs := qs) fun y hy => h y (.tail _ hy)
    obtain ⟨q, hq, e⟩ := List.mem_map.mp (h z (by simp))
    exact ⟨q :: ts, by rw [List.map_cons, List.map_cons, e1, e], fun t ht => (List.mem_cons.mp ht).elim (fun a => by rw [a]; exact hq) (e2 t)⟩
section
variable {X : Cx} {E : XK} {a : Expr} {fa : Sx} {p p2 pos pos2 : Pos}
theorem m_soSe (hc : X.calm = true) (hu : X.A.units + 64 < cLine) (hs : X.mg "set" = none) (ho : X.mg "sorted" = none) (ha : PM X E a fa) (hgs : Gl X "set" := by rfl) (hgo : Gl X "sorted" := by rfl)
    (he : starEach [a] X.env = (false, eval a X.env) :: starEach [] X.env := by rfl) (hpl : (backTo pos2 (starEach [] X.env)).any (·.1) = false := by rfl)
    (he2 : starEach [.Call (.Name "set" p2) [a] [] pos2] X.env = (false, eval (.Call (.Name "set" p2) [a] [] pos2) X.env) :: starEach [] X.env := by rfl) (hpl2 : (backTo pos (starEach [] X.env)).any (·.1) = false := by rfl) :
    PM X E (.Call (.Name "sorted" p) [.Call (.Name "set" p2) [a] [] pos2] [] pos) (eSoSe fa) := by
  have h1 := pe_callTy (p := p2) (pos := pos2) (cr_setOfT hc hu) hgs hs (by decide +kernel) (pa_cons ha pa_nil he) (he := he) (hpl := hpl)
  have h2 := pe_callB (p := p) (pos := pos) (MiSs.cr_soZ hc) hgo ho (by decide +kernel) (pa_cons h1 pa_nil he2) (he := he2) (hpl := hpl2)
  refine pe_imp h2 fun σ H Q ⟨ι, h, fr, R, F, P⟩ => ?_
  refine ⟨ι, h, fr, R, F, Po.mono ?_ (Po.bind P)⟩
  rintro v H1 ⟨ι1, h1, d, e1, R1, r1, P1⟩
  unfold gSoSe at P1
  split at P1
  · rename_i m
    split at P1
    · rename_i l hl
      split at P1
      · rename_i qs hq
        split at P1
        · rename_i few
          have el := prsD_is hq
          subst el
          cases r1 with
          | ref hx =>
            rename_i ad
            obtain ⟨vs, c1, rs⟩ := R1.lst hx hl
            obtain ⟨rows, ev, e2, hrow⟩ := rows_of rs
            subst ev
            have lr : rows.length = qs.length := by have := congrArg List.length e2; simpa using this
            refine ⟨ad, rows, rfl, .of c1, fun z hz => .of (hrow z hz), by omega, fun sa L np sub all => ?_⟩
            obtain ⟨e3, R3⟩ := R1.oth np (SetTO X.prog X.w sa L)
            obtain ⟨M, hM⟩ := bound_of qs
            have tupL : ∀ z ∈ L, (upd H1 sa (SetTO X.prog X.w sa L)) z.1 = some (.tup (z.2.map V.int)) := fun z hz => e3.tups _ _ (hrow z (sub z hz))
            refine ⟨sa, L, M, rfl, upd_same, fun z hz => ⟨.of (tupL z hz), ?_⟩, fun J at' pm nd fw pw np2 => ?_⟩
            · have hm : z.2 ∈ rows.map (·.2) := List.mem_map.mpr ⟨z, sub z hz, rfl⟩
              rw [e2] at hm
              obtain ⟨q, hq', e⟩ := List.mem_map.mp hm
              exact ⟨q.1, q.2, e.symm, hM q hq'⟩
            · obtain ⟨ts, t1, t2⟩ := zs_of (J := J) (qs := qs) fun z hz => by
                have hm : z.2 ∈ rows.map (·.2) := List.mem_map.mpr ⟨z, sub z (pm.mem_iff.mp hz), rfl⟩
                rwa [e2] at hm
              have t3 : ts = srtZ qs := by
                refine up_one ?_ (srt_up qs) fun z => ?_
                · have pj : (J.map (·.2)).Pairwise fun y z => MiSs.rnk M y ≤ MiSs.rnk M z := List.pairwise_map.mpr pw
                  rw [t1] at pj nd
                  have pj2 := List.pairwise_map.mp pj
                  have nd2 := List.pairwise_map.mp nd
                  refine (List.Pairwise.and pj2 nd2).imp_of_mem fun {y z} hy hz hh => ?_
                  have b1 := hM y (t2 y hy)
                  have b2 := hM z (t2 z hz)
                  have nlt : ¬ MiSs.rnk M [z.1, z.2] < MiSs.rnk M [y.1, y.2] := Int.not_lt.mpr hh.1
                  by_cases c : zlt y z
                  · exact c
                  · exfalso
                    have hne : y ≠ z := fun e => hh.2 (by rw [e])
                    exact nlt ((MiSs.rnk_lt b2 b1).mpr (zlt_tri c hne))
                · rw [mem_srt]
                  constructor
                  · exact t2 z
                  · intro hz
                    have h1 : [z.1, z.2] ∈ rows.map (·.2) := by rw [e2]; exact List.mem_map.mpr ⟨z, hz, rfl⟩
                    obtain ⟨y, hy, ey⟩ := List.mem_map.mp h1
                    have h2 := all y hy
                    rw [ey] at h2
                    have h3 : [z.1, z.2] ∈ J.map (·.2) := ((pm.map (·.2)).mem_iff).mpr h2
                    rw [t1] at h3
                    obtain ⟨t, ht, et⟩ := List.mem_map.mp h3
                    have : t = z := Prod.ext (List.cons.inj et).1 (List.cons.inj (List.cons.inj et).2).1
                    rw [← this]; exact ht
              have hJ : ∀ z ∈ J, (upd H1 sa (SetTO X.prog X.w sa L)) z.1 = some (.tup (z.2.map V.int)) := fun z hz => tupL z (pm.mem_iff.mp hz)
              obtain ⟨e5, R5⟩ := R3.new np2 (o := .lst (J.map fun z => V.ref z.1)) (c := .lst ((srtZ qs).map dZ)) fun ι' H' e q => ⟨_, q, by
                rw [← t3]
                exact VRs.of_rows t1 fun z hz => e.tups _ _ (hJ z hz)⟩
              exact P1 _ _ _ (e3.trans e5) R5 (.ref (ref_new R3 at'))
        · exact P1.elim
      · exact P1.elim
    · exact P1.elim
  · exact P1.elim
end
end MI
end
section
set_option Elab.async false
set_option linter.all false
set_option autoImplicit false
set_option maxRecDepth 100000
set_option maxHeartbeats 4000000
namespace MiMx
open PySem
open Sem (wp)
section
variable {prog : Program} {w : World} {A : Around} {E : Value → Shared → Prop} {s : Shared}
theorem args_max5 (a b c d e : Value) : argsOk "max" ⟨[a, b, c, d, e], []⟩ := by unfold argsOk; kernel_rfl
theorem call_max_five {a b c d e : Value} {Q : Value → Shared → Prop}
    (h : wpAny (model prog w) A.in1 (pyIter (.ref s.heap.objs.size)) (fun it s₂ => ∃ I fp wr n P St bt, it = .ref I ∧ Walks prog w A.in1 I fp wr n P St ∧ St 0 s₂.heap ∧ (∀ b ∈ fp, b < s₂.heap.objs.size) ∧ 0 < n ∧ CmpOf prog w A.in1 .Gt P bt ∧
      ∀ v h' tk, P (argBest bt (n - 1)) v → (∀ b o, b ∉ wr → s₂.heap.get? b = some o → h'.get? b = some o) → Q v { s₂ with heap := h', toks := tk }) E
      { s with heap := s.heap.push { cls := .type "tuple", data := .seq #[a, b, c, d, e] } }) :
    wpAny (model prog w) A (call (.builtin "max") [a, b, c, d, e]) Q E s := by
  have hname : (toString "max" ++ toString ".loop" : String) = "max.loop" := by decide
  refine call_function_tree F.kind_max F.plain_max F.entry_max (args_max5 _ _ _ _ _) ?_
  show wpAny _ A.in1 (Builtin.Builtins.bindParams "max" ["key", "default"] 0 ⟨[], []⟩ >>= _) _ _ s
  refine wpAny_bind (wpAny_of_eq (show Builtin.Builtins.bindParams "max" ["key", "default"] 0 ⟨[], []⟩ = pure [none, none] from rfl) ?_)
  show wpAny _ A.in1 (newTuple [a, b, c, d, e] >>= _) _ _ s
  refine wpAny_bind (wpAny_newObj_type ?_)
  refine wpAny_bind (wpAny_mono h (fun it s₂ h₂ => ?_) fun _ _ e => e)
  obtain ⟨I, fp, wr, n, P, St, bt, rfl, W, hst, hfp, hn, hcmp, hQ⟩ := h₂
  refine wpAny_bind (wpAny_newObj_type ?_)
  have hSf : s₂.heap.objs.size ∉ fp := fun hm => Nat.lt_irrefl _ (hfp _ hm)
  rw [hname]
  refine wpAny_pure ⟨plainId_quiet F.plain_max_loop _, codeAny_max_loop_first W bt hcmp s₂.heap.objs.size hSf hn (W.frame _ _ _ hst fun b _ o e => Heap.get?_push_of_some _ e) (Heap.get?_push_size _ rfl) fun v h' tk hP hk => ?_⟩
  exact hQ v h' tk hP fun b o hbw e => hk b o hbw (Nat.ne_of_lt (Heap.lt_size e)) (Heap.get?_push_of_some _ e)
theorem max_five_ints {a b c d e : Int} {t1 t2 t3 t4 t5 : Tok} {Q : Value → Shared → Prop} (hh : A.handled = none)
    (h : ∀ h' tk M t', (∀ d o, s.heap.get? d = some o → h'.get? d = some o) → M ∈ [a, b, c, d, e] → (∀ y, y ∈ [a, b, c, d, e] → y ≤ M) → Q (.int M t') { s with heap := h', toks := tk }) :
    wpAny (model prog w) A (call (.builtin "max") [.int a t1, .int b t2, .int c t3, .int d t4, .int e t5]) Q E s := by
  have hT : (s.heap.push { cls := .type "tuple", data := .seq #[.int a t1, .int b t2, .int c t3, .int d t4, .int e t5] }).IsTuple s.heap.objs.size (intItems #[(a, t1), (b, t2), (c, t3), (d, t4), (e, t5)]) := ⟨_, Heap.get?_push_size _ rfl, rfl, 0, by simp [intItems]⟩
  refine call_max_five (wpAny_pyIter_tuple hT ?_)
  have hsz : (s.heap.push { cls := .type "tuple", data := .seq #[.int a t1, .int b t2, .int c t3, .int d t4, .int e t5] }).objs.size = s.heap.objs.size + 1 := Heap.size_push ..
  refine ⟨_, [_, s.heap.objs.size], [_], _, _, _, _, rfl, Walks.tuple (A := A.in1) hh _ s.heap.objs.size (by rw [hsz]; exact Nat.ne_of_lt (Nat.lt_succ_self _)) (intItems #[(a, t1), (b, t2), (c, t3), (d, t4), (e, t5)]),
    ⟨⟨_, Heap.get?_push_size _ rfl, rfl, rfl⟩, hT.push _⟩, fun d hd => ?_, by simp [intItems], CmpOf.ints_gt (numAt #[(a, t1), (b, t2), (c, t3), (d, t4), (e, t5)]) (fun _ _ => intItems_at), fun v h' tk hP hk => ?_⟩
  · show d < ((s.heap.push _).push _).objs.size
    rw [Heap.size_push, hsz]
    rcases List.mem_cons.mp hd with rfl | hd
    · rw [hsz]; exact Nat.lt_succ_self _
    · rcases List.mem_cons.mp hd with rfl | hd
      · exact Nat.lt_succ_of_lt (Nat.lt_succ_self _)
      · cases hd
  · have hold : ∀ c o, s.heap.get? c = some o → h'.get? c = some o := fun c o e => by
      refine hk c o (fun hm => ?_) (Heap.get?_push_of_some _ (Heap.get?_push_of_some _ e))
      rcases List.mem_cons.mp hm with e1 | hm
      · have := Heap.lt_size e; rw [e1, hsz] at this; exact Nat.lt_irrefl _ (Nat.lt_of_succ_lt this)
      · cases hm
    obtain ⟨t, rfl⟩ := intItems_at hP
    have hs : (intItems #[(a, t1), (b, t2), (c, t3), (d, t4), (e, t5)]).size - 1 = 4 := by simp [intItems]
    rw [hs]
    obtain ⟨h1, h2⟩ := argBest_gt (numAt #[(a, t1), (b, t2), (c, t3), (d, t4), (e, t5)]) 4
    generalize argBest (fun i j => decide (numAt #[(a, t1), (b, t2), (c, t3), (d, t4), (e, t5)] i > numAt #[(a, t1), (b, t2), (c, t3), (d, t4), (e, t5)] j)) 4 = k at h1 h2
    refine h h' tk _ t hold ?_ fun y hy => ?_
    · have : k = 0 ∨ k = 1 ∨ k = 2 ∨ k = 3 ∨ k = 4 := by omega
      rcases this with rfl | rfl | rfl | rfl | rfl <;> simp [numAt]
    · have e0 := h2 0 (by omega)
      have e1 := h2 1 (by omega)
      have e2 := h2 2 (by omega)
      have e3 := h2 3 (by omega)
      have e4 := h2 4 (by omega)
      generalize numAt #[(a, t1), (b, t2), (c, t3), (d, t4), (e, t5)] k = M at *
      simp [numAt] at e0 e1 e2 e3 e4
      simp at hy
      omega
end
end MiMx
namespace MI
open PySem L2
theorem vals5 {x y z x' y' : V} {us : List Value} (r : Vals [x, y, z, x', y'] us) : ∃ u w' t' u2 w2, us = [u, w', t', u2, w2] ∧ RelV x u ∧ RelV y w' ∧ RelV z t' ∧ RelV x' u2 ∧ RelV y' w2 := by
  cases r with
  | cons r1 r =>
    cases r with
    | cons r2 r =>
      cases r with
      | cons r3 r =>
        cases r with
        | cons r4 r =>
          cases r with
          | cons r5 r => cases r; exact ⟨_, _, _, _, _, rfl, r1, r2, r3, r4, r5⟩
def mx5 (a b c d e : Int) : Int := max (max (max (max a b) c) d) e
theorem call_max5 {X : Cx} (hc : X.calm = true) : CallR X (.builtin "max") (fun xs H Q => ∃ a b c d e, xs = [.int a, .int b, .int c, .int d, .int e] ∧ Q (.int (mx5 a b c d e)) H) := by
  intro pins s σ H xs us Q I r h
  obtain ⟨a, b, c, d, e, rfl, q⟩ := h
  obtain ⟨_, _, _, _, _, rfl, ⟨t1, rfl⟩, ⟨t2, rfl⟩, ⟨t3, rfl⟩, ⟨t4, rfl⟩, ⟨t5, rfl⟩⟩ := vals5 r
  refine MiMx.max_five_ints (I.ok.hd hc) fun h' tk M t' k hm hl => ⟨.int M, H, I.kept k, ⟨t', rfl⟩, ?_⟩
  have : M = mx5 a b c d e := by
    have e1 := hl a (by simp)
    have e2 := hl b (by simp)
    have e3 := hl c (by simp)
    have e4 := hl d (by simp)
    have e5 := hl e (by simp)
    simp at hm
    unfold mx5
    omega
  rw [this]; exact q
def intsD : List D → Option (List Int)
  | [] => some []
  | .int i :: l => (intsD l).map (i :: ·)
  | _ => none
theorem intsD_is : ∀ {l : List D} {is : List Int}, intsD l = some is → l = is.map D.int
  | [], _, e => by cases e; rfl
  | d :: l, is, e => by
    unfold intsD at e
    split at e
    · rename_i h; cases h
    · rename_i x l' h
      cases h
      obtain ⟨q, e1, rfl⟩ := Option.map_eq_some_iff.mp e
      rw [intsD_is e1]; rfl
    · cases e
theorem intsD_map : ∀ is : List Int, intsD (is.map D.int) = some is
  | [] => rfl
  | i :: is => by show (intsD (is.map D.int)).map (i :: ·) = _; rw [intsD_map is]; rfl
def mxL : Int → List Int → Int
  | i, [] => i
  | i, j :: l => mxL (max i j) l
def mnL : Int → List Int → Int
  | i, [] => i
  | i, j :: l => mnL (min i j) l
theorem mxL_le : ∀ (l : List Int) (i : Int), ∀ y, y ∈ i :: l → y ≤ mxL i l
  | [], i, y, h => by simp at h; subst h; exact Int.le_refl _
  | j :: l, i, y, h => by
    have h0 := mxL_le l (max i j) (max i j) (by simp)
    show y ≤ mxL (max i j) l
    rcases List.mem_cons.1 h with rfl | h
    · omega
    · rcases List.mem_cons.1 h with rfl | h
      · omega
      · exact mxL_le l (max i j) y (by simp [h])
theorem mxL_mem : ∀ (l : List Int) (i : Int), mxL i l ∈ i :: l
  | [], i => by simp [mxL]
  | j :: l, i => by
    show mxL (max i j) l ∈ _
    rcases List.mem_cons.1 (mxL_mem l (max i j)) with h | h
    · rw [h]
      by_cases c : i ≤ j
      · rw [Int.max_eq_right c]; simp
      · rw [Int.max_eq_left (by omega)]; simp
    · exact .tail _ (.tail _ h)
theorem mnL_le : ∀ (l : List Int) (i : Int), ∀ y, y ∈ i :: l → mnL i l ≤ y
  | [], i, y, h => by simp at h; subst h; exact Int.le_refl _
  | j :: l, i, y, h => by
    have h0 := mnL_le l (min i j) (min i j) (by simp)
    show mnL (min i j) l ≤ y
    rcases List.mem_cons.1 h with rfl | h
    · omega
    · rcases List.mem_cons.1 h with rfl | h
      · omega
      · exact mnL_le l (min i j) y (by simp [h])
theorem mnL_mem : ∀ (l : List Int) (i : Int), mnL i l ∈ i :: l
  | [], i => by simp [mnL]
  | j :: l, i => by
    show mnL (min i j) l ∈ _
    rcases List.mem_cons.1 (mnL_mem l (min i j)) with h | h
    · rw [h]
      by_cases c : i ≤ j
      · rw [Int.min_eq_left c]; simp
      · rw [Int.min_eq_right (by omega)]; simp
    · exact .tail _ (.tail _ h)
def gMax5 (ds : List D) (h : Hq) : Rs D := match ds with
  | [.int a, .int b, .int c, .int d, .int e] => .ok (.int (mx5 a b c d e)) h
  | _ => .no
def gMaxL (ds : List D) (h : Hq) : Rs D := match ds with
  | [.ref m] => match (lstAt h m).bind intsD with
    | some (i :: l) => .ok (.int (mxL i l)) h
    | _ => .no
  | _ => .no
def gMinL (ds : List D) (h : Hq) : Rs D := match ds with
  | [.ref m] => match (lstAt h m).bind intsD with
    | some (i :: l) => .ok (.int (mnL i l)) h
    | _ => .no
  | _ => .no
theorem vrs_ints {K : PySem.W.Frag} {ι : List Addr} {H : Hp} : ∀ {is : List Int} {vs : List V}, VRs K ι H vs (is.map D.int) → vs = is.map V.int
  | [], _, r => by cases r; rfl
  | i :: is, _, r => by
    cases r with
    | cons a b => cases a; rw [vrs_ints b]; rfl
section
variable {K : PySem.W.Frag} {mg : Str → Option Value} {E : XK}
theorem s_max5 : CaS K mg E gMax5 (fun xs H Q => ∃ a b c d e, xs = [.int a, .int b, .int c, .int d, .int e] ∧ Q (.int (mx5 a b c d e)) H) := by
  intro ι h H ds vs Q R r P
  unfold gMax5 at P
  split at P
  · cases r with
    | cons q1 r => cases r with
      | cons q2 r => cases r with
        | cons q3 r => cases r with
          | cons q4 r => cases r with
            | cons q5 r =>
              cases r; cases q1; cases q2; cases q3; cases q4; cases q5
              exact ⟨_, _, _, _, _, rfl, P ι H _ (Ext.refl _ _) R (.int _)⟩
  · exact P.elim
theorem s_maxL : CaS K mg E gMaxL (rMax K) := by
  intro ι h H ds vs Q R r P
  unfold gMaxL at P
  split at P
  · split at P
    · rename_i i l e
      obtain ⟨ls, e1, e2⟩ := Option.bind_eq_some_iff.mp e
      obtain ⟨v, rfl, q⟩ := r.one
      cases q with
      | ref hx =>
        obtain ⟨ws, c1, q1⟩ := R.lst hx e1
        have e3 := intsD_is e2
        subst e3
        have e4 := vrs_ints q1
        subst e4
        refine ⟨_, i :: l, rfl, .of c1, by simp, fun m hm hl => ?_⟩
        have : m = mxL i l := Int.le_antisymm (mxL_le l i m hm) (hl _ (mxL_mem l i))
        rw [this]
        exact P ι H _ (Ext.refl _ _) R (.int _)
    · exact P.elim
  · exact P.elim
theorem s_minL : CaS K mg E gMinL (rMin K) := by
  intro ι h H ds vs Q R r P
  unfold gMinL at P
  split at P
  · split at P
    · rename_i i l e
      obtain ⟨ls, e1, e2⟩ := Option.bind_eq_some_iff.mp e
      obtain ⟨v, rfl, q⟩ := r.one
      cases q with
      | ref hx =>
        obtain ⟨ws, c1, q1⟩ := R.lst hx e1
        have e3 := intsD_is e2
        subst e3
        have e4 := vrs_ints q1
        subst e4
        refine ⟨_, i :: l, rfl, .of c1, by simp, fun m hm hl => ?_⟩
        have : m = mnL i l := Int.le_antisymm (hl _ (mnL_mem l i)) (mnL_le l i m hm)
        rw [this]
        exact P ι H _ (Ext.refl _ _) R (.int _)
    · exact P.elim
  · exact P.elim
end
section
variable {X : Cx} {E : XK} {a : Expr} {as : List Expr} {fs : Sa} {p pos : Pos}
theorem m_max5 (hc : X.calm = true) (hm : X.mg "max" = none) (ha : PMa X E (a :: as) fs) (hg : Gl X "max" := by rfl) (he : starEach (a :: as) X.env = (false, eval a X.env) :: starEach as X.env := by rfl) (hpl : (backTo pos (starEach as X.env)).any (·.1) = false := by rfl) :
    PM X E (.Call (.Name "max" p) (a :: as) [] pos) (eBi gMax5 fs) := m_bi (call_max5 hc) s_max5 hm (by decide +kernel) ha hg (he := he) (hpl := hpl)
theorem m_maxL (hc : X.calm = true) (hm : X.mg "max" = none) (ha : PMa X E (a :: as) fs) (hg : Gl X "max" := by rfl) (he : starEach (a :: as) X.env = (false, eval a X.env) :: starEach as X.env := by rfl) (hpl : (backTo pos (starEach as X.env)).any (·.1) = false := by rfl) :
    PM X E (.Call (.Name "max" p) (a :: as) [] pos) (eBi gMaxL fs) := m_bi (cr_max hc) s_maxL hm (by decide +kernel) ha hg (he := he) (hpl := hpl)
theorem m_minL (hc : X.calm = true) (hm : X.mg "min" = none) (ha : PMa X E (a :: as) fs) (hg : Gl X "min" := by rfl) (he : starEach (a :: as) X.env = (false, eval a X.env) :: starEach as X.env := by rfl) (hpl : (backTo pos (starEach as X.env)).any (·.1) = false := by rfl) :
    PM X E (.Call (.Name "min" p) (a :: as) [] pos) (eBi gMinL fs) := m_bi (cr_min hc) s_minL hm (by decide +kernel) ha hg (he := he) (hpl := hpl)
end
end MI
end
section
set_option Elab.async false
set_option linter.all false
set_option autoImplicit false
set_option maxRecDepth 100000
set_option maxHeartbeats 4000000
namespace MI
open PySem L2
noncomputable section
/-- _law_pot: k01 k02 k03 k04 k05 k06 k07 k08 k09 k10 k11 k12 k13 k14 k15 k16 k17 k18 k19 k20 k21 k22 k23 -/
def S__law_pot : Sf := ofBody 2 1 (sSeq (sAsg (eK (.int 0)) (tgN 2)) (sSeq (sIf (bOf (eOp dLt (eV 1) (eBi gLen (aCons (eV 0) (aNil))))) (sSeq (sAsg (eOp dMod (eBi gAbs (aCons (eOp dIx (eV 0) (eV 1)) (aNil))) (eOp dPow (eOp dPow (eK (.int 10)) (eK (.int 60))) (eK (.int 10)))) (tgN 2)) (sEnd)) (sEnd)) (sSeq (sRet (eLst (aCons (eOp dMul (eV 2) (eBi gInt (aCons (eOp dGe (eV 2) (eOp dPow (eK (.int 10)) (eK (.int 18)))) (aNil)))) (aCons (eOp dMod (eOp dPow (eOp dAdd (eOp dAdd (eOp dMod (eV 2) (eK (.int 2147483629))) (eOp dMul (eK (.int 7919)) (eV 1))) (eK (.int 1))) (eK (.int 5))) (eK (.int 2305843009213693951))) (aCons (eK (.int 0)) (aNil)))))) (sEnd))))
/-- _law_take: k01 k02 k03 k04 k05 k06 k07 k08 k09 k10 k11 k12 k13 k14 k15 k16 k17 k18 k19 k20 k21 k22 k23 -/
def S__law_take : Sf := ofBody 2 3 (sSeq (sIf (bOf (eOp dGt (eOp dIx (eV 0) (eK (.int 0))) (eK (.int 0)))) (sSeq (sAsg (eOp dMod (eOp dIx (eV 0) (eK (.int 0))) (eV 1)) (tgN 2)) (sSeq (sPut (eOp dDiv (eOp dIx (eV 0) (eK (.int 0))) (eV 1)) (eV 0) (eK (.int 0))) (sSeq (sRet (eV 2)) (sEnd)))) (sEnd)) (sSeq (sPut (eOp dAdd (eOp dIx (eV 0) (eK (.int 2))) (eK (.int 1))) (eV 0) (eK (.int 2))) (sSeq (sAsg (eOp dMod (eOp dPow (eOp dAdd (eOp dIx (eV 0) (eK (.int 1))) (eOp dMul (eK (.int 104729)) (eOp dIx (eV 0) (eK (.int 2))))) (eK (.int 3))) (eK (.int 2305843009213693921))) (tgN 3)) (sSeq (sAsg (eOp dMod (eOp dPow (eOp dAdd (eOp dAdd (eV 3) (eOp dMod (eOp dIx (eV 0) (eK (.int 1))) (eK (.int 65537)))) (eOp dMul (eK (.int 31)) (eOp dIx (eV 0) (eK (.int 2))))) (eK (.int 5))) (eK (.int 2305843009213693907))) (tgN 4)) (sSeq (sRet (eOp dMod (eOp dDiv (eV 4) (eK (.int 1024))) (eV 1))) (sEnd))))))
/-- lowest: k02 k03 k04 k08 k12 k14 k15 k16 k17 k18 k19 k20 k22 k23 -/
def S_lowest : Sf := ofBody 2 1 (sSeq (sIf (bOf (eOp dLt (eV 1) (eK (.int 0)))) (sSeq (sPar 0 1 (aCons (eUn dNeg (eV 0)) (aCons (eUn dNeg (eV 1)) (aNil)))) (sEnd)) (sEnd)) (sSeq (sAsg (eBi gGcd (aCons (eV 0) (aCons (eV 1) (aNil)))) (tgN 2)) (sSeq (sRet (eTup (aCons (eOp dDiv (eV 0) (eV 2)) (aCons (eOp dDiv (eV 1) (eV 2)) (aNil))))) (sEnd))))
/-- _law_lowest: k02 k03 k04 k05 k06 k07 k08 k11 k12 k15 k16 k17 k18 k19 k20 k21 k22 k23 -/
def S__law_lowest : Sf := ofBody 2 2 (sSeq (sPar 2 3 (aCons (eBi gAbs (aCons (eV 0) (aNil))) (aCons (eV 1) (aNil)))) (sSeq (sWhile (bOf (eOp (dEqs true) (eV 3) (eK (.int 0)))) (sSeq (sPar 2 3 (aCons (eV 3) (aCons (eOp dMod (eV 2) (eV 3)) (aNil)))) (sEnd))) (sSeq (sRet (eTup (aCons (eOp dDiv (eV 0) (eV 2)) (aCons (eOp dDiv (eV 1) (eV 2)) (aNil))))) (sEnd))))
/-- are_corners: k09 k10 k11 k12 k13 k14 k15 k18 k19 k20 k21 k22 k23 -/
def S_are_corners : Sf := ofBody 1 3 (sSeq (sFor (tgN 1) (iSeq (eV 0)) (sSeq (sIf (bOr (bNot (bOf (eIsi "tuple" (eV 1)))) (bOf (eOp (dEqs true) (eBi gLen (aCons (eV 1) (aNil))) (eK (.int 2))))) (sSeq (sRet (eK (.bl false))) (sEnd)) (sEnd)) (sSeq (sAsg (eV 1) (tgT [2, 3])) (sSeq (sIf (bOr (bNot (bOf (eIsi "int" (eV 2)))) (bOr (bNot (bOf (eIsi "int" (eV 3)))) (bOr (bOf (eOp (dIsN false) (eV 2) (eK (.bl true)))) (bOr (bOf (eOp (dIsN false) (eV 2) (eK (.bl false)))) (bOr (bOf (eOp (dIsN false) (eV 3) (eK (.bl true)))) (bOf (eOp (dIsN false) (eV 3) (eK (.bl false))))))))) (sSeq (sRet (eK (.bl false))) (sEnd)) (sEnd)) (sSeq (sIf (bOr (bNot (bOf (eChain (fun i j => decide (i ≤ j)) (fun i j => decide (i ≤ j)) (eK (.int (-1000000000))) (eV 2) (eK (.int 1000000000))))) (bNot (bOf (eChain (fun i j => decide (i ≤ j)) (fun i j => decide (i ≤ j)) (eK (.int (-1000000000))) (eV 3) (eK (.int 1000000000)))))) (sSeq (sRet (eK (.bl false))) (sEnd)) (sEnd)) (sEnd)))))) (sSeq (sRet (eK (.bl true))) (sEnd)))
/-- turns_left: k09 k10 k11 k12 k13 k14 k15 k18 k19 k20 k21 k22 k23 -/
def S_turns_left : Sf := ofBody 1 13 (sSeq (sAsg (eTup (aCons (eOp dIx (eV 0) (eUn dNeg (eK (.int 2)))) (aCons (eOp dIx (eV 0) (eUn dNeg (eK (.int 1)))) (aNil)))) (tgG [tgT [1, 2], tgT [3, 4]])) (sSeq (sPar 5 6 (aCons (eOp dSub (eV 3) (eV 1)) (aCons (eOp dSub (eV 4) (eV 2)) (aNil)))) (sSeq (sAsg (eOp dGt (eV 6) (eK (.int 0))) (tgN 7)) (sSeq (sAsg (eK (.int 0)) (tgN 8)) (sSeq (sFor (tgT [9, 10]) (iSeq (eV 0)) (sSeq (sPar 11 12 (aCons (eOp dSub (eV 9) (eV 3)) (aCons (eOp dSub (eV 10) (eV 4)) (aNil)))) (sSeq (sIf (bOf (eOp dLe (eOp dMul (eV 5) (eV 12)) (eOp dMul (eV 6) (eV 11)))) (sSeq (sRet (eK (.bl false))) (sEnd)) (sEnd)) (sSeq (sPar 13 7 (aCons (eV 7) (aCons (eOp dGt (eV 12) (eK (.int 0))) (aNil)))) (sSeq (sIf (bAnd (bOf (eV 7)) (bNot (bOf (eV 13)))) (sSeq (sAug 8 (fun x y => x + y) (eK (.int 1))) (sEnd)) (sEnd)) (sSeq (sAsg (eTup (aCons (eV 9) (aCons (eV 10) (aCons (eV 11) (aCons (eV 12) (aNil)))))) (tgT [3, 4, 5, 6])) (sEnd))))))) (sSeq (sRet (eOp (dEqs false) (eV 8) (eK (.int 1)))) (sEnd)))))))
/-- _law_cross: k09 k10 k11 k12 k13 k14 k15 k18 k19 k20 k21 k22 k23 -/
def S__law_cross : Sf := ofBody 3 0 (sSeq (sRet (eOp dSub (eOp dMul (eOp dSub (eOp dIx (eV 1) (eK (.int 0))) (eOp dIx (eV 0) (eK (.int 0)))) (eOp dSub (eOp dIx (eV 2) (eK (.int 1))) (eOp dIx (eV 0) (eK (.int 1))))) (eOp dMul (eOp dSub (eOp dIx (eV 1) (eK (.int 1))) (eOp dIx (eV 0) (eK (.int 1)))) (eOp dSub (eOp dIx (eV 2) (eK (.int 0))) (eOp dIx (eV 0) (eK (.int 0))))))) (sEnd))
/-- whole_line: k18 k19 -/
def S_whole_line : Sf := ofBody 2 0 (sSeq (sRet (eTup (aCons (eTup (aCons (eV 0) (aCons (eK (.int 1)) (aNil)))) (aCons (eTup (aCons (eV 1) (aCons (eK (.int 1)) (aNil)))) (aNil))))) (sEnd))
/-- moved_points: k18 k19 k22 k23 -/
def S_moved_points : Sf := ofBody 2 8 (sSeq (sAsg (eV 0) (tgT [2, 3, 4])) (sSeq (sAsg (eV 1) (tgT [5, 6])) (sSeq (sAsg (eOp dSub (eV 5) (eOp dMul (eV 2) (eV 6))) (tgN 7)) (sSeq (sRet (eBi gTuple (aCons (eComp (iSeq (eV 3)) [8, 9] (tgT [8, 9]) (cYes) (eTup (aCons (eOp dAdd (eOp dMul (eV 8) (eV 6)) (eOp dMul (eOp dIx (eV 4) (eK (.int 0))) (eV 7))) (aCons (eOp dAdd (eOp dMul (eV 9) (eV 6)) (eOp dMul (eOp dIx (eV 4) (eK (.int 1))) (eV 7))) (aNil))))) (aNil)))) (sEnd)))))
/-- _law_at: k18 k20 k21 k22 k23 -/
def S__law_at : Sf := ofBody 2 3 (sSeq (sIf (bOr (bOf (eOp (dIsN false) (eV 0) (eK .non))) (bOf (eOp (dIsN false) (eOp dIx (eV 0) (eK (.int 1))) (eK .non)))) (sSeq (sRet (eK .non)) (sEnd)) (sEnd)) (sSeq (sAsg (eOp dSub (eOp dIx (eV 1) (eK (.int 0))) (eOp dMul (eOp dIx (eV 0) (eK (.int 0))) (eOp dIx (eV 1) (eK (.int 1))))) (tgN 2)) (sSeq (sRet (eComp (iSeq (eOp dIx (eV 0) (eK (.int 1)))) [3, 4] (tgT [3, 4]) (cYes) (eTup (aCons (eOp dAdd (eOp dMul (eV 3) (eOp dIx (eV 1) (eK (.int 1)))) (eOp dMul (eOp dIx (eOp dIx (eV 0) (eK (.int 2))) (eK (.int 0))) (eV 2))) (aCons (eOp dAdd (eOp dMul (eV 4) (eOp dIx (eV 1) (eK (.int 1)))) (eOp dMul (eOp dIx (eOp dIx (eV 0) (eK (.int 2))) (eK (.int 1))) (eV 2))) (aNil)))))) (sEnd))))
/-- is_ring: k09 k10 k11 k12 k13 k14 k15 k18 k19 k20 k21 k22 k23 -/
def S_is_ring : Sf := ofBody 1 0 (sSeq (sIf (bOr (bNot (bOf (eIsi "tuple" (eV 0)))) (bNot (bOf (eChain (fun i j => decide (i ≤ j)) (fun i j => decide (i ≤ j)) (eK (.int 1)) (eBi gLen (aCons (eV 0) (aNil))) (eK (.int 8)))))) (sSeq (sRet (eK (.bl false))) (sEnd)) (sEnd)) (sSeq (sIf (bNot (bOf (eCall 1 S_are_corners (aCons (eV 0) (aNil))))) (sSeq (sRet (eK (.bl false))) (sEnd)) (sEnd)) (sSeq (sIf (bOf (eOp dLt (eBi gLen (aCons (eV 0) (aNil))) (eK (.int 3)))) (sSeq (sRet (eOr (eOp (dEqs false) (eBi gLen (aCons (eV 0) (aNil))) (eK (.int 1))) (eOp (dEqs true) (eOp dIx (eV 0) (eK (.int 0))) (eOp dIx (eV 0) (eK (.int 1)))))) (sEnd)) (sEnd)) (sSeq (sRet (eCall 1 S_turns_left (aCons (eV 0) (aNil)))) (sEnd)))))
/-- _law_half_hull: k09 k10 k11 k12 k13 k14 k15 k18 k19 k20 k21 k22 k23 -/
def S__law_half_hull : Sf := ofBody 1 2 (sSeq (sAsg (eLst (aNil)) (tgN 1)) (sSeq (sFor (tgN 2) (iSeq (eV 0)) (sSeq (sWhile (bAnd (bOf (eOp dGt (eBi gLen (aCons (eV 1) (aNil))) (eK (.int 1)))) (bOf (eOp dLe (eCall 3 S__law_cross (aCons (eOp dIx (eV 1) (eUn dNeg (eK (.int 2)))) (aCons (eOp dIx (eV 1) (eUn dNeg (eK (.int 1)))) (aCons (eV 2) (aNil))))) (eK (.int 0))))) (sSeq (sExpr (ePop (eV 1))) (sEnd))) (sSeq (sExpr (eApp (eV 1) (eV 2))) (sEnd)))) (sSeq (sRet (eV 1)) (sEnd))))
/-- _law_great: k11 k12 k15 k16 k17 k18 k19 k20 k21 k22 k23 -/
def S__law_great_2 : Sf := ofBody 2 2 (sSeq (sIf (bOf (eOp dLt (eV 1) (eOp dPow (eK (.int 10)) (eK (.int 12))))) (sSeq (sRet (eCall 2 S__law_take (aCons (eV 0) (aCons (eV 1) (aNil))))) (sEnd)) (sEnd)) (sSeq (sAsg (eComp (iRange (aCons (eK (.int 3)) (aNil))) [3] (tgN 3) (cYes) (eCall 2 S__law_take (aCons (eV 0) (aCons (eOp dPow (eK (.int 10)) (eK (.int 12))) (aNil))))) (tgN 2)) (sSeq (sRet (eOp dMod (eOp dAdd (eOp dAdd (eOp dMul (eOp dIx (eV 2) (eK (.int 0))) (eOp dPow (eK (.int 10)) (eK (.int 24)))) (eOp dMul (eOp dIx (eV 2) (eK (.int 1))) (eOp dPow (eK (.int 10)) (eK (.int 12))))) (eOp dIx (eV 2) (eK (.int 2)))) (eV 1))) (sEnd))))
/-- _law_pace: k18 k19 k20 k21 k22 k23 -/
def S__law_pace : Sf := ofBody 1 1 (sSeq (sAsg (eOp dIx (eLst (aCons (eK (.int 0)) (aCons (eK (.int 1)) (aCons (eK (.int 1)) (aCons (eK (.int 2)) (aCons (eK (.int 3)) (aCons (eK (.int 3)) (aCons (eK (.int 3)) (aCons (eOp dPow (eK (.int 10)) (eK (.int 6))) (aNil)))))))))) (eCall 2 S__law_take (aCons (eV 0) (aCons (eK (.int 8)) (aNil))))) (tgN 1)) (sSeq (sRet (eTup (aCons (eOp dSub (eCall 2 S__law_take (aCons (eV 0) (aCons (eOp dAdd (eOp dMul (eK (.int 2)) (eV 1)) (eK (.int 1))) (aNil)))) (eV 1)) (aCons (eOp dSub (eCall 2 S__law_take (aCons (eV 0) (aCons (eOp dAdd (eOp dMul (eK (.int 2)) (eV 1)) (eK (.int 1))) (aNil)))) (eV 1)) (aNil))))) (sEnd)))
/-- need_ring: k10 k11 k12 k13 k14 k15 k23 -/
def S_need_ring : Sf := ofBody 1 0 (sSeq (sIf (bNot (bOf (eCall 1 S_is_ring (aCons (eV 0) (aNil))))) (sSeq (sRaise "NoRing") (sEnd)) (sEnd)) (sEnd))
/-- _law_moment: k16 k17 k18 k19 k20 k21 k22 k23 -/
def S__law_moment_2 : Sf := ofBody 2 2 (sSeq (sAsg (eCall 2 S__law_take (aCons (eV 0) (aCons (eK (.int 8)) (aNil)))) (tgN 2)) (sSeq (sIf (bOf (eOp (dEqs false) (eV 2) (eK (.int 0)))) (sSeq (sRet (eOp dIx (eLst (aCons (eTup (aCons (eK (.int 0)) (aCons (eK (.int 1)) (aNil)))) (aCons (eTup (aCons (eV 1) (aCons (eK (.int 1)) (aNil)))) (aNil)))) (eCall 2 S__law_take (aCons (eV 0) (aCons (eK (.int 2)) (aNil)))))) (sEnd)) (sEnd)) (sSeq (sAsg (eOp dAdd (eK (.int 1)) (eCall 2 S__law_great_2 (aCons (eV 0) (aCons (eOp dIx (eLst (aCons (eK (.int 1)) (aCons (eK (.int 1)) (aCons (eK (.int 2)) (aCons (eK (.int 6)) (aCons (eK (.int 6)) (aCons (eK (.int 90)) (aCons (eOp dPow (eK (.int 10)) (eK (.int 30))) (aNil))))))))) (eOp dSub (eV 2) (eK (.int 1)))) (aNil))))) (tgN 3)) (sSeq (sRet (eCall 2 S__law_lowest (aCons (eCall 2 S__law_great_2 (aCons (eV 0) (aCons (eOp dAdd (eOp dMul (eV 1) (eV 3)) (eK (.int 1))) (aNil)))) (aCons (eV 3) (aNil))))) (sEnd)))))
/-- is_moment: k04 k05 k06 k07 k08 k16 k17 k18 k19 k20 k21 k22 k23 -/
def S_is_moment : Sf := ofBody 1 2 (sSeq (sIf (bOr (bNot (bOf (eIsi "tuple" (eV 0)))) (bOf (eOp (dEqs true) (eBi gLen (aCons (eV 0) (aNil))) (eK (.int 2))))) (sSeq (sRet (eK (.bl false))) (sEnd)) (sEnd)) (sSeq (sAsg (eV 0) (tgT [1, 2])) (sSeq (sIf (bOr (bNot (bOf (eIsi "int" (eV 1)))) (bOr (bNot (bOf (eIsi "int" (eV 2)))) (bOr (bOf (eOp (dIsN false) (eV 1) (eK (.bl true)))) (bOr (bOf (eOp (dIsN false) (eV 1) (eK (.bl false)))) (bOf (eOp (dIsN false) (eV 2) (eK (.bl true)))))))) (sSeq (sRet (eK (.bl false))) (sEnd)) (sEnd)) (sSeq (sRet (eAnd (eOp dGe (eV 2) (eK (.int 1))) (eAnd (eChain (fun i j => decide (i ≤ j)) (fun i j => decide (i ≤ j)) (eK (.int 0)) (eV 1) (eOp dMul (eK (.int 1000000)) (eV 2))) (eOp (dEqs false) (eBi gGcd (aCons (eV 1) (aCons (eV 2) (aNil)))) (eK (.int 1)))))) (sEnd)))))
/-- are_whole_corners: k18 k19 k20 k21 k22 k23 -/
def S_are_whole_corners : Sf := ofBody 1 2 (sSeq (sFor (tgT [1, 2]) (iSeq (eV 0)) (sSeq (sIf (bOr (bNot (bOf (eIsi "int" (eV 1)))) (bOr (bNot (bOf (eIsi "int" (eV 2)))) (bOr (bOf (eOp (dIsN false) (eV 1) (eK (.bl true)))) (bOr (bOf (eOp (dIsN false) (eV 1) (eK (.bl false)))) (bOr (bOf (eOp (dIsN false) (eV 2) (eK (.bl true)))) (bOf (eOp (dIsN false) (eV 2) (eK (.bl false))))))))) (sSeq (sRet (eK (.bl false))) (sEnd)) (sEnd)) (sEnd))) (sSeq (sRet (eK (.bl true))) (sEnd)))
/-- need_moment: k04 k06 k08 k16 k18 k19 -/
def S_need_moment : Sf := ofBody 1 0 (sSeq (sIf (bNot (bOf (eCall 1 S_is_moment (aCons (eV 0) (aNil))))) (sSeq (sDead) (sEnd)) (sEnd)) (sEnd))
/-- are_parts_of_row: k18 k19 k20 k21 k22 k23 -/
def S_are_parts_of_row : Sf := ofBody 4 2 (sSeq (sIf (bOr (bNot (bOf (eIsi "int" (eV 0)))) (bOr (bOf (eOp (dIsN false) (eV 0) (eK (.bl true)))) (bOr (bOf (eOp (dIsN false) (eV 0) (eK (.bl false)))) (bNot (bOf (eChain (fun i j => decide (i ≤ j)) (fun i j => decide (i ≤ j)) (eK (.int 0)) (eV 0) (eK (.int 1000000)))))))) (sSeq (sRet (eK (.bl false))) (sEnd)) (sEnd)) (sSeq (sIf (bOr (bNot (bOf (eIsi "tuple" (eV 2)))) (bOf (eOp (dEqs true) (eBi gLen (aCons (eV 2) (aNil))) (eK (.int 2))))) (sSeq (sRet (eK (.bl false))) (sEnd)) (sEnd)) (sSeq (sAsg (eV 2) (tgT [4, 5])) (sSeq (sIf (bOr (bNot (bOf (eIsi "int" (eV 4)))) (bOr (bNot (bOf (eIsi "int" (eV 5)))) (bOr (bOf (eOp (dIsN false) (eV 4) (eK (.bl true)))) (bOr (bOf (eOp (dIsN false) (eV 4) (eK (.bl false)))) (bOr (bOf (eOp (dIsN false) (eV 5) (eK (.bl true)))) (bOf (eOp (dIsN false) (eV 5) (eK (.bl false))))))))) (sSeq (sRet (eK (.bl false))) (sEnd)) (sEnd)) (sSeq (sIf (bOf (eOp (dIsN false) (eV 1) (eK .non))) (sSeq (sRet (eAnd (eOp (dEqs false) (eV 4) (eK (.int 0))) (eOp (dEqs false) (eV 5) (eK (.int 0))))) (sEnd)) (sEnd)) (sSeq (sIf (bOr (bNot (bOf (eChain (fun i j => decide (i ≤ j)) (fun i j => decide (i ≤ j)) (eUn dNeg (eK (.int 1000000))) (eV 4) (eK (.int 1000000))))) (bNot (bOf (eChain (fun i j => decide (i ≤ j)) (fun i j => decide (i ≤ j)) (eUn dNeg (eK (.int 1000000))) (eV 5) (eK (.int 1000000)))))) (sSeq (sRet (eK (.bl false))) (sEnd)) (sEnd)) (sSeq (sRet (eIf (bOf (eOp (dEqs false) (eV 1) (eV 3))) (eCall 1 S_are_whole_corners (aCons (eV 1) (aNil))) (eCall 1 S_is_ring (aCons (eV 1) (aNil))))) (sEnd))))))))
/-- is_row: k18 k19 k20 k21 k22 k23 -/
def S_is_row : Sf := ofBody 1 3 (sSeq (sIf (bOr (bNot (bOf (eIsi "tuple" (eV 0)))) (bOf (eOp (dEqs true) (eBi gLen (aCons (eV 0) (aNil))) (eK (.int 3))))) (sSeq (sRet (eK (.bl false))) (sEnd)) (sEnd)) (sSeq (sAsg (eV 0) (tgT [1, 2, 3])) (sSeq (sRet (eCall 4 S_are_parts_of_row (aCons (eV 1) (aCons (eV 2) (aCons (eV 3) (aCons (eK .non) (aNil))))))) (sEnd))))
/-- need_row: k18 k19 k20 k21 k22 k23 -/
def S_need_row : Sf := ofBody 1 0 (sSeq (sIf (bNot (bOf (eCall 1 S_is_row (aCons (eV 0) (aNil))))) (sSeq (sRaise "NoRow") (sEnd)) (sEnd)) (sEnd))
/-- need_row_with_ring: k18 k19 k20 k21 k22 k23 -/
def S_need_row_with_ring : Sf := ofBody 1 0 (sSeq (sExpr (eCall 1 S_need_row (aCons (eV 0) (aNil)))) (sSeq (sIf (bOf (eOp (dIsN false) (eOp dIx (eV 0) (eK (.int 1))) (eK .non))) (sSeq (sRaise "NoRow") (sEnd)) (sEnd)) (sEnd)))
/-- _law_hull: k09 k10 k11 k12 k13 k14 k15 k18 k19 k20 k21 k22 k23 k33 k35 k36 -/
def S__law_hull : Sf := ofBody 1 1 (sSeq (sAsg (eSoSe (eV 0)) (tgN 1)) (sSeq (sIf (bOf (eOp dLt (eBi gLen (aCons (eV 1) (aNil))) (eK (.int 3)))) (sSeq (sRet (eV 1)) (sEnd)) (sEnd)) (sSeq (sRet (eOp dAdd (eCut (eCall 1 S__law_half_hull (aCons (eV 1) (aNil))) (oNone) (oSome (eUn dNeg (eK (.int 1))))) (eCut (eCall 1 S__law_half_hull (aCons (eUn dBack (eV 1)) (aNil))) (oNone) (oSome (eUn dNeg (eK (.int 1))))))) (sEnd))))
/-- still_row: k33 k35 k36 -/
def S_still_row : Sf := ofBody 1 0 (sSeq (sRet (eTup (aCons (eK (.int 0)) (aCons (eV 0) (aCons (eTup (aCons (eK (.int 0)) (aCons (eK (.int 0)) (aNil)))) (aNil)))))) (sEnd))
/-- _law_ring: k09 k10 k11 k12 k13 k14 k15 k18 k19 k20 k21 k22 k23 k33 k35 k36 -/
def S__law_ring : Sf := ofBody 2 5 (sSeq (sIf (bOf (eOp (dEqs false) (eCall 2 S__law_take (aCons (eV 0) (aCons (eK (.int 24)) (aNil)))) (eK (.int 0)))) (sSeq (sAsg (eOp dPow (eK (.int 10)) (eK (.int 9))) (tgN 1)) (sEnd)) (sEnd)) (sSeq (sAsg (eOp dIx (eLst (aCons (eK (.int 1)) (aCons (eK (.int 2)) (aCons (eK (.int 3)) (aCons (eK (.int 4)) (aCons (eK (.int 4)) (aCons (eOp dAdd (eK (.int 1)) (eCall 2 S__law_take (aCons (eV 0) (aCons (eK (.int 8)) (aNil))))) (aNil)))))))) (eCall 2 S__law_take (aCons (eV 0) (aCons (eK (.int 6)) (aNil))))) (tgN 2)) (sSeq (sAsg (eComp (iRange (aCons (eV 2) (aNil))) [6] (tgN 6) (cYes) (eTup (aCons (eOp dSub (eCall 2 S__law_take (aCons (eV 0) (aCons (eOp dAdd (eOp dMul (eK (.int 2)) (eV 1)) (eK (.int 1))) (aNil)))) (eV 1)) (aCons (eOp dSub (eCall 2 S__law_take (aCons (eV 0) (aCons (eOp dAdd (eOp dMul (eK (.int 2)) (eV 1)) (eK (.int 1))) (aNil)))) (eV 1)) (aNil))))) (tgN 3)) (sSeq (sAsg (eCall 1 S__law_hull (aCons (eV 3) (aNil))) (tgN 4)) (sSeq (sAsg (eCall 2 S__law_take (aCons (eV 0) (aCons (eBi gLen (aCons (eV 4) (aNil))) (aNil)))) (tgN 5)) (sSeq (sRet (eBi gTuple (aCons (eOp dAdd (eCut (eV 4) (oSome (eV 5)) (oNone)) (eCut (eV 4) (oNone) (oSome (eV 5)))) (aNil)))) (sEnd)))))))
/-- bounds: k10 k11 k12 k13 k14 k15 k18 k19 k20 k22 k23 k33 k35 k36 -/
def S_bounds : Sf := ofBody 1 5 (sSeq (sAsg (eComp (iSeq (eV 0)) [3, 4] (tgT [3, 4]) (cYes) (eV 3)) (tgN 1)) (sSeq (sAsg (eComp (iSeq (eV 0)) [4, 5] (tgT [4, 5]) (cYes) (eV 5)) (tgN 2)) (sSeq (sRet (eTup (aCons (eBi gMinL (aCons (eV 1) (aNil))) (aCons (eBi gMinL (aCons (eV 2) (aNil))) (aCons (eBi gMaxL (aCons (eV 1) (aNil))) (aCons (eBi gMaxL (aCons (eV 2) (aNil))) (aNil))))))) (sEnd))))
/-- _law_gap: k10 k20 k33 k35 k36 -/
def S__law_gap : Sf := ofBody 2 5 (sSeq (sAsg (eLst (aCons (eK (.int 0)) (aNil))) (tgN 2)) (sSeq (sFor (tgN 3) (iRange (aCons (eK (.int 2)) (aNil))) (sSeq (sPar 4 5 (aCons (eComp (iSeq (eV 0)) [6] (tgN 6) (cYes) (eOp dIx (eV 6) (eV 3))) (aCons (eComp (iSeq (eV 1)) [6] (tgN 6) (cYes) (eOp dIx (eV 6) (eV 3))) (aNil)))) (sSeq (sAsg (eOp dAdd (eV 2) (eLst (aCons (eOp dSub (eBi gMinL (aCons (eV 5) (aNil))) (eBi gMaxL (aCons (eV 4) (aNil)))) (aCons (eOp dSub (eBi gMinL (aCons (eV 4) (aNil))) (eBi gMaxL (aCons (eV 5) (aNil)))) (aNil))))) (tgN 2)) (sEnd)))) (sSeq (sRet (eBi gMaxL (aCons (eV 2) (aNil)))) (sEnd))))
/-- gap_of: k10 k14 k15 k33 k35 -/
def S_gap_of : Sf := ofBody 2 8 (sSeq (sAsg (eCall 1 S_bounds (aCons (eV 0) (aNil))) (tgT [2, 3, 4, 5])) (sSeq (sAsg (eCall 1 S_bounds (aCons (eV 1) (aNil))) (tgT [6, 7, 8, 9])) (sSeq (sRet (eBi gMax5 (aCons (eK (.int 0)) (aCons (eOp dSub (eV 2) (eV 8)) (aCons (eOp dSub (eV 6) (eV 4)) (aCons (eOp dSub (eV 3) (eV 9)) (aCons (eOp dSub (eV 7) (eV 5)) (aNil)))))))) (sEnd))))
/-- box_numbers: k18 k19 k20 k23 k33 k36 -/
def S_box_numbers : Sf := ofBody 1 9 (sSeq (sAsg (eV 0) (tgT [1, 2, 3])) (sSeq (sAsg (eCall 1 S_bounds (aCons (eV 2) (aNil))) (tgT [4, 5, 6, 7])) (sSeq (sPar 8 9 (aCons (eOp dMul (eOp dIx (eV 3) (eK (.int 0))) (eV 1)) (aCons (eOp dMul (eOp dIx (eV 3) (eK (.int 1))) (eV 1)) (aNil)))) (sSeq (sRet (eTup (aCons (eTup (aCons (eOp dSub (eV 4) (eV 8)) (aCons (eOp dIx (eV 3) (eK (.int 0))) (aNil)))) (aCons (eTup (aCons (eOp dSub (eV 5) (eV 9)) (aCons (eOp dIx (eV 3) (eK (.int 1))) (aNil)))) (aCons (eTup (aCons (eOp dSub (eV 6) (eV 8)) (aCons (eOp dIx (eV 3) (eK (.int 0))) (aNil)))) (aCons (eTup (aCons (eOp dSub (eV 7) (eV 9)) (aCons (eOp dIx (eV 3) (eK (.int 1))) (aNil)))) (aNil))))))) (sEnd)))))
/-- gap_numbers: k19 k20 k23 k33 k36 -/
def S_gap_numbers : Sf := ofBody 2 11 (sSeq (sAsg (eCall 1 S_box_numbers (aCons (eV 0) (aNil))) (tgT [2, 3, 4, 5])) (sSeq (sAsg (eCall 1 S_box_numbers (aCons (eV 1) (aNil))) (tgT [6, 7, 8, 9])) (sSeq (sAsg (eLst (aCons (eTup (aCons (eV 6) (aCons (eV 4) (aNil)))) (aCons (eTup (aCons (eV 2) (aCons (eV 8) (aNil)))) (aCons (eTup (aCons (eV 7) (aCons (eV 5) (aNil)))) (aCons (eTup (aCons (eV 3) (aCons (eV 9) (aNil)))) (aNil)))))) (tgN 10)) (sSeq (sRet (eOp dAdd (eLst (aCons (eTup (aCons (eK (.int 0)) (aCons (eK (.int 0)) (aNil)))) (aNil))) (eComp (iSeq (eV 10)) [11, 12] (tgT [11, 12]) (cYes) (eTup (aCons (eOp dSub (eOp dIx (eV 11) (eK (.int 0))) (eOp dIx (eV 12) (eK (.int 0)))) (aCons (eOp dSub (eOp dIx (eV 11) (eK (.int 1))) (eOp dIx (eV 12) (eK (.int 1)))) (aNil))))))) (sEnd)))))
end
end MI
end
section
set_option Elab.async false
set_option linter.all false
set_option autoImplicit false
namespace MI
open PySem L2
/-- what is written out, at once -/
theorem m_lit {X : Cx} {E : XK} {e : Expr} {f g : Sx} (h : PM X E e f) (q : f = g) : PM X E e g := q ▸ h
end MI
end
section
set_option Elab.async false
set_option linter.all false
set_option autoImplicit false
set_option maxRecDepth 100000
set_option maxHeartbeats 4000000
open PySem PySem.Spec PyProof.Rows L2
namespace K33
def topS (i : Nat) : Stmt := PySem.Challenge.pw_wherewhen_k33_gap_lines_told.main.body.getD i (.Pass ⟨0, 0, 0, 0⟩)
abbrev slowest : Stmt := topS 8
abbrev sis_moment : Stmt := topS 11
abbrev sneed_moment : Stmt := topS 12
abbrev swhole_line : Stmt := topS 14
abbrev sare_corners : Stmt := topS 19
abbrev sare_whole_corners : Stmt := topS 20
abbrev sturns_left : Stmt := topS 21
abbrev sis_ring : Stmt := topS 22
abbrev sneed_ring : Stmt := topS 23
abbrev sbounds : Stmt := topS 24
abbrev sgap_of : Stmt := topS 25
abbrev sis_row : Stmt := topS 28
abbrev sare_parts_of_row : Stmt := topS 29
abbrev sneed_row : Stmt := topS 30
abbrev sneed_row_with_ring : Stmt := topS 31
abbrev sstill_row : Stmt := topS 32
abbrev smoved_points : Stmt := topS 33
abbrev sbox_numbers : Stmt := topS 34
abbrev sgap_numbers : Stmt := topS 36
abbrev sgap_lines : Stmt := topS 38
abbrev sgap_at : Stmt := topS 39
abbrev s_law_pot : Stmt := topS 41
abbrev s_law_take : Stmt := topS 42
abbrev s_law_great : Stmt := topS 43
abbrev s_law_lowest : Stmt := topS 44
abbrev s_law_moment : Stmt := topS 45
abbrev s_law_cross : Stmt := topS 46
abbrev s_law_half_hull : Stmt := topS 47
abbrev s_law_hull : Stmt := topS 48
abbrev s_law_ring : Stmt := topS 49
abbrev s_law_pace : Stmt := topS 50
abbrev s_law_at : Stmt := topS 51
abbrev s_law_gap : Stmt := topS 52
abbrev s_law_due : Stmt := topS 53
abbrev s_law_gap_right : Stmt := topS 54
abbrev s_law_right : Stmt := topS 55
abbrev slaw : Stmt := topS 56
def dlowest : He.DefD := ⟨("lowest", none), "lowest", "lowest", defArgs slowest, defBody slowest, defScope slowest, [], []⟩
def dis_moment : He.DefD := ⟨("is_moment", none), "is_moment", "is_moment", defArgs sis_moment, defBody sis_moment, defScope sis_moment, [], []⟩
def dneed_moment : He.DefD := ⟨("need_moment", none), "need_moment", "need_moment", defArgs sneed_moment, defBody sneed_moment, defScope sneed_moment, [], []⟩
def dwhole_line : He.DefD := ⟨("whole_line", none), "whole_line", "whole_line", defArgs swhole_line, defBody swhole_line, defScope swhole_line, [], []⟩
def dare_corners : He.DefD := ⟨("are_corners", none), "are_corners", "are_corners", defArgs sare_corners, defBody sare_corners, defScope sare_corners, [], []⟩
def dare_whole_corners : He.DefD := ⟨("are_whole_corners", none), "are_whole_corners", "are_whole_corners", defArgs sare_whole_corners, defBody sare_whole_corners, defScope sare_whole_corners, [], []⟩
def dturns_left : He.DefD := ⟨("turns_left", none), "turns_left", "turns_left", defArgs sturns_left, defBody sturns_left, defScope sturns_left, [], []⟩
def dis_ring : He.DefD := ⟨("is_ring", none), "is_ring", "is_ring", defArgs sis_ring, defBody sis_ring, defScope sis_ring, [], []⟩
def dneed_ring : He.DefD := ⟨("need_ring", none), "need_ring", "need_ring", defArgs sneed_ring, defBody sneed_ring, defScope sneed_ring, [], []⟩
def dbounds : He.DefD := ⟨("bounds", none), "bounds", "bounds", defArgs sbounds, defBody sbounds, defScope sbounds, [], []⟩
def dgap_of : He.DefD := ⟨("gap_of", none), "gap_of", "gap_of", defArgs sgap_of, defBody sgap_of, defScope sgap_of, [], []⟩
def dis_row : He.DefD := ⟨("is_row", none), "is_row", "is_row", defArgs sis_row, defBody sis_row, defScope sis_row, [], []⟩
def dare_parts_of_row : He.DefD := ⟨("are_parts_of_row", none), "are_parts_of_row", "are_parts_of_row", defArgs sare_parts_of_row, defBody sare_parts_of_row, defScope sare_parts_of_row, [], []⟩
def dneed_row : He.DefD := ⟨("need_row", none), "need_row", "need_row", defArgs sneed_row, defBody sneed_row, defScope sneed_row, [], []⟩
def dneed_row_with_ring : He.DefD := ⟨("need_row_with_ring", none), "need_row_with_ring", "need_row_with_ring", defArgs sneed_row_with_ring, defBody sneed_row_with_ring, defScope sneed_row_with_ring, [], []⟩
def dstill_row : He.DefD := ⟨("still_row", none), "still_row", "still_row", defArgs sstill_row, defBody sstill_row, defScope sstill_row, [], []⟩
def dmoved_points : He.DefD := ⟨("moved_points", none), "moved_points", "moved_points", defArgs smoved_points, defBody smoved_points, defScope smoved_points, [], []⟩
def dbox_numbers : He.DefD := ⟨("box_numbers", none), "box_numbers", "box_numbers", defArgs sbox_numbers, defBody sbox_numbers, defScope sbox_numbers, [], []⟩
def dgap_numbers : He.DefD := ⟨("gap_numbers", none), "gap_numbers", "gap_numbers", defArgs sgap_numbers, defBody sgap_numbers, defScope sgap_numbers, [], []⟩
def dgap_lines : He.DefD := ⟨("gap_lines", none), "gap_lines", "gap_lines", defArgs sgap_lines, defBody sgap_lines, defScope sgap_lines, [], []⟩
def dgap_at : He.DefD := ⟨("gap_at", none), "gap_at", "gap_at", defArgs sgap_at, defBody sgap_at, defScope sgap_at, [], []⟩
def d_law_pot : He.DefD := ⟨("_law_pot", none), "_law_pot", "_law_pot", defArgs s_law_pot, defBody s_law_pot, defScope s_law_pot, [], []⟩
def d_law_take : He.DefD := ⟨("_law_take", none), "_law_take", "_law_take", defArgs s_law_take, defBody s_law_take, defScope s_law_take, [], []⟩
def d_law_great : He.DefD := ⟨("_law_great", none), "_law_great", "_law_great", defArgs s_law_great, defBody s_law_great, defScope s_law_great, [], []⟩
def d_law_lowest : He.DefD := ⟨("_law_lowest", none), "_law_lowest", "_law_lowest", defArgs s_law_lowest, defBody s_law_lowest, defScope s_law_lowest, [], []⟩
def d_law_moment : He.DefD := ⟨("_law_moment", none), "_law_moment", "_law_moment", defArgs s_law_moment, defBody s_law_moment, defScope s_law_moment, [], []⟩
def d_law_cross : He.DefD := ⟨("_law_cross", none), "_law_cross", "_law_cross", defArgs s_law_cross, defBody s_law_cross, defScope s_law_cross, [], []⟩
def d_law_half_hull : He.DefD := ⟨("_law_half_hull", none), "_law_half_hull", "_law_half_hull", defArgs s_law_half_hull, defBody s_law_half_hull, defScope s_law_half_hull, [], []⟩
def d_law_hull : He.DefD := ⟨("_law_hull", none), "_law_hull", "_law_hull", defArgs s_law_hull, defBody s_law_hull, defScope s_law_hull, [], []⟩
def d_law_ring : He.DefD := ⟨("_law_ring", none), "_law_ring", "_law_ring", defArgs s_law_ring, defBody s_law_ring, defScope s_law_ring, [], []⟩
def d_law_pace : He.DefD := ⟨("_law_pace", none), "_law_pace", "_law_pace", defArgs s_law_pace, defBody s_law_pace, defScope s_law_pace, [], []⟩
def d_law_at : He.DefD := ⟨("_law_at", none), "_law_at", "_law_at", defArgs s_law_at, defBody s_law_at, defScope s_law_at, [], []⟩
def d_law_gap : He.DefD := ⟨("_law_gap", none), "_law_gap", "_law_gap", defArgs s_law_gap, defBody s_law_gap, defScope s_law_gap, [], []⟩
def d_law_due : He.DefD := ⟨("_law_due", none), "_law_due", "_law_due", defArgs s_law_due, defBody s_law_due, defScope s_law_due, [], []⟩
def d_law_gap_right : He.DefD := ⟨("_law_gap_right", none), "_law_gap_right", "_law_gap_right", defArgs s_law_gap_right, defBody s_law_gap_right, defScope s_law_gap_right, [], []⟩
def d_law_right : He.DefD := ⟨("_law_right", none), "_law_right", "_law_right", defArgs s_law_right, defBody s_law_right, defScope s_law_right, [], []⟩
def dlaw : He.DefD := ⟨("law", none), "law", "law", defArgs slaw, defBody slaw, defScope slaw, [], []⟩
def fn : List He.DefD := [dlowest, dis_moment, dneed_moment, dwhole_line, dare_corners, dare_whole_corners, dturns_left, dis_ring, dneed_ring, dbounds, dgap_of, dis_row, dare_parts_of_row, dneed_row, dneed_row_with_ring, dstill_row, dmoved_points, dbox_numbers, dgap_numbers, dgap_lines, dgap_at, d_law_pot, d_law_take, d_law_great, d_law_lowest, d_law_moment, d_law_cross, d_law_half_hull, d_law_hull, d_law_ring, d_law_pace, d_law_at, d_law_gap, d_law_due, d_law_gap_right, d_law_right, dlaw]
def fa : List He.Fa := [.glo "lowest", .glo "is_moment", .glo "need_moment", .glo "whole_line", .glo "are_corners", .glo "are_whole_corners", .glo "turns_left", .glo "is_ring", .glo "need_ring", .glo "bounds", .glo "gap_of", .glo "is_row", .glo "are_parts_of_row", .glo "need_row", .glo "need_row_with_ring", .glo "still_row", .glo "moved_points", .glo "box_numbers", .glo "gap_numbers", .glo "gap_lines", .glo "gap_at", .glo "_law_pot", .glo "_law_take", .glo "_law_great", .glo "_law_lowest", .glo "_law_moment", .glo "_law_cross", .glo "_law_half_hull", .glo "_law_hull", .glo "_law_ring", .glo "_law_pace", .glo "_law_at", .glo "_law_gap", .glo "_law_due", .glo "_law_gap_right", .glo "_law_right", .glo "law", .glo "WhereError", .glo "NoRing", .glo "NoRow", .glo "LackError", .glo "NoMoment", .free "isinstance", .free "tuple", .free "len", .free "int", .free "min", .free "max", .free "abs", .free "range", .free "sorted", .free "set", .free "repr", .int "END" 1000000, .int "FARTHEST" 1000000000, .int "LEAST" (-1000000000), .int "MOST_CORNERS" 8, .int "FASTEST" 1000000, .exc "NoRing", .exc "NoRow"]
def ex (K : PySem.W.Frag) : Bool := decide (PySem.W.nsIn K mainGlobals "gcd" = some (some (.builtin "math.gcd")))
open MI
/-- what the written part says -/
structure Txt (K : PySem.W.Frag) (mg : Str → Option Value) : Prop where
  g_lowest : mg "lowest" = some (.ref (He.ga K "lowest"))
  g_is_moment : mg "is_moment" = some (.ref (He.ga K "is_moment"))
  g_need_moment : mg "need_moment" = some (.ref (He.ga K "need_moment"))
  g_whole_line : mg "whole_line" = some (.ref (He.ga K "whole_line"))
  g_are_corners : mg "are_corners" = some (.ref (He.ga K "are_corners"))
  g_are_whole_corners : mg "are_whole_corners" = some (.ref (He.ga K "are_whole_corners"))
  g_turns_left : mg "turns_left" = some (.ref (He.ga K "turns_left"))
  g_is_ring : mg "is_ring" = some (.ref (He.ga K "is_ring"))
  g_need_ring : mg "need_ring" = some (.ref (He.ga K "need_ring"))
  g_bounds : mg "bounds" = some (.ref (He.ga K "bounds"))
  g_gap_of : mg "gap_of" = some (.ref (He.ga K "gap_of"))
  g_is_row : mg "is_row" = some (.ref (He.ga K "is_row"))
  g_are_parts_of_row : mg "are_parts_of_row" = some (.ref (He.ga K "are_parts_of_row"))
  g_need_row : mg "need_row" = some (.ref (He.ga K "need_row"))
  g_need_row_with_ring : mg "need_row_with_ring" = some (.ref (He.ga K "need_row_with_ring"))
  g_still_row : mg "still_row" = some (.ref (He.ga K "still_row"))
  g_moved_points : mg "moved_points" = some (.ref (He.ga K "moved_points"))
  g_box_numbers : mg "box_numbers" = some (.ref (He.ga K "box_numbers"))
  g_gap_numbers : mg "gap_numbers" = some (.ref (He.ga K "gap_numbers"))
  g_gap_lines : mg "gap_lines" = some (.ref (He.ga K "gap_lines"))
  g_gap_at : mg "gap_at" = some (.ref (He.ga K "gap_at"))
  g__law_pot : mg "_law_pot" = some (.ref (He.ga K "_law_pot"))
  g__law_take : mg "_law_take" = some (.ref (He.ga K "_law_take"))
  g__law_great : mg "_law_great" = some (.ref (He.ga K "_law_great"))
  g__law_lowest : mg "_law_lowest" = some (.ref (He.ga K "_law_lowest"))
  g__law_moment : mg "_law_moment" = some (.ref (He.ga K "_law_moment"))
  g__law_cross : mg "_law_cross" = some (.ref (He.ga K "_law_cross"))
  g__law_half_hull : mg "_law_half_hull" = some (.ref (He.ga K "_law_half_hull"))
  g__law_hull : mg "_law_hull" = some (.ref (He.ga K "_law_hull"))
  g__law_ring : mg "_law_ring" = some (.ref (He.ga K "_law_ring"))
  g__law_pace : mg "_law_pace" = some (.ref (He.ga K "_law_pace"))
  g__law_at : mg "_law_at" = some (.ref (He.ga K "_law_at"))
  g__law_gap : mg "_law_gap" = some (.ref (He.ga K "_law_gap"))
  g__law_due : mg "_law_due" = some (.ref (He.ga K "_law_due"))
  g__law_gap_right : mg "_law_gap_right" = some (.ref (He.ga K "_law_gap_right"))
  g__law_right : mg "_law_right" = some (.ref (He.ga K "_law_right"))
  g_law : mg "law" = some (.ref (He.ga K "law"))
  g_WhereError : mg "WhereError" = some (.ref (He.ga K "WhereError"))
  g_NoRing : mg "NoRing" = some (.ref (He.ga K "NoRing"))
  g_NoRow : mg "NoRow" = some (.ref (He.ga K "NoRow"))
  g_LackError : mg "LackError" = some (.ref (He.ga K "LackError"))
  g_NoMoment : mg "NoMoment" = some (.ref (He.ga K "NoMoment"))
  z_isinstance : mg "isinstance" = none
  z_tuple : mg "tuple" = none
  z_len : mg "len" = none
  z_int : mg "int" = none
  z_min : mg "min" = none
  z_max : mg "max" = none
  z_abs : mg "abs" = none
  z_range : mg "range" = none
  z_sorted : mg "sorted" = none
  z_set : mg "set" = none
  z_repr : mg "repr" = none
  c_END : ∃ t, mg "END" = some (.int 1000000 t)
  c_FARTHEST : ∃ t, mg "FARTHEST" = some (.int 1000000000 t)
  c_LEAST : ∃ t, mg "LEAST" = some (.int (-1000000000) t)
  c_MOST_CORNERS : ∃ t, mg "MOST_CORNERS" = some (.int 8 t)
  c_FASTEST : ∃ t, mg "FASTEST" = some (.int 1000000 t)
  ex_NoRing : PySem.W.excIn K (He.ga K "NoRing") He.veBase "ValueError.__new__" = true
  kp_NoRing : PySem.W.keepIn K (.ref (He.ga K "NoRing")) = true
  sb_NoRing : PySem.W.subIn K (.ref (He.ga K "NoRing")) (.type "BaseException") = some true
  ty_NoRing : PySem.W.typeIn K (.ref (He.ga K "NoRing")) = some (.type "type")
  ex_NoRow : PySem.W.excIn K (He.ga K "NoRow") He.veBase "ValueError.__new__" = true
  kp_NoRow : PySem.W.keepIn K (.ref (He.ga K "NoRow")) = true
  sb_NoRow : PySem.W.subIn K (.ref (He.ga K "NoRow")) (.type "BaseException") = some true
  ty_NoRow : PySem.W.typeIn K (.ref (He.ga K "NoRow")) = some (.type "type")
  F_lowest : ∃ fd, FunD K "lowest" "lowest" (defArgs slowest) (defBody slowest) (defScope slowest) [] [] (He.ga K "lowest") fd
  F_is_moment : ∃ fd, FunD K "is_moment" "is_moment" (defArgs sis_moment) (defBody sis_moment) (defScope sis_moment) [] [] (He.ga K "is_moment") fd
  F_need_moment : ∃ fd, FunD K "need_moment" "need_moment" (defArgs sneed_moment) (defBody sneed_moment) (defScope sneed_moment) [] [] (He.ga K "need_moment") fd
  F_whole_line : ∃ fd, FunD K "whole_line" "whole_line" (defArgs swhole_line) (defBody swhole_line) (defScope swhole_line) [] [] (He.ga K "whole_line") fd
  F_are_corners : ∃ fd, FunD K "are_corners" "are_corners" (defArgs sare_corners) (defBody sare_corners) (defScope sare_corners) [] [] (He.ga K "are_corners") fd
  F_are_whole_corners : ∃ fd, FunD K "are_whole_corners" "are_whole_corners" (defArgs sare_whole_corners) (defBody sare_whole_corners) (defScope sare_whole_corners) [] [] (He.ga K "are_whole_corners") fd
  F_turns_left : ∃ fd, FunD K "turns_left" "turns_left" (defArgs sturns_left) (defBody sturns_left) (defScope sturns_left) [] [] (He.ga K "turns_left") fd
  F_is_ring : ∃ fd, FunD K "is_ring" "is_ring" (defArgs sis_ring) (defBody sis_ring) (defScope sis_ring) [] [] (He.ga K "is_ring") fd
  F_need_ring : ∃ fd, FunD K "need_ring" "need_ring" (defArgs sneed_ring) (defBody sneed_ring) (defScope sneed_ring) [] [] (He.ga K "need_ring") fd
  F_bounds : ∃ fd, FunD K "bounds" "bounds" (defArgs sbounds) (defBody sbounds) (defScope sbounds) [] [] (He.ga K "bounds") fd
  F_gap_of : ∃ fd, FunD K "gap_of" "gap_of" (defArgs sgap_of) (defBody sgap_of) (defScope sgap_of) [] [] (He.ga K "gap_of") fd
  F_is_row : ∃ fd, FunD K "is_row" "is_row" (defArgs sis_row) (defBody sis_row) (defScope sis_row) [] [] (He.ga K "is_row") fd
  F_are_parts_of_row : ∃ fd, FunD K "are_parts_of_row" "are_parts_of_row" (defArgs sare_parts_of_row) (defBody sare_parts_of_row) (defScope sare_parts_of_row) [] [] (He.ga K "are_parts_of_row") fd
  F_need_row : ∃ fd, FunD K "need_row" "need_row" (defArgs sneed_row) (defBody sneed_row) (defScope sneed_row) [] [] (He.ga K "need_row") fd
  F_need_row_with_ring : ∃ fd, FunD K "need_row_with_ring" "need_row_with_ring" (defArgs sneed_row_with_ring) (defBody sneed_row_with_ring) (defScope sneed_row_with_ring) [] [] (He.ga K "need_row_with_ring") fd
  F_still_row : ∃ fd, FunD K "still_row" "still_row" (defArgs sstill_row) (defBody sstill_row) (defScope sstill_row) [] [] (He.ga K "still_row") fd
  F_moved_points : ∃ fd, FunD K "moved_points" "moved_points" (defArgs smoved_points) (defBody smoved_points) (defScope smoved_points) [] [] (He.ga K "moved_points") fd
  F_box_numbers : ∃ fd, FunD K "box_numbers" "box_numbers" (defArgs sbox_numbers) (defBody sbox_numbers) (defScope sbox_numbers) [] [] (He.ga K "box_numbers") fd
  F_gap_numbers : ∃ fd, FunD K "gap_numbers" "gap_numbers" (defArgs sgap_numbers) (defBody sgap_numbers) (defScope sgap_numbers) [] [] (He.ga K "gap_numbers") fd
  F_gap_lines : ∃ fd, FunD K "gap_lines" "gap_lines" (defArgs sgap_lines) (defBody sgap_lines) (defScope sgap_lines) [] [] (He.ga K "gap_lines") fd
  F_gap_at : ∃ fd, FunD K "gap_at" "gap_at" (defArgs sgap_at) (defBody sgap_at) (defScope sgap_at) [] [] (He.ga K "gap_at") fd
  F__law_pot : ∃ fd, FunD K "_law_pot" "_law_pot" (defArgs s_law_pot) (defBody s_law_pot) (defScope s_law_pot) [] [] (He.ga K "_law_pot") fd
  F__law_take : ∃ fd, FunD K "_law_take" "_law_take" (defArgs s_law_take) (defBody s_law_take) (defScope s_law_take) [] [] (He.ga K "_law_take") fd
  F__law_great : ∃ fd, FunD K "_law_great" "_law_great" (defArgs s_law_great) (defBody s_law_great) (defScope s_law_great) [] [] (He.ga K "_law_great") fd
  F__law_lowest : ∃ fd, FunD K "_law_lowest" "_law_lowest" (defArgs s_law_lowest) (defBody s_law_lowest) (defScope s_law_lowest) [] [] (He.ga K "_law_lowest") fd
  F__law_moment : ∃ fd, FunD K "_law_moment" "_law_moment" (defArgs s_law_moment) (defBody s_law_moment) (defScope s_law_moment) [] [] (He.ga K "_law_moment") fd
  F__law_cross : ∃ fd, FunD K "_law_cross" "_law_cross" (defArgs s_law_cross) (defBody s_law_cross) (defScope s_law_cross) [] [] (He.ga K "_law_cross") fd
  F__law_half_hull : ∃ fd, FunD K "_law_half_hull" "_law_half_hull" (defArgs s_law_half_hull) (defBody s_law_half_hull) (defScope s_law_half_hull) [] [] (He.ga K "_law_half_hull") fd
  F__law_hull : ∃ fd, FunD K "_law_hull" "_law_hull" (defArgs s_law_hull) (defBody s_law_hull) (defScope s_law_hull) [] [] (He.ga K "_law_hull") fd
  F__law_ring : ∃ fd, FunD K "_law_ring" "_law_ring" (defArgs s_law_ring) (defBody s_law_ring) (defScope s_law_ring) [] [] (He.ga K "_law_ring") fd
  F__law_pace : ∃ fd, FunD K "_law_pace" "_law_pace" (defArgs s_law_pace) (defBody s_law_pace) (defScope s_law_pace) [] [] (He.ga K "_law_pace") fd
  F__law_at : ∃ fd, FunD K "_law_at" "_law_at" (defArgs s_law_at) (defBody s_law_at) (defScope s_law_at) [] [] (He.ga K "_law_at") fd
  F__law_gap : ∃ fd, FunD K "_law_gap" "_law_gap" (defArgs s_law_gap) (defBody s_law_gap) (defScope s_law_gap) [] [] (He.ga K "_law_gap") fd
  F__law_due : ∃ fd, FunD K "_law_due" "_law_due" (defArgs s_law_due) (defBody s_law_due) (defScope s_law_due) [] [] (He.ga K "_law_due") fd
  F__law_gap_right : ∃ fd, FunD K "_law_gap_right" "_law_gap_right" (defArgs s_law_gap_right) (defBody s_law_gap_right) (defScope s_law_gap_right) [] [] (He.ga K "_law_gap_right") fd
  F__law_right : ∃ fd, FunD K "_law_right" "_law_right" (defArgs s_law_right) (defBody s_law_right) (defScope s_law_right) [] [] (He.ga K "_law_right") fd
  F_law : ∃ fd, FunD K "law" "law" (defArgs slaw) (defBody slaw) (defScope slaw) [] [] (He.ga K "law") fd
  gcd : mg "gcd" = some (.builtin "math.gcd")
theorem txt_of {K : PySem.W.Frag} {mg : Str → Option Value} {h : Heap} (X : K.In h) (G : h.Ns mainGlobals mg) (c : He.SaysD fa fn K) (m : ex K = true) : Txt K mg := by
  have m' := m
  unfold ex at m'
  simp only [Bool.and_eq_true, decide_eq_true_eq] at m'
  have e0 := m'
  exact ⟨He.glo_ok X G (c.fact 0 (f := .glo "lowest") rfl),
    He.glo_ok X G (c.fact 1 (f := .glo "is_moment") rfl),
    He.glo_ok X G (c.fact 2 (f := .glo "need_moment") rfl),
    He.glo_ok X G (c.fact 3 (f := .glo "whole_line") rfl),
    He.glo_ok X G (c.fact 4 (f := .glo "are_corners") rfl),
    He.glo_ok X G (c.fact 5 (f := .glo "are_whole_corners") rfl),
    He.glo_ok X G (c.fact 6 (f := .glo "turns_left") rfl),
    He.glo_ok X G (c.fact 7 (f := .glo "is_ring") rfl),
    He.glo_ok X G (c.fact 8 (f := .glo "need_ring") rfl),
    He.glo_ok X G (c.fact 9 (f := .glo "bounds") rfl),
    He.glo_ok X G (c.fact 10 (f := .glo "gap_of") rfl),
    He.glo_ok X G (c.fact 11 (f := .glo "is_row") rfl),
    He.glo_ok X G (c.fact 12 (f := .glo "are_parts_of_row") rfl),
    He.glo_ok X G (c.fact 13 (f := .glo "need_row") rfl),
    He.glo_ok X G (c.fact 14 (f := .glo "need_row_with_ring") rfl),
    He.glo_ok X G (c.fact 15 (f := .glo "still_row") rfl),
    He.glo_ok X G (c.fact 16 (f := .glo "moved_points") rfl),
    He.glo_ok X G (c.fact 17 (f := .glo "box_numbers") rfl),
    He.glo_ok X G (c.fact 18 (f := .glo "gap_numbers") rfl),
    He.glo_ok X G (c.fact 19 (f := .glo "gap_lines") rfl),
    He.glo_ok X G (c.fact 20 (f := .glo "gap_at") rfl),
    He.glo_ok X G (c.fact 21 (f := .glo "_law_pot") rfl),
    He.glo_ok X G (c.fact 22 (f := .glo "_law_take") rfl),
    He.glo_ok X G (c.fact 23 (f := .glo "_law_great") rfl),
    He.glo_ok X G (c.fact 24 (f := .glo "_law_lowest") rfl),
    He.glo_ok X G (c.fact 25 (f := .glo "_law_moment") rfl),
    He.glo_ok X G (c.fact 26 (f := .glo "_law_cross") rfl),
    He.glo_ok X G (c.fact 27 (f := .glo "_law_half_hull") rfl),
    He.glo_ok X G (c.fact 28 (f := .glo "_law_hull") rfl),
    He.glo_ok X G (c.fact 29 (f := .glo "_law_ring") rfl),
    He.glo_ok X G (c.fact 30 (f := .glo "_law_pace") rfl),
    He.glo_ok X G (c.fact 31 (f := .glo "_law_at") rfl),
    He.glo_ok X G (c.fact 32 (f := .glo "_law_gap") rfl),
    He.glo_ok X G (c.fact 33 (f := .glo "_law_due") rfl),
    He.glo_ok X G (c.fact 34 (f := .glo "_law_gap_right") rfl),
    He.glo_ok X G (c.fact 35 (f := .glo "_law_right") rfl),
    He.glo_ok X G (c.fact 36 (f := .glo "law") rfl),
    He.glo_ok X G (c.fact 37 (f := .glo "WhereError") rfl),
    He.glo_ok X G (c.fact 38 (f := .glo "NoRing") rfl),
    He.glo_ok X G (c.fact 39 (f := .glo "NoRow") rfl),
    He.glo_ok X G (c.fact 40 (f := .glo "LackError") rfl),
    He.glo_ok X G (c.fact 41 (f := .glo "NoMoment") rfl),
    He.free_ok X G (c.fact 42 (f := .free "isinstance") rfl),
    He.free_ok X G (c.fact 43 (f := .free "tuple") rfl),
    He.free_ok X G (c.fact 44 (f := .free "len") rfl),
    He.free_ok X G (c.fact 45 (f := .free "int") rfl),
    He.free_ok X G (c.fact 46 (f := .free "min") rfl),
    He.free_ok X G (c.fact 47 (f := .free "max") rfl),
    He.free_ok X G (c.fact 48 (f := .free "abs") rfl),
    He.free_ok X G (c.fact 49 (f := .free "range") rfl),
    He.free_ok X G (c.fact 50 (f := .free "sorted") rfl),
    He.free_ok X G (c.fact 51 (f := .free "set") rfl),
    He.free_ok X G (c.fact 52 (f := .free "repr") rfl),
    He.int_ok X G (c.fact 53 (f := .int "END" 1000000) rfl),
    He.int_ok X G (c.fact 54 (f := .int "FARTHEST" 1000000000) rfl),
    He.int_ok X G (c.fact 55 (f := .int "LEAST" (-1000000000)) rfl),
    He.int_ok X G (c.fact 56 (f := .int "MOST_CORNERS" 8) rfl),
    He.int_ok X G (c.fact 57 (f := .int "FASTEST" 1000000) rfl),
    (He.exc_ok (c.fact 58 (f := .exc "NoRing") rfl)).1,
    (He.exc_ok (c.fact 58 (f := .exc "NoRing") rfl)).2.1,
    (He.exc_ok (c.fact 58 (f := .exc "NoRing") rfl)).2.2.1,
    (He.exc_ok (c.fact 58 (f := .exc "NoRing") rfl)).2.2.2,
    (He.exc_ok (c.fact 59 (f := .exc "NoRow") rfl)).1,
    (He.exc_ok (c.fact 59 (f := .exc "NoRow") rfl)).2.1,
    (He.exc_ok (c.fact 59 (f := .exc "NoRow") rfl)).2.2.1,
    (He.exc_ok (c.fact 59 (f := .exc "NoRow") rfl)).2.2.2,
    c.def_ 0 (d := dlowest) rfl,
    c.def_ 1 (d := dis_moment) rfl,
    c.def_ 2 (d := dneed_moment) rfl,
    c.def_ 3 (d := dwhole_line) rfl,
    c.def_ 4 (d := dare_corners) rfl,
    c.def_ 5 (d := dare_whole_corners) rfl,
    c.def_ 6 (d := dturns_left) rfl,
    c.def_ 7 (d := dis_ring) rfl,
    c.def_ 8 (d := dneed_ring) rfl,
    c.def_ 9 (d := dbounds) rfl,
    c.def_ 10 (d := dgap_of) rfl,
    c.def_ 11 (d := dis_row) rfl,
    c.def_ 12 (d := dare_parts_of_row) rfl,
    c.def_ 13 (d := dneed_row) rfl,
    c.def_ 14 (d := dneed_row_with_ring) rfl,
    c.def_ 15 (d := dstill_row) rfl,
    c.def_ 16 (d := dmoved_points) rfl,
    c.def_ 17 (d := dbox_numbers) rfl,
    c.def_ 18 (d := dgap_numbers) rfl,
    c.def_ 19 (d := dgap_lines) rfl,
    c.def_ 20 (d := dgap_at) rfl,
    c.def_ 21 (d := d_law_pot) rfl,
    c.def_ 22 (d := d_law_take) rfl,
    c.def_ 23 (d := d_law_great) rfl,
    c.def_ 24 (d := d_law_lowest) rfl,
    c.def_ 25 (d := d_law_moment) rfl,
    c.def_ 26 (d := d_law_cross) rfl,
    c.def_ 27 (d := d_law_half_hull) rfl,
    c.def_ 28 (d := d_law_hull) rfl,
    c.def_ 29 (d := d_law_ring) rfl,
    c.def_ 30 (d := d_law_pace) rfl,
    c.def_ 31 (d := d_law_at) rfl,
    c.def_ 32 (d := d_law_gap) rfl,
    c.def_ 33 (d := d_law_due) rfl,
    c.def_ 34 (d := d_law_gap_right) rfl,
    c.def_ 35 (d := d_law_right) rfl,
    c.def_ 36 (d := dlaw) rfl,
    PySem.W.mg_of X G e0⟩
end K33
end
section
set_option Elab.async false
set_option linter.all false
set_option autoImplicit false
set_option maxRecDepth 100000
set_option maxHeartbeats 4000000
open PySem PySem.Spec PyProof.Rows L2
namespace K33
open MI
noncomputable section
variable {P : Program} {w : World} {K : PySem.W.Frag} {mg : Str → Option Value} {base : Heap}
theorem sclowest : FnScope ["over", "under", "common"] ["over", "under"] (defScope slowest) := ⟨rfl, rfl, rfl, by decide +kernel, rfl, by decide +kernel, by decide +kernel⟩
theorem glowest (T : Txt K mg) : Good P w K mg base 1 "lowest" ["over", "under"] S_lowest := by
  obtain ⟨fd, F⟩ := T.F_lowest
  have bn : Binds K fd ["over", "under"] [] := F.bindsN fun _ _ _ _ _ _ us hl => match us, hl with | [_, _], _ => rfl
  refine ⟨_, fd, T.g_lowest, funD_G (k := 0) F sclowest fun cdv A outer s H E hr wh => ?_, F.kp, bn⟩
  exact m_seq (m_ifs (m_lt (m_var 1) (m_int)) (m_seq (m_par 0 1 wh (m_cons (m_neg (m_var 0)) (m_cons (m_neg (m_var 1)) (m_nil)))) (m_end)) (m_end)) (m_seq (m_set 2 wh.nd (m_gcd T.gcd (m_cons (m_var 0) (m_cons (m_var 1) (m_nil))))) (m_seq (m_ret (m_tup (m_cons (m_fdiv (m_var 0) (m_var 2)) (m_cons (m_fdiv (m_var 1) (m_var 2)) (m_nil))))) (m_end)))
theorem scis_moment : FnScope ["thing", "over", "under"] ["thing"] (defScope sis_moment) := ⟨rfl, rfl, rfl, by decide +kernel, rfl, by decide +kernel, by decide +kernel⟩
theorem gis_moment (T : Txt K mg) : Good P w K mg base 1 "is_moment" ["thing"] S_is_moment := by
  obtain ⟨fd, F⟩ := T.F_is_moment
  have bn : Binds K fd ["thing"] [] := F.bindsN fun _ _ _ _ _ _ us hl => match us, hl with | [_], _ => rfl
  refine ⟨_, fd, T.g_is_moment, funD_G (k := 0) F scis_moment fun cdv A outer s H E hr wh => ?_, F.kp, bn⟩
  exact m_seq (m_ifs (m_w (m_or (m_not (m_test (m_isi (T := "tuple") T.z_isinstance T.z_tuple (by decide +kernel) (m_var 0)))) (m_or1 (m_ne hr.units (m_len T.z_len (m_cons (m_var 0) (m_nil))) (m_int))))) (m_seq (m_ret (m_bl)) (m_end)) (m_end)) (m_seq (m_asg (m_var 0) (m_tgT wh.calm (m_gcons 1 wh.nd (m_gcons 2 wh.nd (m_gnil))))) (m_seq (m_ifs (m_w (m_or (m_not (m_test (m_isi (T := "int") T.z_isinstance T.z_int (by decide +kernel) (m_var 1)))) (m_or (m_not (m_test (m_isi (T := "int") T.z_isinstance T.z_int (by decide +kernel) (m_var 2)))) (m_or (m_isN (m_var 1) (m_bl)) (m_or (m_isN (m_var 1) (m_bl)) (m_or1 (m_isN (m_var 2) (m_bl)))))))) (m_seq (m_ret (m_bl)) (m_end)) (m_end)) (m_seq (m_ret (m_andV (m_geV (m_var 2) (m_int)) (m_andV (m_leLe (m_int) (m_var 1) (m_mul (m_globE T.c_END) (m_var 2))) (m_one (m_eqV hr.units (m_gcd T.gcd (m_cons (m_var 1) (m_cons (m_var 2) (m_nil)))) (m_int)))))) (m_end))))
theorem scneed_moment : FnScope ["thing"] ["thing"] (defScope sneed_moment) := ⟨rfl, rfl, rfl, by decide +kernel, rfl, by decide +kernel, by decide +kernel⟩
theorem gneed_moment (T : Txt K mg) : Good P w K mg base 2 "need_moment" ["thing"] S_need_moment := by
  obtain ⟨fd, F⟩ := T.F_need_moment
  have bn : Binds K fd ["thing"] [] := F.bindsN fun _ _ _ _ _ _ us hl => match us, hl with | [_], _ => rfl
  have Gis_moment := gis_moment (P := P) (w := w) (base := base) T
  refine ⟨_, fd, T.g_need_moment, funD_G (k := 1) F scneed_moment fun cdv A outer s H E hr wh => ?_, F.kp, bn⟩
  exact m_seq (m_ifs (m_not (m_test (m_callG Gis_moment wh hr (by omega) (m_cons (m_var 0) (m_nil))))) (m_seq (m_deadS) (m_end)) (m_end)) (m_end)
theorem scwhole_line : FnScope ["start", "slope"] ["start", "slope"] (defScope swhole_line) := ⟨rfl, rfl, rfl, by decide +kernel, rfl, by decide +kernel, by decide +kernel⟩
theorem gwhole_line (T : Txt K mg) : Good P w K mg base 1 "whole_line" ["start", "slope"] S_whole_line := by
  obtain ⟨fd, F⟩ := T.F_whole_line
  have bn : Binds K fd ["start", "slope"] [] := F.bindsN fun _ _ _ _ _ _ us hl => match us, hl with | [_, _], _ => rfl
  refine ⟨_, fd, T.g_whole_line, funD_G (k := 0) F scwhole_line fun cdv A outer s H E hr wh => ?_, F.kp, bn⟩
  exact m_seq (m_ret (m_tup (m_cons (m_tup (m_cons (m_var 0) (m_cons (m_int) (m_nil)))) (m_cons (m_tup (m_cons (m_var 1) (m_cons (m_int) (m_nil)))) (m_nil))))) (m_end)
theorem scare_corners : FnScope ["things", "thing", "x", "y"] ["things"] (defScope sare_corners) := ⟨rfl, rfl, rfl, by decide +kernel, rfl, by decide +kernel, by decide +kernel⟩
theorem gare_corners (T : Txt K mg) : Good P w K mg base 1 "are_corners" ["things"] S_are_corners := by
  obtain ⟨fd, F⟩ := T.F_are_corners
  have bn : Binds K fd ["things"] [] := F.bindsN fun _ _ _ _ _ _ us hl => match us, hl with | [_], _ => rfl
  refine ⟨_, fd, T.g_are_corners, funD_G (k := 0) F scare_corners fun cdv A outer s H E hr wh => ?_, F.kp, bn⟩
  exact m_seq (m_for wh (m_seqI (m_var 0)) (m_tgN 1 wh.nd) (m_seq (m_ifs (m_w (m_or (m_not (m_test (m_isi (T := "tuple") T.z_isinstance T.z_tuple (by decide +kernel) (m_var 1)))) (m_or1 (m_ne hr.units (m_len T.z_len (m_cons (m_var 1) (m_nil))) (m_int))))) (m_seq (m_ret (m_bl)) (m_end)) (m_end)) (m_seq (m_asg (m_var 1) (m_tgT wh.calm (m_gcons 2 wh.nd (m_gcons 3 wh.nd (m_gnil))))) (m_seq (m_ifs (m_w (m_or (m_not (m_test (m_isi (T := "int") T.z_isinstance T.z_int (by decide +kernel) (m_var 2)))) (m_or (m_not (m_test (m_isi (T := "int") T.z_isinstance T.z_int (by decide +kernel) (m_var 3)))) (m_or (m_isN (m_var 2) (m_bl)) (m_or (m_isN (m_var 2) (m_bl)) (m_or (m_isN (m_var 3) (m_bl)) (m_or1 (m_isN (m_var 3) (m_bl))))))))) (m_seq (m_ret (m_bl)) (m_end)) (m_end)) (m_seq (m_ifs (m_w (m_or (m_not (m_chainT op_le op_le (m_globE T.c_LEAST) (m_var 2) (m_globE T.c_FARTHEST))) (m_or1 (m_not (m_chainT op_le op_le (m_globE T.c_LEAST) (m_var 3) (m_globE T.c_FARTHEST)))))) (m_seq (m_ret (m_bl)) (m_end)) (m_end)) (m_end)))))) (m_seq (m_ret (m_bl)) (m_end))
theorem scare_whole_corners : FnScope ["things", "x", "y"] ["things"] (defScope sare_whole_corners) := ⟨rfl, rfl, rfl, by decide +kernel, rfl, by decide +kernel, by decide +kernel⟩
theorem gare_whole_corners (T : Txt K mg) : Good P w K mg base 1 "are_whole_corners" ["things"] S_are_whole_corners := by
  obtain ⟨fd, F⟩ := T.F_are_whole_corners
  have bn : Binds K fd ["things"] [] := F.bindsN fun _ _ _ _ _ _ us hl => match us, hl with | [_], _ => rfl
  refine ⟨_, fd, T.g_are_whole_corners, funD_G (k := 0) F scare_whole_corners fun cdv A outer s H E hr wh => ?_, F.kp, bn⟩
  exact m_seq (m_for wh (m_seqI (m_var 0)) (m_tgT wh.calm (m_gcons 1 wh.nd (m_gcons 2 wh.nd (m_gnil)))) (m_seq (m_ifs (m_w (m_or (m_not (m_test (m_isi (T := "int") T.z_isinstance T.z_int (by decide +kernel) (m_var 1)))) (m_or (m_not (m_test (m_isi (T := "int") T.z_isinstance T.z_int (by decide +kernel) (m_var 2)))) (m_or (m_isN (m_var 1) (m_bl)) (m_or (m_isN (m_var 1) (m_bl)) (m_or (m_isN (m_var 2) (m_bl)) (m_or1 (m_isN (m_var 2) (m_bl))))))))) (m_seq (m_ret (m_bl)) (m_end)) (m_end)) (m_end))) (m_seq (m_ret (m_bl)) (m_end))
theorem scturns_left : FnScope ["ring", "ahead_x", "ahead_y", "x", "y", "across", "upward", "is_up", "rounds", "next_x", "next_y", "next_across", "next_upward", "was_up"] ["ring"] (defScope sturns_left) := ⟨rfl, rfl, rfl, by decide +kernel, rfl, by decide +kernel, by decide +kernel⟩
theorem gturns_left (T : Txt K mg) : Good P w K mg base 1 "turns_left" ["ring"] S_turns_left := by
  obtain ⟨fd, F⟩ := T.F_turns_left
  have bn : Binds K fd ["ring"] [] := F.bindsN fun _ _ _ _ _ _ us hl => match us, hl with | [_], _ => rfl
  refine ⟨_, fd, T.g_turns_left, funD_G (k := 0) F scturns_left fun cdv A outer s H E hr wh => ?_, F.kp, bn⟩
  exact m_seq (m_asg (m_tup (m_cons (m_ix (m_var 0) (m_neg (m_int))) (m_cons (m_ix (m_var 0) (m_neg (m_int))) (m_nil)))) (m_tgG wh.calm (m_ggcons (m_tgT wh.calm (m_gcons 1 wh.nd (m_gcons 2 wh.nd (m_gnil)))) (m_ggcons (m_tgT wh.calm (m_gcons 3 wh.nd (m_gcons 4 wh.nd (m_gnil)))) (m_ggnil))))) (m_seq (m_par 5 6 wh (m_cons (m_sub (m_var 3) (m_var 1)) (m_cons (m_sub (m_var 4) (m_var 2)) (m_nil)))) (m_seq (m_set 7 wh.nd (m_gtV (m_var 6) (m_int))) (m_seq (m_set 8 wh.nd (m_int)) (m_seq (m_for wh (m_seqI (m_var 0)) (m_tgT wh.calm (m_gcons 9 wh.nd (m_gcons 10 wh.nd (m_gnil)))) (m_seq (m_par 11 12 wh (m_cons (m_sub (m_var 9) (m_var 3)) (m_cons (m_sub (m_var 10) (m_var 4)) (m_nil)))) (m_seq (m_ifs (m_le (m_mul (m_var 5) (m_var 12)) (m_mul (m_var 6) (m_var 11))) (m_seq (m_ret (m_bl)) (m_end)) (m_end)) (m_seq (m_par 13 7 wh (m_cons (m_var 7) (m_cons (m_gtV (m_var 12) (m_int)) (m_nil)))) (m_seq (m_ifs (m_w (m_and (m_test (m_var 7)) (m_and1 (m_not (m_test (m_var 13)))))) (m_seq (m_augAdd 8 wh.nd (m_int)) (m_end)) (m_end)) (m_seq (m_asg (m_tup (m_cons (m_var 9) (m_cons (m_var 10) (m_cons (m_var 11) (m_cons (m_var 12) (m_nil)))))) (m_tgT wh.calm (m_gcons 3 wh.nd (m_gcons 4 wh.nd (m_gcons 5 wh.nd (m_gcons 6 wh.nd (m_gnil))))))) (m_end))))))) (m_seq (m_ret (m_eqV hr.units (m_var 8) (m_int))) (m_end))))))
theorem scis_ring : FnScope ["thing"] ["thing"] (defScope sis_ring) := ⟨rfl, rfl, rfl, by decide +kernel, rfl, by decide +kernel, by decide +kernel⟩
theorem gis_ring (T : Txt K mg) : Good P w K mg base 2 "is_ring" ["thing"] S_is_ring := by
  obtain ⟨fd, F⟩ := T.F_is_ring
  have bn : Binds K fd ["thing"] [] := F.bindsN fun _ _ _ _ _ _ us hl => match us, hl with | [_], _ => rfl
  have Gare_corners := gare_corners (P := P) (w := w) (base := base) T
  have Gturns_left := gturns_left (P := P) (w := w) (base := base) T
  refine ⟨_, fd, T.g_is_ring, funD_G (k := 1) F scis_ring fun cdv A outer s H E hr wh => ?_, F.kp, bn⟩
  exact m_seq (m_ifs (m_w (m_or (m_not (m_test (m_isi (T := "tuple") T.z_isinstance T.z_tuple (by decide +kernel) (m_var 0)))) (m_or1 (m_not (m_chainT op_le op_le (m_int) (m_len T.z_len (m_cons (m_var 0) (m_nil))) (m_globE T.c_MOST_CORNERS)))))) (m_seq (m_ret (m_bl)) (m_end)) (m_end)) (m_seq (m_ifs (m_not (m_test (m_callG Gare_corners wh hr (by omega) (m_cons (m_var 0) (m_nil))))) (m_seq (m_ret (m_bl)) (m_end)) (m_end)) (m_seq (m_ifs (m_lt (m_len T.z_len (m_cons (m_var 0) (m_nil))) (m_int)) (m_seq (m_ret (m_orV (m_eqV hr.units (m_len T.z_len (m_cons (m_var 0) (m_nil))) (m_int)) (m_one (m_neV hr.units (m_ix (m_var 0) (m_int)) (m_ix (m_var 0) (m_int)))))) (m_end)) (m_end)) (m_seq (m_ret (m_callG Gturns_left wh hr (by omega) (m_cons (m_var 0) (m_nil)))) (m_end))))
theorem scneed_ring : FnScope ["thing"] ["thing"] (defScope sneed_ring) := ⟨rfl, rfl, rfl, by decide +kernel, rfl, by decide +kernel, by decide +kernel⟩
theorem gneed_ring (T : Txt K mg) : Good P w K mg base 3 "need_ring" ["thing"] S_need_ring := by
  obtain ⟨fd, F⟩ := T.F_need_ring
  have bn : Binds K fd ["thing"] [] := F.bindsN fun _ _ _ _ _ _ us hl => match us, hl with | [_], _ => rfl
  have Gis_ring := gis_ring (P := P) (w := w) (base := base) T
  refine ⟨_, fd, T.g_need_ring, funD_G (k := 2) F scneed_ring fun cdv A outer s H E hr wh => ?_, F.kp, bn⟩
  exact m_seq (m_ifs (m_not (m_test (m_callG Gis_ring wh hr (by omega) (m_cons (m_var 0) (m_nil))))) (m_seq (m_raise wh PySem.F.excBase_ValueError T.ex_NoRing T.g_NoRing T.kp_NoRing (raises_own T.sb_NoRing T.ty_NoRing)) (m_end)) (m_end)) (m_end)
theorem scbounds : FnScope ["corners", "across", "upward", "x", "_", "y"] ["corners"] (defScope sbounds) := ⟨rfl, rfl, rfl, by decide +kernel, rfl, by decide +kernel, by decide +kernel⟩
theorem gbounds (T : Txt K mg) : Good P w K mg base 1 "bounds" ["corners"] S_bounds := by
  obtain ⟨fd, F⟩ := T.F_bounds
  have bn : Binds K fd ["corners"] [] := F.bindsN fun _ _ _ _ _ _ us hl => match us, hl with | [_], _ => rfl
  refine ⟨_, fd, T.g_bounds, funD_G (k := 0) F scbounds fun cdv A outer s H E hr wh => ?_, F.kp, bn⟩
  exact m_seq (m_setC 1 wh (m_seqI (m_var 0)) (blk_of (own := [("x", 3), ("_", 4)]) (by rfl)) (m_oT2 3 4 wh.nd wh.calm) (m_t0) (fun _ _ _ _ _ => m_var 3) (by rfl)) (m_seq (m_setC 2 wh (m_seqI (m_var 0)) (blk_of (own := [("_", 4), ("y", 5)]) (by rfl)) (m_oT2 4 5 wh.nd wh.calm) (m_t0) (fun _ _ _ _ _ => m_var 5) (by rfl)) (m_seq (m_ret (m_tup (m_cons (m_minL wh.calm T.z_min (m_cons (m_var 1) (m_nil))) (m_cons (m_minL wh.calm T.z_min (m_cons (m_var 2) (m_nil))) (m_cons (m_maxL wh.calm T.z_max (m_cons (m_var 1) (m_nil))) (m_cons (m_maxL wh.calm T.z_max (m_cons (m_var 2) (m_nil))) (m_nil))))))) (m_end)))
theorem scgap_of : FnScope ["corners", "others", "left", "low", "right", "high", "other_left", "other_low", "other_right", "other_high"] ["corners", "others"] (defScope sgap_of) := ⟨rfl, rfl, rfl, by decide +kernel, rfl, by decide +kernel, by decide +kernel⟩
theorem ggap_of (T : Txt K mg) : Good P w K mg base 2 "gap_of" ["corners", "others"] S_gap_of := by
  obtain ⟨fd, F⟩ := T.F_gap_of
  have bn : Binds K fd ["corners", "others"] [] := F.bindsN fun _ _ _ _ _ _ us hl => match us, hl with | [_, _], _ => rfl
  have Gbounds := gbounds (P := P) (w := w) (base := base) T
  refine ⟨_, fd, T.g_gap_of, funD_G (k := 1) F scgap_of fun cdv A outer s H E hr wh => ?_, F.kp, bn⟩
  exact m_seq (m_asg (m_callG Gbounds wh hr (by omega) (m_cons (m_var 0) (m_nil))) (m_tgT wh.calm (m_gcons 2 wh.nd (m_gcons 3 wh.nd (m_gcons 4 wh.nd (m_gcons 5 wh.nd (m_gnil))))))) (m_seq (m_asg (m_callG Gbounds wh hr (by omega) (m_cons (m_var 1) (m_nil))) (m_tgT wh.calm (m_gcons 6 wh.nd (m_gcons 7 wh.nd (m_gcons 8 wh.nd (m_gcons 9 wh.nd (m_gnil))))))) (m_seq (m_ret (m_max5 wh.calm T.z_max (m_cons (m_int) (m_cons (m_sub (m_var 2) (m_var 8)) (m_cons (m_sub (m_var 6) (m_var 4)) (m_cons (m_sub (m_var 3) (m_var 9)) (m_cons (m_sub (m_var 7) (m_var 5)) (m_nil)))))))) (m_end)))
theorem scare_parts_of_row : FnScope ["moment", "ring", "pace", "known", "u", "v"] ["moment", "ring", "pace", "known"] (defScope sare_parts_of_row) := ⟨rfl, rfl, rfl, by decide +kernel, rfl, by decide +kernel, by decide +kernel⟩
theorem gare_parts_of_row (T : Txt K mg) : Good P w K mg base 3 "are_parts_of_row" ["moment", "ring", "pace", "known"] S_are_parts_of_row := by
  obtain ⟨fd, F⟩ := T.F_are_parts_of_row
  have bn : Binds K fd ["moment", "ring", "pace", "known"] [] := F.bindsN fun _ _ _ _ _ _ us hl => match us, hl with | [_, _, _, _], _ => rfl
  have Gare_whole_corners := gare_whole_corners (P := P) (w := w) (base := base) T
  have Gis_ring := gis_ring (P := P) (w := w) (base := base) T
  refine ⟨_, fd, T.g_are_parts_of_row, funD_G (k := 2) F scare_parts_of_row fun cdv A outer s H E hr wh => ?_, F.kp, bn⟩
  exact m_seq (m_ifs (m_w (m_or (m_not (m_test (m_isi (T := "int") T.z_isinstance T.z_int (by decide +kernel) (m_var 0)))) (m_or (m_isN (m_var 0) (m_bl)) (m_or (m_isN (m_var 0) (m_bl)) (m_or1 (m_not (m_chainT op_le op_le (m_int) (m_var 0) (m_globE T.c_END)))))))) (m_seq (m_ret (m_bl)) (m_end)) (m_end)) (m_seq (m_ifs (m_w (m_or (m_not (m_test (m_isi (T := "tuple") T.z_isinstance T.z_tuple (by decide +kernel) (m_var 2)))) (m_or1 (m_ne hr.units (m_len T.z_len (m_cons (m_var 2) (m_nil))) (m_int))))) (m_seq (m_ret (m_bl)) (m_end)) (m_end)) (m_seq (m_asg (m_var 2) (m_tgT wh.calm (m_gcons 4 wh.nd (m_gcons 5 wh.nd (m_gnil))))) (m_seq (m_ifs (m_w (m_or (m_not (m_test (m_isi (T := "int") T.z_isinstance T.z_int (by decide +kernel) (m_var 4)))) (m_or (m_not (m_test (m_isi (T := "int") T.z_isinstance T.z_int (by decide +kernel) (m_var 5)))) (m_or (m_isN (m_var 4) (m_bl)) (m_or (m_isN (m_var 4) (m_bl)) (m_or (m_isN (m_var 5) (m_bl)) (m_or1 (m_isN (m_var 5) (m_bl))))))))) (m_seq (m_ret (m_bl)) (m_end)) (m_end)) (m_seq (m_ifs (m_isN (m_var 1) (m_non)) (m_seq (m_ret (m_andV (m_eqV hr.units (m_var 4) (m_int)) (m_one (m_eqV hr.units (m_var 5) (m_int))))) (m_end)) (m_end)) (m_seq (m_ifs (m_w (m_or (m_not (m_chainT op_le op_le (m_neg (m_globE T.c_FASTEST)) (m_var 4) (m_globE T.c_FASTEST))) (m_or1 (m_not (m_chainT op_le op_le (m_neg (m_globE T.c_FASTEST)) (m_var 5) (m_globE T.c_FASTEST)))))) (m_seq (m_ret (m_bl)) (m_end)) (m_end)) (m_seq (m_ret (m_if (m_eq hr.units (m_var 1) (m_var 3)) (m_callG Gare_whole_corners wh hr (by omega) (m_cons (m_var 1) (m_nil))) (m_callG Gis_ring wh hr (by omega) (m_cons (m_var 1) (m_nil))))) (m_end)))))))
theorem scis_row : FnScope ["thing", "moment", "ring", "pace"] ["thing"] (defScope sis_row) := ⟨rfl, rfl, rfl, by decide +kernel, rfl, by decide +kernel, by decide +kernel⟩
theorem gis_row (T : Txt K mg) : Good P w K mg base 4 "is_row" ["thing"] S_is_row := by
  obtain ⟨fd, F⟩ := T.F_is_row
  have bn : Binds K fd ["thing"] [] := F.bindsN fun _ _ _ _ _ _ us hl => match us, hl with | [_], _ => rfl
  have Gare_parts_of_row := gare_parts_of_row (P := P) (w := w) (base := base) T
  refine ⟨_, fd, T.g_is_row, funD_G (k := 3) F scis_row fun cdv A outer s H E hr wh => ?_, F.kp, bn⟩
  exact m_seq (m_ifs (m_w (m_or (m_not (m_test (m_isi (T := "tuple") T.z_isinstance T.z_tuple (by decide +kernel) (m_var 0)))) (m_or1 (m_ne hr.units (m_len T.z_len (m_cons (m_var 0) (m_nil))) (m_int))))) (m_seq (m_ret (m_bl)) (m_end)) (m_end)) (m_seq (m_asg (m_var 0) (m_tgT wh.calm (m_gcons 1 wh.nd (m_gcons 2 wh.nd (m_gcons 3 wh.nd (m_gnil)))))) (m_seq (m_ret (m_callG Gare_parts_of_row wh hr (by omega) (m_cons (m_var 1) (m_cons (m_var 2) (m_cons (m_var 3) (m_cons (m_non) (m_nil))))))) (m_end)))
theorem scneed_row : FnScope ["thing"] ["thing"] (defScope sneed_row) := ⟨rfl, rfl, rfl, by decide +kernel, rfl, by decide +kernel, by decide +kernel⟩
theorem gneed_row (T : Txt K mg) : Good P w K mg base 5 "need_row" ["thing"] S_need_row := by
  obtain ⟨fd, F⟩ := T.F_need_row
  have bn : Binds K fd ["thing"] [] := F.bindsN fun _ _ _ _ _ _ us hl => match us, hl with | [_], _ => rfl
  have Gis_row := gis_row (P := P) (w := w) (base := base) T
  refine ⟨_, fd, T.g_need_row, funD_G (k := 4) F scneed_row fun cdv A outer s H E hr wh => ?_, F.kp, bn⟩
  exact m_seq (m_ifs (m_not (m_test (m_callG Gis_row wh hr (by omega) (m_cons (m_var 0) (m_nil))))) (m_seq (m_raise wh PySem.F.excBase_ValueError T.ex_NoRow T.g_NoRow T.kp_NoRow (raises_own T.sb_NoRow T.ty_NoRow)) (m_end)) (m_end)) (m_end)
theorem scneed_row_with_ring : FnScope ["thing"] ["thing"] (defScope sneed_row_with_ring) := ⟨rfl, rfl, rfl, by decide +kernel, rfl, by decide +kernel, by decide +kernel⟩
theorem gneed_row_with_ring (T : Txt K mg) : Good P w K mg base 6 "need_row_with_ring" ["thing"] S_need_row_with_ring := by
  obtain ⟨fd, F⟩ := T.F_need_row_with_ring
  have bn : Binds K fd ["thing"] [] := F.bindsN fun _ _ _ _ _ _ us hl => match us, hl with | [_], _ => rfl
  have Gneed_row := gneed_row (P := P) (w := w) (base := base) T
  refine ⟨_, fd, T.g_need_row_with_ring, funD_G (k := 5) F scneed_row_with_ring fun cdv A outer s H E hr wh => ?_, F.kp, bn⟩
  exact m_seq (m_expr (m_callG Gneed_row wh hr (by omega) (m_cons (m_var 0) (m_nil)))) (m_seq (m_ifs (m_isN (m_ix (m_var 0) (m_int)) (m_non)) (m_seq (m_raise wh PySem.F.excBase_ValueError T.ex_NoRow T.g_NoRow T.kp_NoRow (raises_own T.sb_NoRow T.ty_NoRow)) (m_end)) (m_end)) (m_end))
theorem scstill_row : FnScope ["ring"] ["ring"] (defScope sstill_row) := ⟨rfl, rfl, rfl, by decide +kernel, rfl, by decide +kernel, by decide +kernel⟩
theorem gstill_row (T : Txt K mg) : Good P w K mg base 1 "still_row" ["ring"] S_still_row := by
  obtain ⟨fd, F⟩ := T.F_still_row
  have bn : Binds K fd ["ring"] [] := F.bindsN fun _ _ _ _ _ _ us hl => match us, hl with | [_], _ => rfl
  refine ⟨_, fd, T.g_still_row, funD_G (k := 0) F scstill_row fun cdv A outer s H E hr wh => ?_, F.kp, bn⟩
  exact m_seq (m_ret (m_tup (m_cons (m_int) (m_cons (m_var 0) (m_cons (m_tup (m_cons (m_int) (m_cons (m_int) (m_nil)))) (m_nil)))))) (m_end)
theorem scmoved_points : FnScope ["row", "moment", "start", "ring", "pace", "over", "under", "gone", "x", "y"] ["row", "moment"] (defScope smoved_points) := ⟨rfl, rfl, rfl, by decide +kernel, rfl, by decide +kernel, by decide +kernel⟩
theorem gmoved_points (T : Txt K mg) : Good P w K mg base 1 "moved_points" ["row", "moment"] S_moved_points := by
  obtain ⟨fd, F⟩ := T.F_moved_points
  have bn : Binds K fd ["row", "moment"] [] := F.bindsN fun _ _ _ _ _ _ us hl => match us, hl with | [_, _], _ => rfl
  refine ⟨_, fd, T.g_moved_points, funD_G (k := 0) F scmoved_points fun cdv A outer s H E hr wh => ?_, F.kp, bn⟩
  exact m_seq (m_asg (m_var 0) (m_tgT wh.calm (m_gcons 2 wh.nd (m_gcons 3 wh.nd (m_gcons 4 wh.nd (m_gnil)))))) (m_seq (m_asg (m_var 1) (m_tgT wh.calm (m_gcons 5 wh.nd (m_gcons 6 wh.nd (m_gnil))))) (m_seq (m_set 7 wh.nd (m_sub (m_var 5) (m_mul (m_var 2) (m_var 6)))) (m_seq (m_ret (m_tuplec T.z_tuple (m_cons (m_comp wh (m_seqI (m_var 3)) (blk_of (own := [("x", 8), ("y", 9)]) (by rfl)) (m_oT2 8 9 wh.nd wh.calm) (m_t0) (fun _ _ _ _ _ => m_tup (m_cons (m_add (m_mul (m_var 8) (m_var 6)) (m_mul (m_ix (m_var 4) (m_int)) (m_var 7))) (m_cons (m_add (m_mul (m_var 9) (m_var 6)) (m_mul (m_ix (m_var 4) (m_int)) (m_var 7))) (m_nil))))) (m_nil)))) (m_end))))
theorem scbox_numbers : FnScope ["row", "start", "ring", "pace", "left", "low", "right", "high", "across", "upward"] ["row"] (defScope sbox_numbers) := ⟨rfl, rfl, rfl, by decide +kernel, rfl, by decide +kernel, by decide +kernel⟩
theorem gbox_numbers (T : Txt K mg) : Good P w K mg base 2 "box_numbers" ["row"] S_box_numbers := by
  obtain ⟨fd, F⟩ := T.F_box_numbers
  have bn : Binds K fd ["row"] [] := F.bindsN fun _ _ _ _ _ _ us hl => match us, hl with | [_], _ => rfl
  have Gbounds := gbounds (P := P) (w := w) (base := base) T
  refine ⟨_, fd, T.g_box_numbers, funD_G (k := 1) F scbox_numbers fun cdv A outer s H E hr wh => ?_, F.kp, bn⟩
  exact m_seq (m_asg (m_var 0) (m_tgT wh.calm (m_gcons 1 wh.nd (m_gcons 2 wh.nd (m_gcons 3 wh.nd (m_gnil)))))) (m_seq (m_asg (m_callG Gbounds wh hr (by omega) (m_cons (m_var 2) (m_nil))) (m_tgT wh.calm (m_gcons 4 wh.nd (m_gcons 5 wh.nd (m_gcons 6 wh.nd (m_gcons 7 wh.nd (m_gnil))))))) (m_seq (m_par 8 9 wh (m_cons (m_mul (m_ix (m_var 3) (m_int)) (m_var 1)) (m_cons (m_mul (m_ix (m_var 3) (m_int)) (m_var 1)) (m_nil)))) (m_seq (m_ret (m_tup (m_cons (m_tup (m_cons (m_sub (m_var 4) (m_var 8)) (m_cons (m_ix (m_var 3) (m_int)) (m_nil)))) (m_cons (m_tup (m_cons (m_sub (m_var 5) (m_var 9)) (m_cons (m_ix (m_var 3) (m_int)) (m_nil)))) (m_cons (m_tup (m_cons (m_sub (m_var 6) (m_var 8)) (m_cons (m_ix (m_var 3) (m_int)) (m_nil)))) (m_cons (m_tup (m_cons (m_sub (m_var 7) (m_var 9)) (m_cons (m_ix (m_var 3) (m_int)) (m_nil)))) (m_nil))))))) (m_end))))
theorem scgap_numbers : FnScope ["row", "other", "left", "low", "right", "high", "other_left", "other_low", "other_right", "other_high", "pairs", "least", "greatest"] ["row", "other"] (defScope sgap_numbers) := ⟨rfl, rfl, rfl, by decide +kernel, rfl, by decide +kernel, by decide +kernel⟩
theorem ggap_numbers (T : Txt K mg) : Good P w K mg base 3 "gap_numbers" ["row", "other"] S_gap_numbers := by
  obtain ⟨fd, F⟩ := T.F_gap_numbers
  have bn : Binds K fd ["row", "other"] [] := F.bindsN fun _ _ _ _ _ _ us hl => match us, hl with | [_, _], _ => rfl
  have Gbox_numbers := gbox_numbers (P := P) (w := w) (base := base) T
  refine ⟨_, fd, T.g_gap_numbers, funD_G (k := 2) F scgap_numbers fun cdv A outer s H E hr wh => ?_, F.kp, bn⟩
  exact m_seq (m_asg (m_callG Gbox_numbers wh hr (by omega) (m_cons (m_var 0) (m_nil))) (m_tgT wh.calm (m_gcons 2 wh.nd (m_gcons 3 wh.nd (m_gcons 4 wh.nd (m_gcons 5 wh.nd (m_gnil))))))) (m_seq (m_asg (m_callG Gbox_numbers wh hr (by omega) (m_cons (m_var 1) (m_nil))) (m_tgT wh.calm (m_gcons 6 wh.nd (m_gcons 7 wh.nd (m_gcons 8 wh.nd (m_gcons 9 wh.nd (m_gnil))))))) (m_seq (m_set 10 wh.nd (m_lst (m_cons (m_tup (m_cons (m_var 6) (m_cons (m_var 4) (m_nil)))) (m_cons (m_tup (m_cons (m_var 2) (m_cons (m_var 8) (m_nil)))) (m_cons (m_tup (m_cons (m_var 7) (m_cons (m_var 5) (m_nil)))) (m_cons (m_tup (m_cons (m_var 3) (m_cons (m_var 9) (m_nil)))) (m_nil))))))) (m_seq (m_ret (m_add (m_lst (m_cons (m_tup (m_cons (m_int) (m_cons (m_int) (m_nil)))) (m_nil))) (m_comp wh (m_seqI (m_var 10)) (blk_of (own := [("least", 11), ("greatest", 12)]) (by rfl)) (m_oT2 11 12 wh.nd wh.calm) (m_t0) (fun _ _ _ _ _ => m_tup (m_cons (m_sub (m_ix (m_var 11) (m_int)) (m_ix (m_var 12) (m_int))) (m_cons (m_sub (m_ix (m_var 11) (m_int)) (m_ix (m_var 12) (m_int))) (m_nil))))))) (m_end))))
theorem scgap_lines : FnScope ["row", "ring", "start", "slope"] ["row", "ring"] (defScope sgap_lines) := ⟨rfl, rfl, rfl, by decide +kernel, rfl, by decide +kernel, by decide +kernel⟩
def bgap_lines : Ss := sSeq (sExpr (eCall 1 S_need_row_with_ring (aCons (eV 0) (aNil)))) (sSeq (sExpr (eCall 1 S_need_ring (aCons (eV 1) (aNil)))) (sSeq (sRet (eBi gTuple (aCons (eComp (iSeq (eCall 2 S_gap_numbers (aCons (eV 0) (aCons (eCall 1 S_still_row (aCons (eV 1) (aNil))) (aNil))))) [2, 3] (tgT [2, 3]) (cYes) (eCall 2 S_whole_line (aCons (eV 2) (aCons (eV 3) (aNil))))) (aNil)))) (sEnd)))
def fgap_lines : Sf := ofBody 2 2 bgap_lines
theorem ggap_lines (T : Txt K mg) : Good P w K mg base 7 "gap_lines" ["row", "ring"] fgap_lines := by
  obtain ⟨fd, F⟩ := T.F_gap_lines
  have bn : Binds K fd ["row", "ring"] [] := F.bindsN fun _ _ _ _ _ _ us hl => match us, hl with | [_, _], _ => rfl
  have Ggap_numbers := ggap_numbers (P := P) (w := w) (base := base) T
  have Gneed_ring := gneed_ring (P := P) (w := w) (base := base) T
  have Gneed_row_with_ring := gneed_row_with_ring (P := P) (w := w) (base := base) T
  have Gstill_row := gstill_row (P := P) (w := w) (base := base) T
  have Gwhole_line := gwhole_line (P := P) (w := w) (base := base) T
  refine ⟨_, fd, T.g_gap_lines, funD_G (k := 6) F scgap_lines fun cdv A outer s H E hr wh => ?_, F.kp, bn⟩
  exact m_seq (m_expr (m_callG Gneed_row_with_ring wh hr (by omega) (m_cons (m_var 0) (m_nil)))) (m_seq (m_expr (m_callG Gneed_ring wh hr (by omega) (m_cons (m_var 1) (m_nil)))) (m_seq (m_ret (m_tuplec T.z_tuple (m_cons (m_comp wh (m_seqI (m_callG Ggap_numbers wh hr (by omega) (m_cons (m_var 0) (m_cons (m_callG Gstill_row wh hr (by omega) (m_cons (m_var 1) (m_nil))) (m_nil))))) (blk_of (own := [("start", 2), ("slope", 3)]) (by rfl)) (m_oT2 2 3 wh.nd wh.calm) (m_t0) (fun _ _ _ _ _ => m_callG Gwhole_line (wh_blk wh) hr (by omega) (m_cons (m_var 2) (m_cons (m_var 3) (m_nil))))) (m_nil)))) (m_end)))
theorem scgap_at : FnScope ["row", "ring", "moment"] ["row", "ring", "moment"] (defScope sgap_at) := ⟨rfl, rfl, rfl, by decide +kernel, rfl, by decide +kernel, by decide +kernel⟩
def bgap_at : Ss := sSeq (sExpr (eCall 1 S_need_row_with_ring (aCons (eV 0) (aNil)))) (sSeq (sExpr (eCall 1 S_need_ring (aCons (eV 1) (aNil)))) (sSeq (sExpr (eCall 1 S_need_moment (aCons (eV 2) (aNil)))) (sSeq (sRet (eCall 2 S_lowest (aCons (eCall 2 S_gap_of (aCons (eCall 2 S_moved_points (aCons (eV 0) (aCons (eV 2) (aNil)))) (aCons (eCall 2 S_moved_points (aCons (eCall 1 S_still_row (aCons (eV 1) (aNil))) (aCons (eV 2) (aNil)))) (aNil)))) (aCons (eOp dIx (eV 2) (eK (.int 1))) (aNil))))) (sEnd))))
def fgap_at : Sf := ofBody 3 0 bgap_at
theorem ggap_at (T : Txt K mg) : Good P w K mg base 7 "gap_at" ["row", "ring", "moment"] fgap_at := by
  obtain ⟨fd, F⟩ := T.F_gap_at
  have bn : Binds K fd ["row", "ring", "moment"] [] := F.bindsN fun _ _ _ _ _ _ us hl => match us, hl with | [_, _, _], _ => rfl
  have Ggap_of := ggap_of (P := P) (w := w) (base := base) T
  have Glowest := glowest (P := P) (w := w) (base := base) T
  have Gmoved_points := gmoved_points (P := P) (w := w) (base := base) T
  have Gneed_moment := gneed_moment (P := P) (w := w) (base := base) T
  have Gneed_ring := gneed_ring (P := P) (w := w) (base := base) T
  have Gneed_row_with_ring := gneed_row_with_ring (P := P) (w := w) (base := base) T
  have Gstill_row := gstill_row (P := P) (w := w) (base := base) T
  refine ⟨_, fd, T.g_gap_at, funD_G (k := 6) F scgap_at fun cdv A outer s H E hr wh => ?_, F.kp, bn⟩
  exact m_seq (m_expr (m_callG Gneed_row_with_ring wh hr (by omega) (m_cons (m_var 0) (m_nil)))) (m_seq (m_expr (m_callG Gneed_ring wh hr (by omega) (m_cons (m_var 1) (m_nil)))) (m_seq (m_expr (m_callG Gneed_moment wh hr (by omega) (m_cons (m_var 2) (m_nil)))) (m_seq (m_ret (m_callG Glowest wh hr (by omega) (m_cons (m_callG Ggap_of wh hr (by omega) (m_cons (m_callG Gmoved_points wh hr (by omega) (m_cons (m_var 0) (m_cons (m_var 2) (m_nil)))) (m_cons (m_callG Gmoved_points wh hr (by omega) (m_cons (m_callG Gstill_row wh hr (by omega) (m_cons (m_var 1) (m_nil))) (m_cons (m_var 2) (m_nil)))) (m_nil)))) (m_cons (m_ix (m_var 2) (m_int)) (m_nil))))) (m_end))))
theorem sc_law_pot : FnScope ["script", "k", "cell"] ["script", "k"] (defScope s_law_pot) := ⟨rfl, rfl, rfl, by decide +kernel, rfl, by decide +kernel, by decide +kernel⟩
theorem g_law_pot (T : Txt K mg) : Good P w K mg base 1 "_law_pot" ["script", "k"] S__law_pot := by
  obtain ⟨fd, F⟩ := T.F__law_pot
  have bn : Binds K fd ["script", "k"] [] := F.bindsN fun _ _ _ _ _ _ us hl => match us, hl with | [_, _], _ => rfl
  refine ⟨_, fd, T.g__law_pot, funD_G (k := 0) F sc_law_pot fun cdv A outer s H E hr wh => ?_, F.kp, bn⟩
  exact m_seq (m_set 2 wh.nd (m_int)) (m_seq (m_ifs (m_lt (m_var 1) (m_len T.z_len (m_cons (m_var 0) (m_nil)))) (m_seq (m_set 2 wh.nd (m_mod (m_abs T.z_abs (m_cons (m_ix (m_var 0) (m_var 1)) (m_nil))) (m_pow (m_pow (m_int) (m_int)) (m_int)))) (m_end)) (m_end)) (m_seq (m_ret (m_lst (m_cons (m_mul (m_var 2) (m_intc T.z_int (m_cons (m_geV (m_var 2) (m_pow (m_int) (m_int))) (m_nil)))) (m_cons (m_mod (m_pow (m_add (m_add (m_mod (m_var 2) (m_int)) (m_mul (m_int) (m_var 1))) (m_int)) (m_int)) (m_int)) (m_cons (m_int) (m_nil)))))) (m_end)))
theorem sc_law_take : FnScope ["pot", "many", "found", "one", "other"] ["pot", "many"] (defScope s_law_take) := ⟨rfl, rfl, rfl, by decide +kernel, rfl, by decide +kernel, by decide +kernel⟩
theorem g_law_take (T : Txt K mg) : Good P w K mg base 1 "_law_take" ["pot", "many"] S__law_take := by
  obtain ⟨fd, F⟩ := T.F__law_take
  have bn : Binds K fd ["pot", "many"] [] := F.bindsN fun _ _ _ _ _ _ us hl => match us, hl with | [_, _], _ => rfl
  refine ⟨_, fd, T.g__law_take, funD_G (k := 0) F sc_law_take fun cdv A outer s H E hr wh => ?_, F.kp, bn⟩
  exact m_seq (m_ifs (m_gt (m_ix (m_var 0) (m_int)) (m_int)) (m_seq (m_set 2 wh.nd (m_mod (m_ix (m_var 0) (m_int)) (m_var 1))) (m_seq (m_put (m_fdiv (m_ix (m_var 0) (m_int)) (m_var 1)) (m_var 0) (m_int) (fun _ => rfl)) (m_seq (m_ret (m_var 2)) (m_end)))) (m_end)) (m_seq (m_put (m_add (m_ix (m_var 0) (m_int)) (m_int)) (m_var 0) (m_int) (fun _ => rfl)) (m_seq (m_set 3 wh.nd (m_mod (m_pow (m_add (m_ix (m_var 0) (m_int)) (m_mul (m_int) (m_ix (m_var 0) (m_int)))) (m_int)) (m_int))) (m_seq (m_set 4 wh.nd (m_mod (m_pow (m_add (m_add (m_var 3) (m_mod (m_ix (m_var 0) (m_int)) (m_int))) (m_mul (m_int) (m_ix (m_var 0) (m_int)))) (m_int)) (m_int))) (m_seq (m_ret (m_mod (m_fdiv (m_var 4) (m_int)) (m_var 1))) (m_end)))))
theorem sc_law_great : FnScope ["pot", "many", "parts", "turn"] ["pot", "many"] (defScope s_law_great) := ⟨rfl, rfl, rfl, by decide +kernel, rfl, by decide +kernel, by decide +kernel⟩
theorem g_law_great (T : Txt K mg) : Good P w K mg base 2 "_law_great" ["pot", "many"] S__law_great_2 := by
  obtain ⟨fd, F⟩ := T.F__law_great
  have bn : Binds K fd ["pot", "many"] [] := F.bindsN fun _ _ _ _ _ _ us hl => match us, hl with | [_, _], _ => rfl
  have G_law_take := g_law_take (P := P) (w := w) (base := base) T
  refine ⟨_, fd, T.g__law_great, funD_G (k := 1) F sc_law_great fun cdv A outer s H E hr wh => ?_, F.kp, bn⟩
  exact m_seq (m_ifs (m_lt (m_var 1) (m_pow (m_int) (m_int))) (m_seq (m_ret (m_callG G_law_take wh hr (by omega) (m_cons (m_var 0) (m_cons (m_var 1) (m_nil))))) (m_end)) (m_end)) (m_seq (m_setC 2 wh (m_range T.z_range (m_cons (m_int) (m_nil))) (blk_of (own := [("turn", 3)]) (by rfl)) (m_oN 3 wh.nd) (m_t0) (fun _ _ _ _ _ => m_callG G_law_take (wh_blk wh) hr (by omega) (m_cons (m_var 0) (m_cons (m_pow (m_int) (m_int)) (m_nil)))) (by rfl)) (m_seq (m_ret (m_mod (m_add (m_add (m_mul (m_ix (m_var 2) (m_int)) (m_pow (m_int) (m_int))) (m_mul (m_ix (m_var 2) (m_int)) (m_pow (m_int) (m_int)))) (m_ix (m_var 2) (m_int))) (m_var 1))) (m_end)))
theorem sc_law_lowest : FnScope ["over", "under", "one", "other"] ["over", "under"] (defScope s_law_lowest) := ⟨rfl, rfl, rfl, by decide +kernel, rfl, by decide +kernel, by decide +kernel⟩
theorem g_law_lowest (T : Txt K mg) : Good P w K mg base 1 "_law_lowest" ["over", "under"] S__law_lowest := by
  obtain ⟨fd, F⟩ := T.F__law_lowest
  have bn : Binds K fd ["over", "under"] [] := F.bindsN fun _ _ _ _ _ _ us hl => match us, hl with | [_, _], _ => rfl
  refine ⟨_, fd, T.g__law_lowest, funD_G (k := 0) F sc_law_lowest fun cdv A outer s H E hr wh => ?_, F.kp, bn⟩
  exact m_seq (m_par 2 3 wh (m_cons (m_abs T.z_abs (m_cons (m_var 0) (m_nil))) (m_cons (m_var 1) (m_nil)))) (m_seq (m_while wh (m_ne hr.units (m_var 3) (m_int)) (m_seq (m_par 2 3 wh (m_cons (m_var 3) (m_cons (m_mod (m_var 2) (m_var 3)) (m_nil)))) (m_end))) (m_seq (m_ret (m_tup (m_cons (m_fdiv (m_var 0) (m_var 2)) (m_cons (m_fdiv (m_var 1) (m_var 2)) (m_nil))))) (m_end)))
theorem sc_law_moment : FnScope ["pot", "top", "way", "under"] ["pot", "top"] (defScope s_law_moment) := ⟨rfl, rfl, rfl, by decide +kernel, rfl, by decide +kernel, by decide +kernel⟩
theorem g_law_moment (T : Txt K mg) : Good P w K mg base 3 "_law_moment" ["pot", "top"] S__law_moment_2 := by
  obtain ⟨fd, F⟩ := T.F__law_moment
  have bn : Binds K fd ["pot", "top"] [] := F.bindsN fun _ _ _ _ _ _ us hl => match us, hl with | [_, _], _ => rfl
  have G_law_great := g_law_great (P := P) (w := w) (base := base) T
  have G_law_lowest := g_law_lowest (P := P) (w := w) (base := base) T
  have G_law_take := g_law_take (P := P) (w := w) (base := base) T
  refine ⟨_, fd, T.g__law_moment, funD_G (k := 2) F sc_law_moment fun cdv A outer s H E hr wh => ?_, F.kp, bn⟩
  exact m_seq (m_set 2 wh.nd (m_callG G_law_take wh hr (by omega) (m_cons (m_var 0) (m_cons (m_int) (m_nil))))) (m_seq (m_ifs (m_eq hr.units (m_var 2) (m_int)) (m_seq (m_ret (m_ix (m_lst (m_cons (m_tup (m_cons (m_int) (m_cons (m_int) (m_nil)))) (m_cons (m_tup (m_cons (m_var 1) (m_cons (m_int) (m_nil)))) (m_nil)))) (m_callG G_law_take wh hr (by omega) (m_cons (m_var 0) (m_cons (m_int) (m_nil)))))) (m_end)) (m_end)) (m_seq (m_set 3 wh.nd (m_add (m_int) (m_callG G_law_great wh hr (by omega) (m_cons (m_var 0) (m_cons (m_ix (m_lst (m_cons (m_int) (m_cons (m_int) (m_cons (m_int) (m_cons (m_int) (m_cons (m_int) (m_cons (m_int) (m_cons (m_pow (m_int) (m_int)) (m_nil))))))))) (m_sub (m_var 2) (m_int))) (m_nil)))))) (m_seq (m_ret (m_callG G_law_lowest wh hr (by omega) (m_cons (m_callG G_law_great wh hr (by omega) (m_cons (m_var 0) (m_cons (m_add (m_mul (m_var 1) (m_var 3)) (m_int)) (m_nil)))) (m_cons (m_var 3) (m_nil))))) (m_end))))
theorem sc_law_cross : FnScope ["a", "b", "c"] ["a", "b", "c"] (defScope s_law_cross) := ⟨rfl, rfl, rfl, by decide +kernel, rfl, by decide +kernel, by decide +kernel⟩
theorem g_law_cross (T : Txt K mg) : Good P w K mg base 1 "_law_cross" ["a", "b", "c"] S__law_cross := by
  obtain ⟨fd, F⟩ := T.F__law_cross
  have bn : Binds K fd ["a", "b", "c"] [] := F.bindsN fun _ _ _ _ _ _ us hl => match us, hl with | [_, _, _], _ => rfl
  refine ⟨_, fd, T.g__law_cross, funD_G (k := 0) F sc_law_cross fun cdv A outer s H E hr wh => ?_, F.kp, bn⟩
  exact m_seq (m_ret (m_sub (m_mul (m_sub (m_ix (m_var 1) (m_int)) (m_ix (m_var 0) (m_int))) (m_sub (m_ix (m_var 2) (m_int)) (m_ix (m_var 0) (m_int)))) (m_mul (m_sub (m_ix (m_var 1) (m_int)) (m_ix (m_var 0) (m_int))) (m_sub (m_ix (m_var 2) (m_int)) (m_ix (m_var 0) (m_int)))))) (m_end)
theorem sc_law_half_hull : FnScope ["points", "found", "point"] ["points"] (defScope s_law_half_hull) := ⟨rfl, rfl, rfl, by decide +kernel, rfl, by decide +kernel, by decide +kernel⟩
theorem g_law_half_hull (T : Txt K mg) : Good P w K mg base 2 "_law_half_hull" ["points"] S__law_half_hull := by
  obtain ⟨fd, F⟩ := T.F__law_half_hull
  have bn : Binds K fd ["points"] [] := F.bindsN fun _ _ _ _ _ _ us hl => match us, hl with | [_], _ => rfl
  have G_law_cross := g_law_cross (P := P) (w := w) (base := base) T
  refine ⟨_, fd, T.g__law_half_hull, funD_G (k := 1) F sc_law_half_hull fun cdv A outer s H E hr wh => ?_, F.kp, bn⟩
  exact m_seq (m_set 1 wh.nd (m_lst (m_nil))) (m_seq (m_for wh (m_seqI (m_var 0)) (m_tgN 2 wh.nd) (m_seq (m_while wh (m_w (m_and (m_gt (m_len T.z_len (m_cons (m_var 1) (m_nil))) (m_int)) (m_and1 (m_le (m_callG G_law_cross wh hr (by omega) (m_cons (m_ix (m_var 1) (m_neg (m_int))) (m_cons (m_ix (m_var 1) (m_neg (m_int))) (m_cons (m_var 2) (m_nil))))) (m_int))))) (m_seq (m_expr (m_pop (m_var 1))) (m_end))) (m_seq (m_expr (m_app (m_var 1) (m_var 2))) (m_end)))) (m_seq (m_ret (m_var 1)) (m_end)))
theorem sc_law_hull : FnScope ["points", "some"] ["points"] (defScope s_law_hull) := ⟨rfl, rfl, rfl, by decide +kernel, rfl, by decide +kernel, by decide +kernel⟩
theorem g_law_hull (T : Txt K mg) : Good P w K mg base 3 "_law_hull" ["points"] S__law_hull := by
  obtain ⟨fd, F⟩ := T.F__law_hull
  have bn : Binds K fd ["points"] [] := F.bindsN fun _ _ _ _ _ _ us hl => match us, hl with | [_], _ => rfl
  have G_law_half_hull := g_law_half_hull (P := P) (w := w) (base := base) T
  refine ⟨_, fd, T.g__law_hull, funD_G (k := 2) F sc_law_hull fun cdv A outer s H E hr wh => ?_, F.kp, bn⟩
  exact m_seq (m_set 1 wh.nd (m_soSe wh.calm hr.units T.z_set T.z_sorted (m_var 0))) (m_seq (m_ifs (m_lt (m_len T.z_len (m_cons (m_var 1) (m_nil))) (m_int)) (m_seq (m_ret (m_var 1)) (m_end)) (m_end)) (m_seq (m_ret (m_add (m_cut (m_callG G_law_half_hull wh hr (by omega) (m_cons (m_var 1) (m_nil))) (m_ono) (m_oso (m_neg (m_int)))) (m_cut (m_callG G_law_half_hull wh hr (by omega) (m_cons (m_back (m_var 1)) (m_nil))) (m_ono) (m_oso (m_neg (m_int)))))) (m_end)))
theorem sc_law_ring : FnScope ["pot", "top", "many", "points", "hull", "first", "k"] ["pot", "top"] (defScope s_law_ring) := ⟨rfl, rfl, rfl, by decide +kernel, rfl, by decide +kernel, by decide +kernel⟩
theorem g_law_ring (T : Txt K mg) : Good P w K mg base 4 "_law_ring" ["pot", "top"] S__law_ring := by
  obtain ⟨fd, F⟩ := T.F__law_ring
  have bn : Binds K fd ["pot", "top"] [] := F.bindsN fun _ _ _ _ _ _ us hl => match us, hl with | [_, _], _ => rfl
  have G_law_hull := g_law_hull (P := P) (w := w) (base := base) T
  have G_law_take := g_law_take (P := P) (w := w) (base := base) T
  refine ⟨_, fd, T.g__law_ring, funD_G (k := 3) F sc_law_ring fun cdv A outer s H E hr wh => ?_, F.kp, bn⟩
  exact m_seq (m_ifs (m_eq hr.units (m_callG G_law_take wh hr (by omega) (m_cons (m_var 0) (m_cons (m_int) (m_nil)))) (m_int)) (m_seq (m_set 1 wh.nd (m_pow (m_int) (m_int))) (m_end)) (m_end)) (m_seq (m_set 2 wh.nd (m_ix (m_lst (m_cons (m_int) (m_cons (m_int) (m_cons (m_int) (m_cons (m_int) (m_cons (m_int) (m_cons (m_add (m_int) (m_callG G_law_take wh hr (by omega) (m_cons (m_var 0) (m_cons (m_int) (m_nil))))) (m_nil)))))))) (m_callG G_law_take wh hr (by omega) (m_cons (m_var 0) (m_cons (m_int) (m_nil)))))) (m_seq (m_setC 3 wh (m_range T.z_range (m_cons (m_var 2) (m_nil))) (blk_of (own := [("k", 6)]) (by rfl)) (m_oN 6 wh.nd) (m_t0) (fun _ _ _ _ _ => m_tup (m_cons (m_sub (m_callG G_law_take (wh_blk wh) hr (by omega) (m_cons (m_var 0) (m_cons (m_add (m_mul (m_int) (m_var 1)) (m_int)) (m_nil)))) (m_var 1)) (m_cons (m_sub (m_callG G_law_take (wh_blk wh) hr (by omega) (m_cons (m_var 0) (m_cons (m_add (m_mul (m_int) (m_var 1)) (m_int)) (m_nil)))) (m_var 1)) (m_nil)))) (by rfl)) (m_seq (m_set 4 wh.nd (m_callG G_law_hull wh hr (by omega) (m_cons (m_var 3) (m_nil)))) (m_seq (m_set 5 wh.nd (m_callG G_law_take wh hr (by omega) (m_cons (m_var 0) (m_cons (m_len T.z_len (m_cons (m_var 4) (m_nil))) (m_nil))))) (m_seq (m_ret (m_tuplec T.z_tuple (m_cons (m_add (m_cut (m_var 4) (m_oso (m_var 5)) (m_ono)) (m_cut (m_var 4) (m_ono) (m_oso (m_var 5)))) (m_nil)))) (m_end))))))
theorem sc_law_pace : FnScope ["pot", "top"] ["pot"] (defScope s_law_pace) := ⟨rfl, rfl, rfl, by decide +kernel, rfl, by decide +kernel, by decide +kernel⟩
theorem g_law_pace (T : Txt K mg) : Good P w K mg base 2 "_law_pace" ["pot"] S__law_pace := by
  obtain ⟨fd, F⟩ := T.F__law_pace
  have bn : Binds K fd ["pot"] [] := F.bindsN fun _ _ _ _ _ _ us hl => match us, hl with | [_], _ => rfl
  have G_law_take := g_law_take (P := P) (w := w) (base := base) T
  refine ⟨_, fd, T.g__law_pace, funD_G (k := 1) F sc_law_pace fun cdv A outer s H E hr wh => ?_, F.kp, bn⟩
  exact m_seq (m_set 1 wh.nd (m_ix (m_lst (m_cons (m_int) (m_cons (m_int) (m_cons (m_int) (m_cons (m_int) (m_cons (m_int) (m_cons (m_int) (m_cons (m_int) (m_cons (m_pow (m_int) (m_int)) (m_nil)))))))))) (m_callG G_law_take wh hr (by omega) (m_cons (m_var 0) (m_cons (m_int) (m_nil)))))) (m_seq (m_ret (m_tup (m_cons (m_sub (m_callG G_law_take wh hr (by omega) (m_cons (m_var 0) (m_cons (m_add (m_mul (m_int) (m_var 1)) (m_int)) (m_nil)))) (m_var 1)) (m_cons (m_sub (m_callG G_law_take wh hr (by omega) (m_cons (m_var 0) (m_cons (m_add (m_mul (m_int) (m_var 1)) (m_int)) (m_nil)))) (m_var 1)) (m_nil))))) (m_end))
theorem sc_law_at : FnScope ["row", "t", "gone", "x", "y"] ["row", "t"] (defScope s_law_at) := ⟨rfl, rfl, rfl, by decide +kernel, rfl, by decide +kernel, by decide +kernel⟩
theorem g_law_at (T : Txt K mg) : Good P w K mg base 1 "_law_at" ["row", "t"] S__law_at := by
  obtain ⟨fd, F⟩ := T.F__law_at
  have bn : Binds K fd ["row", "t"] [] := F.bindsN fun _ _ _ _ _ _ us hl => match us, hl with | [_, _], _ => rfl
  refine ⟨_, fd, T.g__law_at, funD_G (k := 0) F sc_law_at fun cdv A outer s H E hr wh => ?_, F.kp, bn⟩
  exact m_seq (m_ifs (m_w (m_or (m_isN (m_var 0) (m_non)) (m_or1 (m_isN (m_ix (m_var 0) (m_int)) (m_non))))) (m_seq (m_ret (m_non)) (m_end)) (m_end)) (m_seq (m_set 2 wh.nd (m_sub (m_ix (m_var 1) (m_int)) (m_mul (m_ix (m_var 0) (m_int)) (m_ix (m_var 1) (m_int))))) (m_seq (m_ret (m_comp wh (m_seqI (m_ix (m_var 0) (m_int))) (blk_of (own := [("x", 3), ("y", 4)]) (by rfl)) (m_oT2 3 4 wh.nd wh.calm) (m_t0) (fun _ _ _ _ _ => m_tup (m_cons (m_add (m_mul (m_var 3) (m_ix (m_var 1) (m_int))) (m_mul (m_ix (m_ix (m_var 0) (m_int)) (m_int)) (m_var 2))) (m_cons (m_add (m_mul (m_var 4) (m_ix (m_var 1) (m_int))) (m_mul (m_ix (m_ix (m_var 0) (m_int)) (m_int)) (m_var 2))) (m_nil)))))) (m_end)))
theorem sc_law_gap : FnScope ["one", "other", "found", "k", "a", "b", "corner"] ["one", "other"] (defScope s_law_gap) := ⟨rfl, rfl, rfl, by decide +kernel, rfl, by decide +kernel, by decide +kernel⟩
theorem g_law_gap (T : Txt K mg) : Good P w K mg base 1 "_law_gap" ["one", "other"] S__law_gap := by
  obtain ⟨fd, F⟩ := T.F__law_gap
  have bn : Binds K fd ["one", "other"] [] := F.bindsN fun _ _ _ _ _ _ us hl => match us, hl with | [_, _], _ => rfl
  refine ⟨_, fd, T.g__law_gap, funD_G (k := 0) F sc_law_gap fun cdv A outer s H E hr wh => ?_, F.kp, bn⟩
  exact m_seq (m_set 2 wh.nd (m_lst (m_cons (m_int) (m_nil)))) (m_seq (m_for wh (m_range T.z_range (m_cons (m_int) (m_nil))) (m_tgN 3 wh.nd) (m_seq (m_par 4 5 wh (m_cons (m_comp wh (m_seqI (m_var 0)) (blk_of (own := [("corner", 6)]) (by rfl)) (m_oN 6 wh.nd) (m_t0) (fun _ _ _ _ _ => m_ix (m_var 6) (m_var 3))) (m_cons (m_comp wh (m_seqI (m_var 1)) (blk_of (own := [("corner", 6)]) (by rfl)) (m_oN 6 wh.nd) (m_t0) (fun _ _ _ _ _ => m_ix (m_var 6) (m_var 3))) (m_nil)))) (m_seq (m_set 2 wh.nd (m_add (m_var 2) (m_lst (m_cons (m_sub (m_minL wh.calm T.z_min (m_cons (m_var 5) (m_nil))) (m_maxL wh.calm T.z_max (m_cons (m_var 4) (m_nil)))) (m_cons (m_sub (m_minL wh.calm T.z_min (m_cons (m_var 4) (m_nil))) (m_maxL wh.calm T.z_max (m_cons (m_var 5) (m_nil)))) (m_nil)))))) (m_end)))) (m_seq (m_ret (m_maxL wh.calm T.z_max (m_cons (m_var 2) (m_nil)))) (m_end)))
theorem sc_law_due : FnScope ["row", "ring", "moment", "shape", "pace", "found", "k", "a", "b", "gone", "whole", "gain", "corner"] ["row", "ring"] (defScope s_law_due) := ⟨rfl, rfl, rfl, by decide +kernel, rfl, by decide +kernel, by decide +kernel⟩
def b_law_due : Ss := sSeq (sAsg (eV 0) (tgT [2, 3, 4])) (sSeq (sAsg (eLst (aCons (eTup (aCons (eK (.int 0)) (aCons (eK (.int 0)) (aNil)))) (aNil))) (tgN 5)) (sSeq (sFor (tgN 6) (iRange (aCons (eK (.int 2)) (aNil))) (sSeq (sPar 7 8 (aCons (eComp (iSeq (eV 1)) [12] (tgN 12) (cYes) (eOp dIx (eV 12) (eV 6))) (aCons (eComp (iSeq (eV 3)) [12] (tgN 12) (cYes) (eOp dIx (eV 12) (eV 6))) (aNil)))) (sSeq (sAsg (eOp dMul (eOp dIx (eV 4) (eV 6)) (eV 2)) (tgN 9)) (sSeq (sAsg (eOp dAdd (eV 5) (eLst (aCons (eTup (aCons (eOp dAdd (eOp dSub (eBi gMinL (aCons (eV 7) (aNil))) (eBi gMaxL (aCons (eV 8) (aNil)))) (eV 9)) (aCons (eOp dSub (eK (.int 0)) (eOp dIx (eV 4) (eV 6))) (aNil)))) (aCons (eTup (aCons (eOp dSub (eOp dSub (eBi gMinL (aCons (eV 8) (aNil))) (eBi gMaxL (aCons (eV 7) (aNil)))) (eV 9)) (aCons (eOp dIx (eV 4) (eV 6)) (aNil)))) (aNil))))) (tgN 5)) (sEnd))))) (sSeq (sRet (eBi gTuple (aCons (eComp (iSeq (eV 5)) [10, 11] (tgT [10, 11]) (cYes) (eTup (aCons (eTup (aCons (eV 10) (aCons (eK (.int 1)) (aNil)))) (aCons (eTup (aCons (eV 11) (aCons (eK (.int 1)) (aNil)))) (aNil))))) (aNil)))) (sEnd))))
def f_law_due : Sf := ofBody 2 11 b_law_due
theorem g_law_due (T : Txt K mg) : Good P w K mg base 1 "_law_due" ["row", "ring"] f_law_due := by
  obtain ⟨fd, F⟩ := T.F__law_due
  have bn : Binds K fd ["row", "ring"] [] := F.bindsN fun _ _ _ _ _ _ us hl => match us, hl with | [_, _], _ => rfl
  refine ⟨_, fd, T.g__law_due, funD_G (k := 0) F sc_law_due fun cdv A outer s H E hr wh => ?_, F.kp, bn⟩
  exact m_seq (m_asg (m_var 0) (m_tgT wh.calm (m_gcons 2 wh.nd (m_gcons 3 wh.nd (m_gcons 4 wh.nd (m_gnil)))))) (m_seq (m_set 5 wh.nd (m_lst (m_cons (m_tup (m_cons (m_int) (m_cons (m_int) (m_nil)))) (m_nil)))) (m_seq (m_for wh (m_range T.z_range (m_cons (m_int) (m_nil))) (m_tgN 6 wh.nd) (m_seq (m_par 7 8 wh (m_cons (m_comp wh (m_seqI (m_var 1)) (blk_of (own := [("corner", 12)]) (by rfl)) (m_oN 12 wh.nd) (m_t0) (fun _ _ _ _ _ => m_ix (m_var 12) (m_var 6))) (m_cons (m_comp wh (m_seqI (m_var 3)) (blk_of (own := [("corner", 12)]) (by rfl)) (m_oN 12 wh.nd) (m_t0) (fun _ _ _ _ _ => m_ix (m_var 12) (m_var 6))) (m_nil)))) (m_seq (m_set 9 wh.nd (m_mul (m_ix (m_var 4) (m_var 6)) (m_var 2))) (m_seq (m_set 5 wh.nd (m_add (m_var 5) (m_lst (m_cons (m_tup (m_cons (m_add (m_sub (m_minL wh.calm T.z_min (m_cons (m_var 7) (m_nil))) (m_maxL wh.calm T.z_max (m_cons (m_var 8) (m_nil)))) (m_var 9)) (m_cons (m_sub (m_int) (m_ix (m_var 4) (m_var 6))) (m_nil)))) (m_cons (m_tup (m_cons (m_sub (m_sub (m_minL wh.calm T.z_min (m_cons (m_var 8) (m_nil))) (m_maxL wh.calm T.z_max (m_cons (m_var 7) (m_nil)))) (m_var 9)) (m_cons (m_ix (m_var 4) (m_var 6)) (m_nil)))) (m_nil)))))) (m_end))))) (m_seq (m_ret (m_tuplec T.z_tuple (m_cons (m_comp wh (m_seqI (m_var 5)) (blk_of (own := [("whole", 10), ("gain", 11)]) (by rfl)) (m_oT2 10 11 wh.nd wh.calm) (m_t0) (fun _ _ _ _ _ => m_tup (m_cons (m_tup (m_cons (m_var 10) (m_cons (m_int) (m_nil)))) (m_cons (m_tup (m_cons (m_var 11) (m_cons (m_int) (m_nil)))) (m_nil))))) (m_nil)))) (m_end))))
theorem sc_law_gap_right : FnScope ["row", "ring", "told", "t", "stands", "due", "x", "y", "whole", "gain"] ["row", "ring", "told", "t"] (defScope s_law_gap_right) := ⟨rfl, rfl, rfl, by decide +kernel, rfl, by decide +kernel, by decide +kernel⟩
def b_law_gap_right : Ss := sSeq (sAsg (eComp (iSeq (eV 1)) [6, 7] (tgT [6, 7]) (cYes) (eTup (aCons (eOp dMul (eV 6) (eOp dIx (eV 3) (eK (.int 1)))) (aCons (eOp dMul (eV 7) (eOp dIx (eV 3) (eK (.int 1)))) (aNil))))) (tgN 4)) (sSeq (sAsg (eCall 2 S__law_gap (aCons (eCall 2 S__law_at (aCons (eV 0) (aCons (eV 3) (aNil)))) (aCons (eV 4) (aNil)))) (tgN 5)) (sSeq (sIf (bOf (eOp (dEqs true) (eBi gRepr (aCons (eCall 3 fgap_at (aCons (eV 0) (aCons (eV 1) (aCons (eV 3) (aNil))))) (aNil))) (eBi gRepr (aCons (eCall 2 S__law_lowest (aCons (eV 5) (aCons (eOp dIx (eV 3) (eK (.int 1))) (aNil)))) (aNil))))) (sSeq (sRet (eK (.bl false))) (sEnd)) (sEnd)) (sSeq (sRet (eOp (dEqs false) (eBi gMaxL (aCons (eComp (iSeq (eV 2)) [8, 9] (tgT [8, 9]) (cYes) (eOp dAdd (eOp dMul (eOp dIx (eV 8) (eK (.int 0))) (eOp dIx (eV 3) (eK (.int 1)))) (eOp dMul (eOp dIx (eV 9) (eK (.int 0))) (eOp dIx (eV 3) (eK (.int 0)))))) (aNil))) (eV 5))) (sEnd))))
def f_law_gap_right : Sf := ofBody 4 6 b_law_gap_right
theorem g_law_gap_right (T : Txt K mg) : Good P w K mg base 8 "_law_gap_right" ["row", "ring", "told", "t"] f_law_gap_right := by
  obtain ⟨fd, F⟩ := T.F__law_gap_right
  have bn : Binds K fd ["row", "ring", "told", "t"] [] := F.bindsN fun _ _ _ _ _ _ us hl => match us, hl with | [_, _, _, _], _ => rfl
  have G_law_at := g_law_at (P := P) (w := w) (base := base) T
  have G_law_gap := g_law_gap (P := P) (w := w) (base := base) T
  have G_law_lowest := g_law_lowest (P := P) (w := w) (base := base) T
  have Ggap_at := ggap_at (P := P) (w := w) (base := base) T
  refine ⟨_, fd, T.g__law_gap_right, funD_G (k := 7) F sc_law_gap_right fun cdv A outer s H E hr wh => ?_, F.kp, bn⟩
  exact m_seq (m_setC 4 wh (m_seqI (m_var 1)) (blk_of (own := [("x", 6), ("y", 7)]) (by rfl)) (m_oT2 6 7 wh.nd wh.calm) (m_t0) (fun _ _ _ _ _ => m_tup (m_cons (m_mul (m_var 6) (m_ix (m_var 3) (m_int))) (m_cons (m_mul (m_var 7) (m_ix (m_var 3) (m_int))) (m_nil)))) (by rfl)) (m_seq (m_set 5 wh.nd (m_callG G_law_gap wh hr (by omega) (m_cons (m_callG G_law_at wh hr (by omega) (m_cons (m_var 0) (m_cons (m_var 3) (m_nil)))) (m_cons (m_var 4) (m_nil))))) (m_seq (m_ifs (m_ne hr.units (m_repr wh hr.units T.z_repr (m_cons (m_callG Ggap_at wh hr (by omega) (m_cons (m_var 0) (m_cons (m_var 1) (m_cons (m_var 3) (m_nil))))) (m_nil))) (m_repr wh hr.units T.z_repr (m_cons (m_callG G_law_lowest wh hr (by omega) (m_cons (m_var 5) (m_cons (m_ix (m_var 3) (m_int)) (m_nil)))) (m_nil)))) (m_seq (m_ret (m_bl)) (m_end)) (m_end)) (m_seq (m_ret (m_eqV hr.units (m_maxL wh.calm T.z_max (m_cons (m_comp wh (m_seqI (m_var 2)) (blk_of (own := [("whole", 8), ("gain", 9)]) (by rfl)) (m_oT2 8 9 wh.nd wh.calm) (m_t0) (fun _ _ _ _ _ => m_add (m_mul (m_ix (m_var 8) (m_int)) (m_ix (m_var 3) (m_int))) (m_mul (m_ix (m_var 9) (m_int)) (m_ix (m_var 3) (m_int))))) (m_nil))) (m_var 5))) (m_end))))
theorem sc_law_right : FnScope ["pot", "row", "ring", "kept", "told", "top", "at", "begun"] ["pot"] (defScope s_law_right) := ⟨rfl, rfl, rfl, by decide +kernel, rfl, by decide +kernel, by decide +kernel⟩
def b_law_right : Ss := sSeq (sAsg (eTup (aCons (eCall 2 S__law_take (aCons (eV 0) (aCons (eK (.int 13)) (aNil)))) (aCons (eCall 2 S__law_ring (aCons (eV 0) (aCons (eK (.int 9)) (aNil)))) (aCons (eCall 1 S__law_pace (aCons (eV 0) (aNil))) (aNil))))) (tgN 1)) (sSeq (sAsg (eCall 2 S__law_ring (aCons (eV 0) (aCons (eK (.int 9)) (aNil)))) (tgN 2)) (sSeq (sAsg (eBi gRepr (aCons (eTup (aCons (eV 1) (aCons (eV 2) (aNil)))) (aNil))) (tgN 3)) (sSeq (sAsg (eCall 2 fgap_lines (aCons (eV 1) (aCons (eV 2) (aNil)))) (tgN 4)) (sSeq (sIf (bOf (eOp (dEqs true) (eBi gRepr (aCons (eV 4) (aNil))) (eBi gRepr (aCons (eCall 2 f_law_due (aCons (eV 1) (aCons (eV 2) (aNil)))) (aNil))))) (sSeq (sRet (eK (.bl false))) (sEnd)) (sEnd)) (sSeq (sFor (tgN 5) (iSeq (eTup (aCons (eK (.int 12)) (aCons (eK (.int 12)) (aCons (eOp dPow (eK (.int 10)) (eK (.int 6))) (aNil)))))) (sSeq (sIf (bNot (bOf (eCall 4 f_law_gap_right (aCons (eV 1) (aCons (eV 2) (aCons (eV 4) (aCons (eCall 2 S__law_moment_2 (aCons (eV 0) (aCons (eV 5) (aNil)))) (aNil)))))))) (sSeq (sRet (eK (.bl false))) (sEnd)) (sEnd)) (sEnd))) (sSeq (sAsg (eCall 2 S__law_take (aCons (eV 0) (aCons (eBi gLen (aCons (eOp dIx (eV 1) (eK (.int 1))) (aNil))) (aNil)))) (tgN 6)) (sSeq (sAsg (eTup (aCons (eOp dIx (eV 1) (eK (.int 0))) (aCons (eOp dAdd (eCut (eOp dIx (eV 1) (eK (.int 1))) (oSome (eV 6)) (oNone)) (eCut (eOp dIx (eV 1) (eK (.int 1))) (oNone) (oSome (eV 6)))) (aCons (eOp dIx (eV 1) (eK (.int 2))) (aNil))))) (tgN 7)) (sSeq (sRet (eAnd (eOp (dEqs false) (eBi gRepr (aCons (eCall 2 fgap_lines (aCons (eV 7) (aCons (eV 2) (aNil)))) (aNil))) (eBi gRepr (aCons (eV 4) (aNil)))) (eOp (dEqs false) (eBi gRepr (aCons (eTup (aCons (eV 1) (aCons (eV 2) (aNil)))) (aNil))) (eV 3)))) (sEnd)))))))))
def f_law_right : Sf := ofBody 1 7 b_law_right
theorem g_law_right (T : Txt K mg) : Good P w K mg base 9 "_law_right" ["pot"] f_law_right := by
  obtain ⟨fd, F⟩ := T.F__law_right
  have bn : Binds K fd ["pot"] [] := F.bindsN fun _ _ _ _ _ _ us hl => match us, hl with | [_], _ => rfl
  have G_law_due := g_law_due (P := P) (w := w) (base := base) T
  have G_law_gap_right := g_law_gap_right (P := P) (w := w) (base := base) T
  have G_law_moment := g_law_moment (P := P) (w := w) (base := base) T
  have G_law_pace := g_law_pace (P := P) (w := w) (base := base) T
  have G_law_ring := g_law_ring (P := P) (w := w) (base := base) T
  have G_law_take := g_law_take (P := P) (w := w) (base := base) T
  have Ggap_lines := ggap_lines (P := P) (w := w) (base := base) T
  refine ⟨_, fd, T.g__law_right, funD_G (k := 8) F sc_law_right fun cdv A outer s H E hr wh => ?_, F.kp, bn⟩
  exact m_seq (m_set 1 wh.nd (m_tup (m_cons (m_callG G_law_take wh hr (by omega) (m_cons (m_var 0) (m_cons (m_int) (m_nil)))) (m_cons (m_callG G_law_ring wh hr (by omega) (m_cons (m_var 0) (m_cons (m_int) (m_nil)))) (m_cons (m_callG G_law_pace wh hr (by omega) (m_cons (m_var 0) (m_nil))) (m_nil)))))) (m_seq (m_set 2 wh.nd (m_callG G_law_ring wh hr (by omega) (m_cons (m_var 0) (m_cons (m_int) (m_nil))))) (m_seq (m_set 3 wh.nd (m_repr wh hr.units T.z_repr (m_cons (m_tup (m_cons (m_var 1) (m_cons (m_var 2) (m_nil)))) (m_nil)))) (m_seq (m_set 4 wh.nd (m_callG Ggap_lines wh hr (by omega) (m_cons (m_var 1) (m_cons (m_var 2) (m_nil))))) (m_seq (m_ifs (m_ne hr.units (m_repr wh hr.units T.z_repr (m_cons (m_var 4) (m_nil))) (m_repr wh hr.units T.z_repr (m_cons (m_callG G_law_due wh hr (by omega) (m_cons (m_var 1) (m_cons (m_var 2) (m_nil)))) (m_nil)))) (m_seq (m_ret (m_bl)) (m_end)) (m_end)) (m_seq (m_for wh (m_seqI (m_tup (m_cons (m_int) (m_cons (m_int) (m_cons (m_pow (m_int) (m_int)) (m_nil)))))) (m_tgN 5 wh.nd) (m_seq (m_ifs (m_not (m_test (m_callG G_law_gap_right wh hr (by omega) (m_cons (m_var 1) (m_cons (m_var 2) (m_cons (m_var 4) (m_cons (m_callG G_law_moment wh hr (by omega) (m_cons (m_var 0) (m_cons (m_var 5) (m_nil)))) (m_nil)))))))) (m_seq (m_ret (m_bl)) (m_end)) (m_end)) (m_end))) (m_seq (m_set 6 wh.nd (m_callG G_law_take wh hr (by omega) (m_cons (m_var 0) (m_cons (m_len T.z_len (m_cons (m_ix (m_var 1) (m_int)) (m_nil))) (m_nil))))) (m_seq (m_set 7 wh.nd (m_tup (m_cons (m_ix (m_var 1) (m_int)) (m_cons (m_add (m_cut (m_ix (m_var 1) (m_int)) (m_oso (m_var 6)) (m_ono)) (m_cut (m_ix (m_var 1) (m_int)) (m_ono) (m_oso (m_var 6)))) (m_cons (m_ix (m_var 1) (m_int)) (m_nil)))))) (m_seq (m_ret (m_andV (m_eqV hr.units (m_repr wh hr.units T.z_repr (m_cons (m_callG Ggap_lines wh hr (by omega) (m_cons (m_var 7) (m_cons (m_var 2) (m_nil)))) (m_nil))) (m_repr wh hr.units T.z_repr (m_cons (m_var 4) (m_nil)))) (m_one (m_eqV hr.units (m_repr wh hr.units T.z_repr (m_cons (m_tup (m_cons (m_var 1) (m_cons (m_var 2) (m_nil)))) (m_nil))) (m_var 3))))) (m_end)))))))))
def L0 : Ss := sSeq (sIf (bNot (bOf (eCall 1 f_law_right (aCons (eCall 2 S__law_pot (aCons (eV 0) (aCons (eV 1) (aNil)))) (aNil))))) (sSeq (sRet (eK (.bl false))) (sEnd)) (sEnd)) (sEnd)
theorem sclaw : FnScope ["script", "k", "row", "ring", "due"] ["script"] (defScope slaw) := ⟨rfl, rfl, rfl, by decide +kernel, rfl, by decide +kernel, by decide +kernel⟩
def blaw : Ss := sSeq (sFor (tgN 1) (iRange (aCons (eBi gMax (aCons (eK (.int 1)) (aCons (eBi gMin (aCons (eK (.int 63)) (aCons (eBi gLen (aCons (eV 0) (aNil))) (aNil)))) (aNil)))) (aNil))) (L0)) (sSeq (sAsg (eK (.tup [.tup [.int 2, .tup [.tup [.int 0, .int 0], .tup [.int 4, .int 1], .tup [.int 1, .int 3]], .tup [.int 1, .int (-2)]], .tup [.tup [.int 9, .int 9], .tup [.int 12, .int 9]]])) (tgT [2, 3])) (sSeq (sAsg (eK (.tup [.tup [.tup [.int 0, .int 1], .tup [.int 0, .int 1]], .tup [.tup [.int 7, .int 1], .tup [.int (-1), .int 1]], .tup [.tup [.int (-14), .int 1], .tup [.int 1, .int 1]], .tup [.tup [.int 2, .int 1], .tup [.int 2, .int 1]], .tup [.tup [.int (-5), .int 1], .tup [.int (-2), .int 1]]])) (tgN 4)) (sSeq (sRet (eAnd (eOp (dEqs false) (eCall 2 fgap_lines (aCons (eV 2) (aCons (eV 3) (aNil)))) (eV 4)) (eOp (dEqs false) (eCall 3 fgap_at (aCons (eV 2) (aCons (eV 3) (aCons (eK (.tup [.int 5, .int 2])) (aNil))))) (eK (.tup [.int 7, .int 1]))))) (sEnd))))
def flaw : Sf := ofBody 1 4 blaw
theorem glaw (T : Txt K mg) {fd : FuncData} (F : FunD K "law" "law" (defArgs slaw) (defBody slaw) (defScope slaw) [] [] (He.ga K "law") fd) : FnG P w K mg base 10 (He.ga K "law") fd ["script"] flaw := by
  have G_law_pot := g_law_pot (P := P) (w := w) (base := base) T
  have G_law_right := g_law_right (P := P) (w := w) (base := base) T
  have Ggap_at := ggap_at (P := P) (w := w) (base := base) T
  have Ggap_lines := ggap_lines (P := P) (w := w) (base := base) T
  refine funD_G (k := 9) F sclaw fun cdv A outer s H E hr wh => ?_
  exact m_seq (m_for wh (m_range T.z_range (m_cons (m_max wh.calm T.z_max (m_cons (m_int) (m_cons (m_min wh.calm T.z_min (m_cons (m_int) (m_cons (m_len T.z_len (m_cons (m_var 0) (m_nil))) (m_nil)))) (m_nil)))) (m_nil))) (m_tgN 1 wh.nd) (m_seq (m_ifs (m_not (m_test (m_callG G_law_right wh hr (by omega) (m_cons (m_callG G_law_pot wh hr (by omega) (m_cons (m_var 0) (m_cons (m_var 1) (m_nil)))) (m_nil))))) (m_seq (m_ret (m_bl)) (m_end)) (m_end)) (m_end))) (m_seq (m_asg (m_lit (m_tup (m_cons (m_tup (m_cons (m_int) (m_cons (m_tup (m_cons (m_tup (m_cons (m_int) (m_cons (m_int) (m_nil)))) (m_cons (m_tup (m_cons (m_int) (m_cons (m_int) (m_nil)))) (m_cons (m_tup (m_cons (m_int) (m_cons (m_int) (m_nil)))) (m_nil))))) (m_cons (m_tup (m_cons (m_int) (m_cons (m_neg (m_int)) (m_nil)))) (m_nil))))) (m_cons (m_tup (m_cons (m_tup (m_cons (m_int) (m_cons (m_int) (m_nil)))) (m_cons (m_tup (m_cons (m_int) (m_cons (m_int) (m_nil)))) (m_nil)))) (m_nil)))) rfl) (m_tgT wh.calm (m_gcons 2 wh.nd (m_gcons 3 wh.nd (m_gnil))))) (m_seq (m_set 4 wh.nd (m_lit (m_tup (m_cons (m_tup (m_cons (m_tup (m_cons (m_int) (m_cons (m_int) (m_nil)))) (m_cons (m_tup (m_cons (m_int) (m_cons (m_int) (m_nil)))) (m_nil)))) (m_cons (m_tup (m_cons (m_tup (m_cons (m_int) (m_cons (m_int) (m_nil)))) (m_cons (m_tup (m_cons (m_neg (m_int)) (m_cons (m_int) (m_nil)))) (m_nil)))) (m_cons (m_tup (m_cons (m_tup (m_cons (m_neg (m_int)) (m_cons (m_int) (m_nil)))) (m_cons (m_tup (m_cons (m_int) (m_cons (m_int) (m_nil)))) (m_nil)))) (m_cons (m_tup (m_cons (m_tup (m_cons (m_int) (m_cons (m_int) (m_nil)))) (m_cons (m_tup (m_cons (m_int) (m_cons (m_int) (m_nil)))) (m_nil)))) (m_cons (m_tup (m_cons (m_tup (m_cons (m_neg (m_int)) (m_cons (m_int) (m_nil)))) (m_cons (m_tup (m_cons (m_neg (m_int)) (m_cons (m_int) (m_nil)))) (m_nil)))) (m_nil))))))) rfl)) (m_seq (m_ret (m_andV (m_eqV hr.units (m_callG Ggap_lines wh hr (by omega) (m_cons (m_var 2) (m_cons (m_var 3) (m_nil)))) (m_var 4)) (m_one (m_eqV hr.units (m_callG Ggap_at wh hr (by omega) (m_cons (m_var 2) (m_cons (m_var 3) (m_cons (m_lit (m_tup (m_cons (m_int) (m_cons (m_int) (m_nil)))) rfl) (m_nil))))) (m_lit (m_tup (m_cons (m_int) (m_cons (m_int) (m_nil)))) rfl))))) (m_end))))
end
end K33
end
section
set_option Elab.async false
set_option linter.all false
set_option autoImplicit false
set_option maxRecDepth 100000
set_option maxHeartbeats 4000000
namespace MI
open PySem L2
/-- of two ways: above 0 where the second turns left -/
def vx (d e : Zp) : Int := d.1 * e.2 - d.2 * e.1
def sub (a b : Zp) : Zp := (a.1 - b.1, a.2 - b.2)
def crs (a b c : Zp) : Int := (b.1 - a.1) * (c.2 - a.2) - (b.2 - a.2) * (c.1 - a.1)
/-- ahead in the order, or not at all -/
def pos (d : Zp) : Prop := 0 < d.1 ∨ (d.1 = 0 ∧ 0 < d.2)
def nng (d : Zp) : Prop := 0 < d.1 ∨ (d.1 = 0 ∧ 0 ≤ d.2)
theorem pos.nng {d : Zp} (h : pos d) : nng d := by unfold pos at h; unfold MI.nng; omega
theorem pos_sub {a b : Zp} : pos (sub b a) ↔ zlt a b := by unfold pos sub zlt; dsimp only; omega
theorem nng_sub {a b : Zp} (h : ¬ zlt b a) : nng (sub b a) := by unfold nng sub; unfold zlt at h; dsimp only; omega
theorem vx_id (d e f : Zp) : e.1 * vx d f = d.1 * vx e f + f.1 * vx d e := by unfold vx; grind
theorem vx_anti (d e : Zp) : vx e d = - vx d e := by unfold vx; grind
/-- weak: what turns left, or not at all, of what does -/
theorem tw {d e f : Zp} (pd : nng d) (pe : pos e) (pf : nng f) (h1 : 0 ≤ vx d e) (h2 : 0 ≤ vx e f) : 0 ≤ vx d f := by
  have id := vx_id d e f
  have d1 : 0 ≤ d.1 := by unfold nng at pd; omega
  have f1 : 0 ≤ f.1 := by unfold nng at pf; omega
  have a1 := Int.mul_nonneg d1 h2
  have a2 := Int.mul_nonneg f1 h1
  rcases pe with pe | ⟨e1, e2⟩
  · refine Int.not_lt.mp fun hn => ?_
    have := Int.mul_neg_of_pos_of_neg pe hn
    omega
  · have h2' : 0 ≤ -(e.2 * f.1) := by
      have : vx e f = -(e.2 * f.1) := by unfold vx; rw [e1]; grind
      omega
    have f0 : f.1 = 0 := by
      by_cases c : 0 < f.1
      · have := Int.mul_pos e2 c
        omega
      · omega
    have f2 : 0 ≤ f.2 := by unfold nng at pf; omega
    have : vx d f = d.1 * f.2 := by unfold vx; rw [f0]; grind
    rw [this]
    exact Int.mul_nonneg d1 f2
theorem ts {d e f : Zp} (pd : pos d) (pe : pos e) (pf : pos f) (h1 : 0 < vx d e) (h2 : 0 < vx e f) : 0 < vx d f := by
  have id := vx_id d e f
  have d1 : 0 ≤ d.1 := by unfold pos at pd; omega
  have f1 : 0 ≤ f.1 := by unfold pos at pf; omega
  rcases pe with pe | ⟨e1, e2⟩
  · have d0 : 0 < d.1 := by
      rcases pd with pd | ⟨z1, z2⟩
      · exact pd
      · exfalso
        have : vx d e = -(d.2 * e.1) := by unfold vx; rw [z1]; grind
        have := Int.mul_pos z2 pe
        omega
    have a1 := Int.mul_pos d0 h2
    have a2 := Int.mul_nonneg f1 (show 0 ≤ vx d e by omega)
    refine Int.not_le.mp fun hn => ?_
    have := Int.mul_nonneg (show 0 ≤ e.1 by omega) (show 0 ≤ - vx d f by omega)
    have e3 : e.1 * (- vx d f) = -(e.1 * vx d f) := by grind
    omega
  · exfalso
    have : vx e f = -(e.2 * f.1) := by unfold vx; rw [e1]; grind
    have := Int.mul_nonneg (show 0 ≤ e.2 by omega) f1
    omega
def popW (p : Zp) : List Zp → List Zp
  | t :: s :: r => if crs s t p ≤ 0 then popW p (s :: r) else t :: s :: r
  | l => l
def half (l : List Zp) : List Zp := l.foldl (fun st p => p :: popW p st) []
/-- neighbours: newer, older -/
def Adj (P : Zp → Zp → Prop) : List Zp → Prop
  | t :: s :: r => P s t ∧ Adj P (s :: r)
  | _ => True
/-- each turns left -/
def LT : List Zp → Prop
  | t :: s :: r :: l => 0 < crs r s t ∧ LT (s :: r :: l)
  | _ => True
structure Ch (Q st : List Zp) : Prop where
  dn : st.Pairwise fun x y => zlt y x
  lt : LT st
  sub_ : ∀ z ∈ st, z ∈ Q
  lf : Adj (fun s t => ∀ q ∈ Q, 0 ≤ crs s t q) st
  least : ∀ m, st.getLast? = some m → ∀ q ∈ Q, ¬ zlt q m
  most : ∀ m, st.head? = some m → ∀ q ∈ Q, ¬ zlt m q
end MI
end
section
set_option Elab.async false
set_option linter.all false
set_option autoImplicit false
set_option maxRecDepth 100000
set_option maxHeartbeats 4000000
namespace MI
open PySem L2
theorem zlt_tr0 {a b : Zp} (h1 : ¬ zlt a b) (h2 : ¬ zlt b a) : a = b := by
  obtain ⟨a1, a2⟩ := a; obtain ⟨b1, b2⟩ := b
  unfold zlt at h1 h2; dsimp only at h1 h2
  have : a1 = b1 := by omega
  have : a2 = b2 := by omega
  subst a1 a2; rfl
theorem zlt_as {a b : Zp} (h : zlt a b) : ¬ zlt b a := by unfold zlt at h ⊢; omega
/-- of the newest, what lies ahead lies left of the new edge -/
def Ahd (Q : List Zp) (p : Zp) : List Zp → Prop
  | t :: _ => ∀ q ∈ Q, zlt t q → 0 ≤ crs t p q
  | [] => True
theorem low {p : Zp} : ∀ {l : List Zp} {s t : Zp}, LT (t :: s :: l) → (t :: s :: l).Pairwise (fun x y => zlt y x) →
    (zlt s p) → 0 ≤ crs s t p → Adj (fun a b => 0 ≤ crs a b p) (t :: s :: l)
  | [], s, t, _, _, _, h => ⟨h, trivial⟩
  | r :: l, s, t, hl, hd, hp, h => by
    refine ⟨h, ?_⟩
    have hl' : 0 < crs r s t ∧ LT (s :: r :: l) := hl
    have hd1 := List.pairwise_cons.1 hd
    have hd2 := List.pairwise_cons.1 hd1.2
    have rs : zlt r s := hd2.1 r (by simp)
    have st : zlt s t := hd1.1 s (by simp)
    have rp : zlt r p := by unfold zlt at *; omega
    refine low hl'.2 hd1.2 rp ?_
    have e1 : crs r s t = vx (sub s r) (sub t s) := by unfold crs vx sub; grind
    have e2 : crs r s p = vx (sub s r) (sub p s) := by unfold crs vx sub; grind
    have e3 : crs s t p = vx (sub t s) (sub p s) := rfl
    rw [e2]
    exact tw (pos_sub.2 rs).nng (pos_sub.2 st) (pos_sub.2 hp).nng (by rw [← e1]; omega) (by rw [← e3]; exact h)
theorem Adj.and {P R : Zp → Zp → Prop} : ∀ {l : List Zp}, Adj P l → Adj R l → Adj (fun a b => P a b ∧ R a b) l
  | [], _, _ => trivial
  | [_], _, _ => trivial
  | t :: s :: r, h1, h2 => ⟨⟨h1.1, h2.1⟩, Adj.and (l := s :: r) h1.2 h2.2⟩
theorem Adj.imp {P R : Zp → Zp → Prop} (h : ∀ a b, P a b → R a b) : ∀ {l : List Zp}, Adj P l → Adj R l
  | [], _ => trivial
  | [_], _ => trivial
  | t :: s :: r, h1 => ⟨h _ _ h1.1, Adj.imp h (l := s :: r) h1.2⟩
theorem popW_ch {Q : List Zp} {p : Zp} (hp : ∀ q ∈ Q, zlt q p) : ∀ (st : List Zp), st ≠ [] →
    st.Pairwise (fun x y => zlt y x) → LT st → (∀ z ∈ st, z ∈ Q) → Adj (fun s t => ∀ q ∈ Q, 0 ≤ crs s t q) st →
    (∀ m, st.getLast? = some m → ∀ q ∈ Q, ¬ zlt q m) → Ahd Q p st →
    popW p st <:+ st ∧ popW p st ≠ [] ∧ LT (p :: popW p st) ∧
      Adj (fun s t => ∀ q ∈ p :: Q, 0 ≤ crs s t q) (p :: popW p st)
  | [], h, _, _, _, _, _, _ => absurd rfl h
  | [t], _, hd, hl, hs, ha, hm, h1 => by
    have e : popW p [t] = [t] := by simp [popW]
    rw [e]
    refine ⟨List.suffix_refl _, by simp, trivial, ⟨?_, trivial⟩⟩
    intro q hq
    rcases List.mem_cons.1 hq with rfl | hq
    · have : crs t q q = 0 := by unfold crs; grind
      omega
    · by_cases c : zlt t q
      · exact h1 q hq c
      · have := zlt_tr0 c (hm t rfl q hq)
        subst this
        have : crs t p t = 0 := by unfold crs; grind
        omega
  | t :: s :: r, _, hd, hl, hs, ha, hm, h1 => by
    have hd1 := List.pairwise_cons.1 hd
    have st : zlt s t := hd1.1 s (by simp)
    have sp : zlt s p := hp s (hs s (by simp))
    have tp : zlt t p := hp t (hs t (by simp))
    have ha' : (∀ q ∈ Q, 0 ≤ crs s t q) ∧ Adj (fun s t => ∀ q ∈ Q, 0 ≤ crs s t q) (s :: r) := ha
    by_cases c : crs s t p ≤ 0
    · have e : popW p (t :: s :: r) = popW p (s :: r) := by rw [popW, if_pos c]
      have hl' : LT (s :: r) := by
        cases r with
        | nil => trivial
        | cons u r => exact (show 0 < crs u s t ∧ LT (s :: u :: r) from hl).2
      have ih := popW_ch hp (s :: r) (by simp) hd1.2 hl' (fun z hz => hs z (List.mem_cons_of_mem _ hz)) ha'.2
        (fun m h => hm m (by rw [List.getLast?_cons_cons]; exact h))
        (by
          intro q hq hz
          have k1 : 0 ≤ vx (sub p s) (sub t s) := by
            have := vx_anti (sub t s) (sub p s)
            have : crs s t p = vx (sub t s) (sub p s) := rfl
            omega
          exact tw (pos_sub.2 sp).nng (pos_sub.2 st) (pos_sub.2 hz).nng k1 (ha'.1 q hq))
      rw [e]
      exact ⟨ih.1.trans (List.suffix_cons _ _), ih.2⟩
    · have e : popW p (t :: s :: r) = t :: s :: r := by rw [popW, if_neg c]
      rw [e]
      refine ⟨List.suffix_refl _, by simp, ⟨by omega, hl⟩, ⟨?_, ?_⟩⟩
      · intro q hq
        rcases List.mem_cons.1 hq with rfl | hq
        · have : crs t q q = 0 := by unfold crs; grind
          omega
        · by_cases c1 : zlt t q
          · exact h1 q hq c1
          · by_cases c2 : zlt q t
            · have k0 := ha'.1 q hq
              have k1 : crs s t q = vx (sub t q) (sub t s) := by unfold crs vx sub; grind
              have k2 : crs s t p = vx (sub t s) (sub p t) := by unfold crs vx sub; grind
              have k3 : crs t p q = vx (sub t q) (sub p t) := by unfold crs vx sub; grind
              rw [k3]
              exact tw (pos_sub.2 c2).nng (pos_sub.2 st) (pos_sub.2 tp).nng (by omega) (by omega)
            · have := zlt_tr0 c1 c2
              subst this
              have : crs t p t = 0 := by unfold crs; grind
              omega
      · have k := low (p := p) (l := r) (s := s) (t := t) hl hd sp (by omega)
        refine (k.and ha).imp fun a b h q hq => ?_
        rcases List.mem_cons.1 hq with rfl | hq
        · exact h.1
        · exact h.2 q hq
theorem Ch.put {Q st : List Zp} (h : Ch Q st) (ne : st ≠ []) {p : Zp} (hp : ∀ q ∈ Q, zlt q p) :
    Ch (p :: Q) (p :: popW p st) := by
  obtain ⟨a1, a2, a3, a4⟩ := popW_ch hp st ne h.dn h.lt h.sub_ h.lf h.least (by
    cases st with
    | nil => exact absurd rfl ne
    | cons t r => intro q hq hz; exact absurd hz (h.most t rfl q hq))
  have lst : ∀ m, (popW p st).getLast? = some m → st.getLast? = some m := by
    intro m hm
    obtain ⟨w, hw⟩ := a1
    rw [← hw, List.getLast?_append, hm]; rfl
  constructor
  · exact List.pairwise_cons.2 ⟨fun z hz => hp z (h.sub_ z (a1.subset hz)), h.dn.sublist a1.sublist⟩
  · exact a3
  · intro z hz
    rcases List.mem_cons.1 hz with rfl | hz
    · simp
    · exact List.mem_cons_of_mem _ (h.sub_ z (a1.subset hz))
  · exact a4
  · intro m hm q hq
    obtain ⟨u, v, huv⟩ := List.exists_cons_of_ne_nil a2
    rw [huv, List.getLast?_cons_cons, ← huv] at hm
    have hm' := lst m hm
    have mQ : m ∈ Q := h.sub_ m (List.mem_of_getLast? hm')
    rcases List.mem_cons.1 hq with rfl | hq
    · exact zlt_as (hp m mQ)
    · exact h.least m hm' q hq
  · intro m hm q hq
    have : p = m := by simpa using hm
    subst this
    rcases List.mem_cons.1 hq with rfl | hq
    · unfold zlt; omega
    · exact zlt_as (hp q hq)
theorem Ch.one (p : Zp) : Ch [p] [p] := by
  refine ⟨by simp, trivial, by simp, trivial, ?_, ?_⟩
  · intro m hm q hq
    simp at hm hq; subst hm hq; unfold zlt; omega
  · intro m hm q hq
    simp at hm hq; subst hm hq; unfold zlt; omega
theorem half_snoc (l : List Zp) (p : Zp) : half (l ++ [p]) = p :: popW p (half l) := by
  unfold half; rw [List.foldl_append]; rfl
/-- over strictly rising points the chain is the lower half -/
theorem half_ne {l : List Zp} (h : l ≠ []) : half l ≠ [] := by
  have : l = l.dropLast ++ [l.getLast h] := (List.dropLast_concat_getLast h).symm
  rw [this, half_snoc]; simp
/-- over strictly rising points the chain is the lower half -/
theorem half_ch : ∀ (n : Nat) (l : List Zp), l.length = n → l ≠ [] → l.Pairwise zlt → Ch l.reverse (half l)
  | 0, l, hn, h, _ => absurd (List.length_eq_zero_iff.1 hn) h
  | n + 1, l, hn, h, hp => by
    have e0 : l = l.dropLast ++ [l.getLast h] := (List.dropLast_concat_getLast h).symm
    generalize hk : l.dropLast = k at e0
    generalize l.getLast h = p at e0
    subst e0
    have hpa := List.pairwise_append.1 hp
    rw [half_snoc, List.reverse_append]
    by_cases e : k = []
    · subst e
      exact Ch.one p
    · have c := half_ch n k (by simpa using hn) e hpa.1
      refine Ch.put c (half_ne e) ?_
      intro q hq
      exact hpa.2.2 q (List.mem_reverse.1 hq) p (by simp)
end MI
end
section
set_option Elab.async false
set_option linter.all false
set_option autoImplicit false
set_option maxRecDepth 100000
set_option maxHeartbeats 4000000
namespace MI
open PySem L2
def ng (a : Zp) : Zp := (-a.1, -a.2)
theorem ng_ng (a : Zp) : ng (ng a) = a := by unfold ng; simp
theorem crs_ng (a b c : Zp) : crs (ng a) (ng b) (ng c) = crs a b c := by unfold crs ng; grind
theorem zlt_ng {a b : Zp} : zlt (ng a) (ng b) ↔ zlt b a := by unfold zlt ng; dsimp only; omega
theorem popW_ng (p : Zp) : ∀ l : List Zp, popW (ng p) (l.map ng) = (popW p l).map ng
  | [] => by simp [popW]
  | [t] => by simp [popW]
  | t :: s :: r => by
    have ih := popW_ng p (s :: r)
    simp only [List.map_cons] at ih ⊢
    rw [popW, popW, crs_ng]
    by_cases c : crs s t p ≤ 0
    · rw [if_pos c, if_pos c, ih]
    · rw [if_neg c, if_neg c]; rfl
theorem half_ng (l : List Zp) : half (l.map ng) = (half l).map ng := by
  unfold half
  suffices h : ∀ (l st : List Zp), (l.map ng).foldl (fun st p => p :: popW p st) (st.map ng) = (l.foldl (fun st p => p :: popW p st) st).map ng from h l []
  intro l
  induction l with
  | nil => intro st; rfl
  | cons p l ih => intro st; simp only [List.map_cons, List.foldl_cons]; rw [popW_ng, ← List.map_cons, ih]
theorem up_ng {l : List Zp} (h : l.Pairwise zlt) : (l.reverse.map ng).Pairwise zlt := by
  rw [List.pairwise_map, List.pairwise_reverse]
  exact h.imp fun h => zlt_ng.2 h
/-- all on one line -/
theorem flat_vx {d a c : Zp} (pd : pos d) (h1 : vx d a = 0) (h2 : vx d c = 0) : vx a c = 0 := by
  have id := vx_id a d c
  have h3 : vx a d = 0 := by have := vx_anti d a; omega
  rcases pd with pd | ⟨z1, z2⟩
  · rw [h2, h3] at id
    have : d.1 * vx a c = 0 := by rw [id]; omega
    rcases Int.mul_eq_zero.1 this with e | e
    · omega
    · exact e
  · have k : ∀ w : Zp, vx d w = 0 → w.1 = 0 := by
      intro w hw
      have : vx d w = -(d.2 * w.1) := by unfold vx; rw [z1]; grind
      have : d.2 * w.1 = 0 := by omega
      rcases Int.mul_eq_zero.1 this with e | e
      · omega
      · exact e
    unfold vx; rw [k a h1, k c h2]; omega
theorem LT.short {st : List Zp} (h : LT st) (f : ∀ x ∈ st, ∀ y ∈ st, ∀ z ∈ st, crs x y z = 0) : st.length ≤ 2 := by
  cases st with
  | nil => simp
  | cons t st =>
    cases st with
    | nil => simp
    | cons s st =>
      cases st with
      | nil => simp
      | cons r st =>
        exfalso
        have := h.1
        have := f r (by simp) s (by simp) t (by simp)
        omega
/-- where the lower half ends and the upper begins: a left turn, or all lie on a line -/
theorem meet {Q st up : List Zp} {b t u : Zp} {r r' : List Zp} (h : Ch Q st) (e : st = b :: t :: r)
    (h' : Ch (Q.map ng) (up.map ng)) (e' : up.reverse = b :: u :: r') (hc : crs t b u ≤ 0) :
    st.length = 2 ∧ up.length = 2 := by
  subst e
  have bt : zlt t b := (List.pairwise_cons.1 h.dn).1 t (by simp)
  have eu : up = r'.reverse ++ [u, b] := by
    have := congrArg List.reverse e'
    simpa using this
  have ub : zlt u b := by
    have d := h'.dn
    rw [eu, List.map_append, List.pairwise_append] at d
    have := (List.pairwise_cons.1 d.2.1).1 (ng b) (by simp)
    exact zlt_ng.1 this
  have lo : ∀ q ∈ Q, 0 ≤ crs t b q := h.lf.1
  have adj : ∀ {P : Zp → Zp → Prop} (l : List Zp) (x y : Zp), Adj P (l ++ [x, y]) → P y x := by
    intro P l
    induction l with
    | nil => intro x y h; exact h.1
    | cons a l ih =>
      intro x y h
      cases l with
      | nil => exact h.2.1
      | cons c l => exact ih x y h.2
  have hi : ∀ q ∈ Q, 0 ≤ crs b u q := by
    intro q hq
    have k := h'.lf
    rw [eu, List.map_append] at k
    have := adj _ (ng u) (ng b) k (ng q) (List.mem_map_of_mem hq)
    rwa [crs_ng] at this
  have bq : ∀ q ∈ Q, nng (sub b q) := fun q hq => nng_sub (h.most b rfl q hq)
  have ng_mem : ∀ {x : Zp}, ng x ∈ Q.map ng → x ∈ Q := by
    intro x hx
    obtain ⟨y, hy, e⟩ := List.mem_map.1 hx
    have := congrArg ng e
    rw [ng_ng, ng_ng] at this
    exact this ▸ hy
  have um : ∀ x ∈ up, x ∈ Q := fun x hx => ng_mem (h'.sub_ (ng x) (List.mem_map_of_mem hx))
  have uQ : u ∈ Q := um u (by rw [eu]; simp)
  have de : vx (sub b t) (sub b u) = - crs t b u := by unfold vx sub crs; grind
  have z : ∀ q ∈ Q, vx (sub b t) (sub b q) = 0 := by
    intro q hq
    have k1 : vx (sub b t) (sub b q) = - crs t b q := by unfold vx sub crs; grind
    have k2 : vx (sub b u) (sub b q) = crs b u q := by unfold vx sub crs; grind
    have k3 := lo q hq
    have k4 := hi q hq
    have := tw (pos_sub.2 bt).nng (pos_sub.2 ub) (bq q hq) (by omega) (by omega)
    omega
  have fl : ∀ x ∈ Q, ∀ y ∈ Q, ∀ w ∈ Q, crs x y w = 0 := by
    intro x hx y hy w hw
    have e1 : crs x y w = vx (sub b x) (sub b y) + vx (sub b y) (sub b w) - vx (sub b x) (sub b w) := by
      unfold crs vx sub; grind
    rw [e1, flat_vx (pos_sub.2 bt) (z x hx) (z y hy), flat_vx (pos_sub.2 bt) (z y hy) (z w hw), flat_vx (pos_sub.2 bt) (z x hx) (z w hw)]
    omega
  constructor
  · have := h.lt.short fun x hx y hy w hw => fl x (h.sub_ x hx) y (h.sub_ y hy) w (h.sub_ w hw)
    simp at this ⊢; omega
  · have := h'.lt.short (by
      intro x hx y hy w hw
      obtain ⟨x1, hx1, rfl⟩ := List.mem_map.1 hx
      obtain ⟨y1, hy1, rfl⟩ := List.mem_map.1 hy
      obtain ⟨w1, hw1, rfl⟩ := List.mem_map.1 hw
      rw [crs_ng]
      exact fl x1 (um x1 hx1) y1 (um y1 hy1) w1 (um w1 hw1))
    rw [eu] at this ⊢; simp at this ⊢; omega
end MI
end
section
set_option Elab.async false
set_option linter.all false
set_option autoImplicit false
set_option maxRecDepth 100000
set_option maxHeartbeats 4000000
namespace MI
open PySem L2
def wk : Zp → Zp → List Zp → Prop
  | _, _, [] => True
  | a, b, c :: l => 0 < crs a b c ∧ wk b c l
def ups : Zp → Zp → List Zp → Nat
  | _, _, [] => 0
  | a, b, c :: l => (if b.2 < c.2 ∧ ¬ a.2 < b.2 then 1 else 0) + ups b c l
def en : Zp → Zp → List Zp → Zp × Zp
  | a, b, [] => (a, b)
  | _, b, c :: l => en b c l
theorem wk_app : ∀ (X Y : List Zp) (a b : Zp), wk a b (X ++ Y) ↔ wk a b X ∧ wk (en a b X).1 (en a b X).2 Y
  | [], Y, a, b => by simp [wk, en]
  | c :: X, Y, a, b => by simp only [List.cons_append, wk, en, wk_app X Y, and_assoc]
theorem ups_app : ∀ (X Y : List Zp) (a b : Zp), ups a b (X ++ Y) = ups a b X + ups (en a b X).1 (en a b X).2 Y
  | [], Y, a, b => by simp [ups, en]
  | c :: X, Y, a, b => by simp only [List.cons_append, ups, en, ups_app X Y]; omega
theorem en_app : ∀ (X Y : List Zp) (a b : Zp), en a b (X ++ Y) = en (en a b X).1 (en a b X).2 Y
  | [], Y, a, b => by simp [en]
  | c :: X, Y, a, b => by simp only [List.cons_append, en, en_app X Y]
theorem en_two (X : List Zp) (a b c d : Zp) : en a b (X ++ [c, d]) = (c, d) := by rw [en_app]; rfl
/-- what is asked of three corners or more -/
def Rg (c : List Zp) : Prop := ∃ X a b, c = X ++ [a, b] ∧ wk a b c ∧ ups a b c = 1
theorem Rg.rot1 {x : Zp} {B : List Zp} (h : Rg (x :: B)) : Rg (B ++ [x]) := by
  obtain ⟨X, a, b, e, h1, h2⟩ := h
  have k : (∃ B', B = B' ++ [b]) ∧ en b x B = (a, b) := by
    cases X with
    | nil => 
      simp at e
      obtain ⟨rfl, rfl⟩ := e
      exact ⟨⟨[], rfl⟩, rfl⟩
    | cons y X =>
      simp at e
      obtain ⟨rfl, rfl⟩ := e
      exact ⟨⟨X ++ [a], by simp⟩, en_two X b x a b⟩
  obtain ⟨⟨B', eB⟩, k⟩ := k
  refine ⟨B', b, x, by rw [eB]; simp, ?_, ?_⟩
  · rw [wk_app, k]
    exact ⟨h1.2, h1.1, trivial⟩
  · rw [ups_app, k]
    simp only [ups] at h2 ⊢
    omega
theorem Rg.rot : ∀ {A B : List Zp}, Rg (A ++ B) → Rg (B ++ A)
  | [], B, h => by simpa using h
  | x :: A, B, h => by
    have h1 : Rg ((A ++ B) ++ [x]) := Rg.rot1 (by simpa using h)
    have h2 : Rg (A ++ (B ++ [x])) := by simpa using h1
    have := Rg.rot h2
    simpa using this
theorem LT_snoc : ∀ (P : List Zp) (a b c : Zp), LT (P ++ [c, b, a]) → LT (P ++ [c, b]) ∧ 0 < crs a b c
  | [], a, b, c, h => ⟨trivial, h.1⟩
  | [z], a, b, c, h => ⟨⟨h.1, trivial⟩, h.2.1⟩
  | [z, w], a, b, c, h => ⟨⟨h.1, h.2.1, trivial⟩, h.2.2.1⟩
  | z :: w :: v :: P, a, b, c, h => by
    have := LT_snoc (w :: v :: P) a b c h.2
    exact ⟨⟨h.1, this.1⟩, this.2⟩
theorem wk_LT : ∀ (X : List Zp) (a b : Zp), LT (X.reverse ++ [b, a]) → wk a b X
  | [], _, _, _ => trivial
  | c :: X, a, b, h => by
    have := LT_snoc X.reverse a b c (by simpa using h)
    exact ⟨this.2, wk_LT X b c this.1⟩
theorem wk_ng : ∀ (X : List Zp) (a b : Zp), wk (ng a) (ng b) (X.map ng) → wk a b X
  | [], _, _, _ => trivial
  | c :: X, a, b, h => ⟨by have := h.1; rwa [crs_ng] at this, wk_ng X b c h.2⟩
/-- rising: from not up to up once at most, never back -/
theorem rise : ∀ (X : List Zp) (a b p q : Zp), wk a b X → (a :: b :: X).Pairwise zlt → en a b X = (p, q) →
    (a.2 < b.2 → p.2 < q.2 ∧ a.2 < q.2) ∧ ups a b X = (if p.2 < q.2 ∧ ¬ a.2 < b.2 then 1 else 0) ∧
    (¬ p.2 < q.2 → q.2 ≤ a.2 ∧ (q.2 = a.2 → p.2 = q.2))
  | [], a, b, p, q, _, hp, e => by
    simp only [en, Prod.mk.injEq] at e
    obtain ⟨rfl, rfl⟩ := e
    refine ⟨fun h => ⟨h, h⟩, ?_, fun h => ⟨by omega, fun h => by omega⟩⟩
    simp [ups]
  | c :: X, a, b, p, q, hw, hp, e => by
    have hp1 := List.pairwise_cons.1 hp
    have hp2 := List.pairwise_cons.1 hp1.2
    have ih := rise X b c p q hw.2 hp1.2 e
    have ab : zlt a b := hp1.1 b (by simp)
    have bc : zlt b c := hp2.1 c (by simp)
    have key : a.2 < b.2 → b.2 < c.2 := by
      intro h
      refine Int.not_le.mp fun hn => ?_
      have k := hw.1
      have e1 : crs a b c = (b.1 - a.1) * (c.2 - b.2) - (b.2 - a.2) * (c.1 - b.1) := by unfold crs; grind
      have k1 : 0 ≤ (b.2 - a.2) * (c.1 - b.1) := Int.mul_nonneg (by omega) (by unfold zlt at bc; omega)
      have k2 : 0 ≤ (b.1 - a.1) * (b.2 - c.2) := Int.mul_nonneg (by unfold zlt at ab; omega) (by omega)
      have k3 : (b.1 - a.1) * (c.2 - b.2) = -((b.1 - a.1) * (b.2 - c.2)) := by grind
      omega
    refine ⟨fun h => ?_, ?_, fun h => ?_⟩
    · have := ih.1 (key h); omega
    · simp only [ups]; rw [ih.2.1]
      have i1 := ih.1
      by_cases h1 : a.2 < b.2 <;> by_cases h2 : b.2 < c.2 <;> by_cases h3 : p.2 < q.2 <;> simp [h1, h2, h3] <;> omega
    · have i3 := ih.2.2 h
      have i1 := ih.1
      omega
/-- falling: never from not up to up -/
theorem fall : ∀ (X : List Zp) (a b p q : Zp), wk a b X → (a :: b :: X).Pairwise (fun x y => zlt y x) → en a b X = (p, q) →
    (p.2 < q.2 → a.2 < b.2 ∧ a.2 < q.2) ∧ ups a b X = 0 ∧
    (¬ a.2 < b.2 → q.2 ≤ a.2 ∧ (q.2 = a.2 → b.2 = a.2))
  | [], a, b, p, q, _, hp, e => by
    simp only [en, Prod.mk.injEq] at e
    obtain ⟨rfl, rfl⟩ := e
    refine ⟨fun h => ⟨h, h⟩, rfl, fun h => ⟨by omega, fun h => by omega⟩⟩
  | c :: X, a, b, p, q, hw, hp, e => by
    have hp1 := List.pairwise_cons.1 hp
    have hp2 := List.pairwise_cons.1 hp1.2
    have ih := fall X b c p q hw.2 hp1.2 e
    have ab : zlt b a := hp1.1 b (by simp)
    have bc : zlt c b := hp2.1 c (by simp)
    have key : b.2 < c.2 → a.2 < b.2 := by
      intro h
      refine Int.not_le.mp fun hn => ?_
      have k := hw.1
      have e1 : crs a b c = (a.2 - b.2) * (c.1 - b.1) - (a.1 - b.1) * (c.2 - b.2) := by unfold crs; grind
      have k1 : 0 ≤ (a.2 - b.2) * (b.1 - c.1) := Int.mul_nonneg (by omega) (by unfold zlt at bc; omega)
      have k2 : 0 ≤ (a.1 - b.1) * (c.2 - b.2) := Int.mul_nonneg (by unfold zlt at ab; omega) (by omega)
      have k3 : (a.2 - b.2) * (c.1 - b.1) = -((a.2 - b.2) * (b.1 - c.1)) := by grind
      omega
    refine ⟨fun h => ?_, ?_, fun h => ?_⟩
    · have := ih.1 h
      have := key this.1
      omega
    · simp only [ups]; rw [ih.2.1]
      have : ¬ (b.2 < c.2 ∧ ¬ a.2 < b.2) := fun h => h.2 (key h.1)
      rw [if_neg this]
    · have : ¬ b.2 < c.2 := fun h1 => h (key h1)
      have i3 := ih.2.2 this
      omega
theorem around {m b M d t u : Zp} {X Y : List Zp} (e1 : en m b X = (t, M)) (e2 : en M d Y = (u, m))
    (w1 : wk m b X) (w2 : wk M d Y) (p1 : (m :: b :: X).Pairwise zlt) (p2 : (M :: d :: Y).Pairwise fun x y => zlt y x)
    (j1 : 0 < crs t M d) (j2 : 0 < crs u m b) : wk u m (b :: X ++ d :: Y) ∧ ups u m (b :: X ++ d :: Y) = 1 := by
  have r := rise X m b t M w1 p1 e1
  have f := fall Y M d u m w2 p2 e2
  constructor
  · rw [wk_app]
    refine ⟨⟨j2, w1⟩, ?_⟩
    show wk (en m b X).1 (en m b X).2 (d :: Y)
    rw [e1]
    exact ⟨j1, w2⟩
  · rw [ups_app]
    show ups u m (b :: X) + ups (en m b X).1 (en m b X).2 (d :: Y) = 1
    rw [e1]
    simp only [ups]
    rw [r.2.1, f.2.1]
    have no : ¬ (¬ t.2 < M.2 ∧ ¬ M.2 < d.2) := by
      intro h
      have r3 := r.2.2 h.1
      have f3 := f.2.2 h.2
      have k1 : t.2 = M.2 := r3.2 (by omega)
      have k2 : d.2 = M.2 := f3.2 (by omega)
      have : crs t M d = 0 := by unfold crs; rw [k1, k2]; grind
      omega
    have r1 := r.1
    have f1 := f.1
    by_cases h1 : m.2 < b.2 <;> by_cases h2 : t.2 < M.2 <;> by_cases h3 : M.2 < d.2 <;> by_cases h4 : u.2 < m.2 <;>
      simp [h1, h2, h3, h4] <;> omega
end MI
end
section
set_option Elab.async false
set_option linter.all false
set_option autoImplicit false
set_option maxRecDepth 100000
set_option maxHeartbeats 4000000
namespace MI
open PySem L2
def hul (l : List Zp) : List Zp := (half l).reverse.dropLast ++ (half l.reverse).reverse.dropLast
theorem Ch.of_mem {Q Q' st : List Zp} (h : Ch Q st) (e : ∀ x, x ∈ Q ↔ x ∈ Q') : Ch Q' st where
  dn := h.dn
  lt := h.lt
  sub_ z hz := (e z).1 (h.sub_ z hz)
  lf := h.lf.imp fun a b k q hq => k q ((e q).2 hq)
  least m hm q hq := h.least m hm q ((e q).2 hq)
  most m hm q hq := h.most m hm q ((e q).2 hq)
theorem en_end {X P : List Zp} {a b p q : Zp} (e : a :: b :: X = P ++ [p, q]) : en a b X = (p, q) := by
  match P, e with
  | [], e => simp at e; obtain ⟨rfl, rfl, rfl⟩ := e; rfl
  | [y], e => simp at e; obtain ⟨rfl, rfl, rfl⟩ := e; rfl
  | y :: z :: P, e => simp at e; obtain ⟨rfl, rfl, rfl⟩ := e; exact en_two P _ _ p q
/-- both halves of two points and more -/
structure Hs (l st up : List Zp) : Prop where
  lo : Ch l st
  hi : Ch (l.map ng) (up.map ng)
  n1 : st ≠ []
  n2 : up ≠ []
theorem hs_of {l : List Zp} (h : l ≠ []) (hp : l.Pairwise zlt) : Hs l (half l) (half l.reverse) := by
  refine ⟨?_, ?_, half_ne h, half_ne (by simpa using h)⟩
  · exact (half_ch _ l rfl h hp).of_mem fun x => List.mem_reverse
  · rw [← half_ng]
    refine (half_ch _ (l.reverse.map ng) rfl (by simpa using h) (up_ng hp)).of_mem fun x => ?_
    simp
theorem Hs.sw {l st up : List Zp} (h : Hs l st up) : Hs (l.map ng) (up.map ng) (st.map ng) := by
  have e : ∀ k : List Zp, (k.map ng).map ng = k := by
    intro k; rw [List.map_map]
    exact (List.map_congr_left fun x _ => ng_ng x).trans (List.map_id' k)
  exact ⟨h.hi, by rw [e, e]; exact h.lo, by simpa using h.n2, by simpa using h.n1⟩
theorem Ch.ne {Q st : List Zp} (h : Ch Q st) {a b : Zp} (ha : a ∈ Q) (hb : b ∈ Q) (ab : zlt a b) (n : st ≠ []) : ∃ M t r, st = M :: t :: r := by
  match st, h with
  | [], _ => exact absurd rfl n
  | [x], h =>
    exfalso
    have k1 := h.most x rfl b hb
    have k2 := h.least x rfl a ha
    unfold zlt at *; omega
  | M :: t :: r, _ => exact ⟨M, t, r, rfl⟩
/-- the last of the one is the first of the other -/
theorem Hs.ends {l st up : List Zp} (h : Hs l st up) {m u : Zp} (h1 : st.getLast? = some m) (h2 : up.head? = some u) : m = u := by
  have mQ : m ∈ l := h.lo.sub_ m (List.mem_of_getLast? h1)
  have uU : u ∈ up := List.mem_of_head? h2
  have uQ : u ∈ l := by
    obtain ⟨y, hy, e⟩ := List.mem_map.1 (h.hi.sub_ (ng u) (List.mem_map_of_mem uU))
    have := congrArg ng e
    rw [ng_ng, ng_ng] at this
    exact this ▸ hy
  have k1 := h.lo.least m h1 u uQ
  have k2 := h.hi.most (ng u) (by rw [List.head?_map, h2]; rfl) (ng m) (List.mem_map_of_mem mQ)
  have k2' : ¬ zlt m u := fun h => k2 (zlt_ng.2 h)
  exact zlt_tr0 k2' k1
theorem Hs.start {l st up : List Zp} (h : Hs l st up) {m u : Zp} (h1 : st.head? = some m) (h2 : up.getLast? = some u) : m = u := by
  have := h.sw.ends (m := ng u) (u := ng m) (by rw [List.getLast?_map, h2]; rfl) (by rw [List.head?_map, h1]; rfl)
  have := congrArg ng this
  rw [ng_ng, ng_ng] at this
  exact this.symm
theorem Hs.ring {l st up : List Zp} (h : Hs l st up) (h3 : 3 ≤ (st.reverse.dropLast ++ up.reverse.dropLast).length) :
    Rg (st.reverse.dropLast ++ up.reverse.dropLast) := by
  have len : 3 ≤ (st.length - 1) + (up.length - 1) := by simpa using h3
  -- both have two corners
  have ab : ∃ a b, a ∈ l ∧ b ∈ l ∧ zlt a b := by
    by_cases c : 2 ≤ st.length
    · match st, h, c with
      | M :: t :: r, h, _ => exact ⟨t, M, h.lo.sub_ t (by simp), h.lo.sub_ M (by simp), (List.pairwise_cons.1 h.lo.dn).1 t (by simp)⟩
    · have c : 2 ≤ up.length := by omega
      have hm : ∀ x, ng x ∈ l.map ng → x ∈ l := by
        intro x hx
        obtain ⟨y, hy, e⟩ := List.mem_map.1 hx
        have := congrArg ng e
        rw [ng_ng, ng_ng] at this
        exact this ▸ hy
      match up, h, c with
      | M :: t :: r, h, _ =>
        exact ⟨M, t, hm M (h.hi.sub_ (ng M) (by simp)), hm t (h.hi.sub_ (ng t) (by simp)), zlt_ng.1 ((List.pairwise_cons.1 h.hi.dn).1 (ng t) (by simp))⟩
  obtain ⟨a, b, ha, hb, ab⟩ := ab
  obtain ⟨M, t, r, es⟩ := h.lo.ne ha hb ab h.n1
  obtain ⟨m', u', r', eu'⟩ := h.hi.ne (List.mem_map_of_mem hb) (List.mem_map_of_mem ha) (zlt_ng.2 ab) (by simpa using h.n2)
  obtain ⟨m, u, rr, eu⟩ : ∃ m u rr, up = m :: u :: rr := by
    match up, eu' with
    | m :: u :: rr, _ => exact ⟨m, u, rr, rfl⟩
  -- as they stand, the oldest first
  obtain ⟨m0, b0, X, eX⟩ : ∃ a b X, st.reverse = a :: b :: X := by
    have : 2 ≤ st.reverse.length := by rw [es]; simp
    match st.reverse, this with
    | a :: b :: X, _ => exact ⟨a, b, X, rfl⟩
  obtain ⟨M0, d0, Y, eY⟩ : ∃ a b X, up.reverse = a :: b :: X := by
    have : 2 ≤ up.reverse.length := by rw [eu]; simp
    match up.reverse, this with
    | a :: b :: X, _ => exact ⟨a, b, X, rfl⟩
  have hm : m0 = m := h.ends (by rw [List.getLast?_eq_head?_reverse, eX]; rfl) (by rw [eu]; rfl)
  have hM : M = M0 := h.start (by rw [es]; rfl) (by rw [List.getLast?_eq_head?_reverse, eY]; rfl)
  subst hm hM
  have rs : st = X.reverse ++ [b0, m0] := by
    have := congrArg List.reverse eX
    simpa using this
  have ru : up = Y.reverse ++ [d0, M] := by
    have := congrArg List.reverse eY
    simpa using this
  have fs : m0 :: b0 :: X = r.reverse ++ [t, M] := by rw [← eX, es]; simp
  have fu : M :: d0 :: Y = rr.reverse ++ [u, m0] := by rw [← eY, eu]; simp
  have w1 : wk m0 b0 X := wk_LT X m0 b0 (by rw [← rs]; exact h.lo.lt)
  have w2 : wk M d0 Y := wk_ng Y M d0 (wk_LT (Y.map ng) (ng M) (ng d0) (by
    have := h.hi.lt
    rw [ru] at this
    simpa using this))
  have p1 : (m0 :: b0 :: X).Pairwise zlt := by
    rw [← eX, List.pairwise_reverse]; exact h.lo.dn
  have p2 : (M :: d0 :: Y).Pairwise fun x y => zlt y x := by
    rw [← eY, List.pairwise_reverse]
    have := h.hi.dn
    rw [List.pairwise_map] at this
    exact this.imp fun k => zlt_ng.1 k
  have j1 : 0 < crs t M d0 := by
    refine Int.not_le.mp fun hn => ?_
    have := meet h.lo es h.hi eY hn
    omega
  have j2 : 0 < crs u m0 b0 := by
    refine Int.not_le.mp fun hn => ?_
    have := meet (b := ng m0) (t := ng u) (u := ng b0) (r := rr.map ng) (r' := X.map ng) h.sw.lo (by rw [eu]; rfl) h.sw.hi
      (by rw [← List.map_reverse, eX]; rfl) (by rw [crs_ng]; exact hn)
    simp at this
    omega
  have A := around (en_end fs) (en_end fu) w1 w2 p1 p2 j1 j2
  obtain ⟨X1, hX⟩ : ∃ X1, b0 :: X = X1 ++ [M] := by
    generalize r.reverse = P at fs
    match P, fs with
    | [], fs => simp at fs; obtain ⟨_, rfl, rfl⟩ := fs; exact ⟨[], rfl⟩
    | y :: P, fs => simp at fs; exact ⟨P ++ [t], by rw [fs.2]; simp⟩
  obtain ⟨Y1, hY⟩ : ∃ Y1, d0 :: Y = Y1 ++ [m0] := by
    generalize rr.reverse = P at fu
    match P, fu with
    | [], fu => simp at fu; obtain ⟨_, rfl, rfl⟩ := fu; exact ⟨[], rfl⟩
    | y :: P, fu => simp at fu; exact ⟨P ++ [u], by rw [fu.2]; simp⟩
  have R : Rg ((X1 ++ M :: Y1) ++ [m0]) := by
    have e : (X1 ++ M :: Y1) ++ [m0] = b0 :: X ++ d0 :: Y := by rw [hX, hY]; simp
    refine ⟨X1 ++ rr.reverse, u, m0, ?_, ?_⟩
    · rw [e, hX, List.append_assoc, List.append_assoc, ← fu]; rfl
    · rw [e]; exact A
  have := R.rot
  have e1 : (m0 :: b0 :: X).dropLast = m0 :: X1 := by rw [hX, ← List.cons_append, List.dropLast_concat]
  have e2 : (M :: d0 :: Y).dropLast = M :: Y1 := by rw [hY, ← List.cons_append, List.dropLast_concat]
  rw [eX, eY, e1, e2]
  simpa using this
/-- from strictly rising points: a ring, where it has three corners or more -/
theorem hul_rg {l : List Zp} (hp : l.Pairwise zlt) (h3 : 3 ≤ (hul l).length) : Rg (hul l) := by
  have h : l ≠ [] := by
    intro h; subst h; simp [hul, half] at h3
  exact (hs_of h hp).ring h3
end MI
end
section
set_option Elab.async false
set_option linter.all false
set_option autoImplicit false
set_option maxRecDepth 100000
set_option maxHeartbeats 4000000
namespace MI
open PySem L2
theorem len_sub : ∀ {k l : List Zp}, k.Nodup → (∀ x ∈ k, x ∈ l) → k.length ≤ l.length
  | [], _, _, _ => by simp
  | x :: k, l, hn, hs => by
    have h1 := List.nodup_cons.1 hn
    have hx := hs x (by simp)
    have := len_sub (l := l.erase x) h1.2 (fun y hy => by
      have : y ≠ x := fun e => h1.1 (e ▸ hy)
      exact (List.mem_erase_of_ne this).2 (hs y (List.mem_cons_of_mem _ hy)))
    rw [List.length_erase_of_mem hx] at this
    have := List.length_pos_of_mem hx
    simp; omega
theorem Adj.mid {P : Zp → Zp → Prop} : ∀ {S1 : List Zp} {c x : Zp} {S2 : List Zp}, Adj P (S1 ++ c :: x :: S2) → P x c
  | [], _, _, _, h => h.1
  | [y], _, _, _, h => h.2.1
  | y :: z :: S1, c, x, S2, h => Adj.mid (S1 := z :: S1) h.2
theorem LT.tl {x : Zp} {l : List Zp} (h : LT (x :: l)) : LT l := by
  match l, h with
  | [], _ => trivial
  | [_], _ => trivial
  | _ :: _ :: _, h => exact h.2
theorem LT.mid : ∀ {S1 : List Zp} {c x a : Zp} {S2 : List Zp}, LT (S1 ++ c :: x :: a :: S2) → 0 < crs a x c
  | [], _, _, _, _, h => h.1
  | y :: S1, c, x, a, S2, h => LT.mid (S1 := S1) (LT.tl h)
theorem inner {st : List Zp} {x : Zp} (h : x ∈ st) (h1 : st.head? ≠ some x) (h2 : st.getLast? ≠ some x) :
    ∃ S1 c a S2, st = S1 ++ c :: x :: a :: S2 := by
  obtain ⟨A, B, e⟩ := List.append_of_mem h
  subst e
  rcases List.eq_nil_or_concat A with r | ⟨A', c, r⟩
  · subst r; exact absurd rfl h1
  · cases B with
    | nil => exact absurd (by simp) h2
    | cons a B => exact ⟨A', c, a, B, by rw [r]; simp⟩
theorem Hs.apart {l st up : List Zp} (h : Hs l st up) {x : Zp} (k1 : x ∈ st) (k2 : x ∈ up)
    (a1 : st.head? ≠ some x) (a2 : st.getLast? ≠ some x) (b1 : up.head? ≠ some x) (b2 : up.getLast? ≠ some x) : False := by
  obtain ⟨S1, c, a, S2, e⟩ := inner k1 a1 a2
  obtain ⟨T1, a', c', T2, e'⟩ := inner k2 b1 b2
  have um : ∀ x ∈ up, x ∈ l := by
    intro x hx
    obtain ⟨y, hy, e⟩ := List.mem_map.1 (h.hi.sub_ (ng x) (List.mem_map_of_mem hx))
    have := congrArg ng e
    rw [ng_ng, ng_ng] at this
    exact this ▸ hy
  have cU := um c' (by rw [e']; simp)
  have aU := um a' (by rw [e']; simp)
  have t1 : 0 < crs c' x a' := by
    have := h.hi.lt
    rw [e', List.map_append] at this
    have := LT.mid (S1 := T1.map ng) (c := ng a') (x := ng x) (a := ng c') (S2 := T2.map ng) this
    rwa [crs_ng] at this
  have lf : ∀ q ∈ l, 0 ≤ crs a x q := by
    have := h.lo.lf
    rw [e] at this
    have e2 : S1 ++ c :: x :: a :: S2 = (S1 ++ [c]) ++ x :: a :: S2 := by simp
    rw [e2] at this
    exact Adj.mid this
  have z1 : zlt a x := by
    have := h.lo.dn
    rw [e, List.pairwise_append] at this
    exact (List.pairwise_cons.1 (List.pairwise_cons.1 this.2.1).2).1 a (by simp)
  have up_ : up.Pairwise fun x y => zlt x y := by
    have := h.hi.dn
    rw [List.pairwise_map] at this
    exact this.imp fun k => zlt_ng.1 k
  rw [e', List.pairwise_append] at up_
  have z2 : zlt a' x := (List.pairwise_cons.1 up_.2.1).1 x (by simp)
  have z3 : zlt x c' := (List.pairwise_cons.1 (List.pairwise_cons.1 up_.2.1).2).1 c' (by simp)
  have q1 := lf c' cU
  have q2 := lf a' aU
  have v1 : crs a x c' = vx (sub x a) (sub c' x) := by unfold crs vx sub; grind
  have v2 : crs a x a' = - vx (sub x a) (sub x a') := by unfold crs vx sub; grind
  have v3 : crs c' x a' = vx (sub c' x) (sub x a') := by unfold crs vx sub; grind
  have pd := pos_sub.2 z1
  have pe := pos_sub.2 z3
  have pf := pos_sub.2 z2
  have g := tw pd.nng pe pf.nng (by omega) (by omega)
  have g0 : vx (sub x a) (sub x a') = 0 := by omega
  generalize sub x a = d at *
  generalize sub c' x = e0 at *
  generalize sub x a' = f at *
  have id := vx_id d e0 f
  have w1 : 0 ≤ vx d e0 := by omega
  have w2 : 0 < vx e0 f := by omega
  have d1 : 0 ≤ d.1 := by unfold pos at pd; omega
  have f1 : 0 ≤ f.1 := by unfold pos at pf; omega
  have m1 := Int.mul_nonneg d1 (show 0 ≤ vx e0 f by omega)
  have m2 := Int.mul_nonneg f1 w1
  rw [g0] at id
  have d0 : d.1 = 0 := by
    have : d.1 * vx e0 f = 0 := by omega
    rcases Int.mul_eq_zero.1 this with e | e <;> omega
  have d2 : 0 < d.2 := by unfold pos at pd; omega
  have f0 : f.1 = 0 := by
    have : vx d f = -(d.2 * f.1) := by unfold vx; rw [d0]; grind
    have : d.2 * f.1 = 0 := by omega
    rcases Int.mul_eq_zero.1 this with e | e <;> omega
  have f2 : 0 < f.2 := by unfold pos at pf; omega
  have e1 : 0 ≤ e0.1 := by unfold pos at pe; omega
  have : vx e0 f = e0.1 * f.2 := by unfold vx; rw [f0]; grind
  have e2 : 0 < e0.1 := by
    by_cases c : e0.1 = 0
    · rw [c] at this; omega
    · omega
  have : vx d e0 = -(d.2 * e0.1) := by unfold vx; rw [d0]; grind
  have := Int.mul_pos d2 e2
  omega
theorem nodup_of {R : Zp → Zp → Prop} (irr : ∀ a, ¬ R a a) {l : List Zp} (h : l.Pairwise R) : l.Nodup :=
  List.Pairwise.imp (fun {a b} k => by intro e; subst e; exact irr a k) h
theorem up_nodup {l : List Zp} (h : l.Pairwise zlt) : l.Nodup := nodup_of (fun a => zlt_irr (p := a)) h
theorem drop_ne {R : Zp → Zp → Prop} (irr : ∀ a, ¬ R a a) : ∀ {l : List Zp} {x : Zp}, l.Pairwise R → x ∈ l.dropLast → l.getLast? ≠ some x := by
  intro l x hp hx hl
  obtain ⟨n, rfl⟩ : ∃ n, l = n ++ [x] := by
    obtain ⟨ys, e⟩ := List.getLast?_eq_some_iff.1 hl
    exact ⟨ys, e⟩
  rw [List.dropLast_concat] at hx
  exact irr x ((List.pairwise_append.1 hp).2.2 x hx x (by simp))
theorem Hs.nodup {l st up : List Zp} (h : Hs l st up) :
    (st.reverse.dropLast ++ up.reverse.dropLast).Nodup ∧ ∀ x ∈ st.reverse.dropLast ++ up.reverse.dropLast, x ∈ l := by
  have um : ∀ x ∈ up, x ∈ l := by
    intro x hx
    obtain ⟨y, hy, e⟩ := List.mem_map.1 (h.hi.sub_ (ng x) (List.mem_map_of_mem hx))
    have := congrArg ng e
    rw [ng_ng, ng_ng] at this
    exact this ▸ hy
  have pu : up.Pairwise zlt := by
    have := h.hi.dn
    rw [List.pairwise_map] at this
    exact this.imp fun k => zlt_ng.1 k
  have p1 : st.reverse.Pairwise zlt := by rw [List.pairwise_reverse]; exact h.lo.dn
  have p2 : up.reverse.Pairwise fun x y => zlt y x := by rw [List.pairwise_reverse]; exact pu
  constructor
  · rw [List.nodup_append]
    refine ⟨(up_nodup p1).sublist (List.dropLast_sublist _), ?_, ?_⟩
    · exact (nodup_of (R := fun x y => zlt y x) (fun a => zlt_irr (p := a)) p2).sublist (List.dropLast_sublist _)
    · intro x hx y hy e
      subst e
      have n1 := drop_ne (fun a => zlt_irr (p := a)) p1 hx
      have n2 := drop_ne (R := fun x y => zlt y x) (fun a => zlt_irr (p := a)) p2 hy
      rw [List.getLast?_reverse] at n1 n2
      have k1 : x ∈ st := List.mem_reverse.1 (List.dropLast_subset _ hx)
      have k2 : x ∈ up := List.mem_reverse.1 (List.dropLast_subset _ hy)
      refine h.apart k1 k2 n1 ?_ n2 ?_
      · intro e
        obtain ⟨u, hu⟩ : ∃ u, up.head? = some u := by
          match up, h.n2 with
          | u :: _, _ => exact ⟨u, rfl⟩
        exact n2 (by rw [hu, ← h.ends e hu])
      · intro e
        obtain ⟨u, hu⟩ : ∃ u, st.head? = some u := by
          match st, h.n1 with
          | u :: _, _ => exact ⟨u, rfl⟩
        exact n1 (by rw [hu, h.start hu e])
  · intro x hx
    rcases List.mem_append.1 hx with hx | hx
    · exact h.lo.sub_ x (List.mem_reverse.1 (List.dropLast_subset _ hx))
    · exact um x (List.mem_reverse.1 (List.dropLast_subset _ hx))
theorem hul_mem {l : List Zp} (hp : l.Pairwise zlt) : (hul l).Nodup ∧ (∀ x ∈ hul l, x ∈ l) ∧ (hul l).length ≤ l.length := by
  by_cases h : l = []
  · subst h; simp [hul, half]
  · have := (hs_of h hp).nodup
    exact ⟨this.1, this.2, len_sub this.1 this.2⟩
end MI
end
section
set_option Elab.async false
set_option linter.all false
set_option autoImplicit false
set_option maxRecDepth 100000
set_option maxHeartbeats 4000000
namespace MI
open PySem L2
structure Rn (c : List Zp) : Prop where
  ne : c ≠ []
  le : c.length ≤ 8
  nd : c.Nodup
  rg : 3 ≤ c.length → Rg c
theorem Rn.rot {A B : List Zp} (h : Rn (A ++ B)) : Rn (B ++ A) := by
  refine ⟨?_, ?_, ?_, fun k => (h.rg ?_).rot⟩
  · have := h.ne; intro e; apply this; simp at e ⊢; exact ⟨e.2, e.1⟩
  · have := h.le; simp at this ⊢; omega
  · exact (List.perm_append_comm.nodup_iff).1 h.nd
  · simp at k ⊢; omega
theorem Rn.cut {c : List Zp} (h : Rn c) (n : Nat) : Rn (c.drop n ++ c.take n) :=
  Rn.rot (by rw [List.take_append_drop]; exact h)
def hull (l : List Zp) : List Zp := if l.length < 3 then l else hul l
theorem Hs.two {l st up : List Zp} (h : Hs l st up) {a b : Zp} (ha : a ∈ l) (hb : b ∈ l) (ab : zlt a b) :
    2 ≤ (st.reverse.dropLast ++ up.reverse.dropLast).length := by
  obtain ⟨M, t, r, es⟩ := h.lo.ne ha hb ab h.n1
  obtain ⟨m', u', r', eu'⟩ := h.hi.ne (List.mem_map_of_mem hb) (List.mem_map_of_mem ha) (zlt_ng.2 ab) (by simpa using h.n2)
  have k1 := congrArg List.length es
  have k2 := congrArg List.length eu'
  simp at k1 k2 ⊢
  omega
theorem hull_rn {l : List Zp} (hp : l.Pairwise zlt) (h : l ≠ []) (h8 : l.length ≤ 8) : Rn (hull l) := by
  unfold hull
  by_cases c : l.length < 3
  · rw [if_pos c]
    exact ⟨h, h8, up_nodup hp, fun k => by omega⟩
  · rw [if_neg c]
    have m := hul_mem hp
    refine ⟨?_, by omega, m.1, hul_rg hp⟩
    match l, hp, c with
    | [], _, c => simp at c
    | [_], _, c => simp at c
    | a :: b :: l, hp, _ =>
      have := (hs_of (by simp) hp).two (a := a) (b := b) (by simp) (by simp) ((List.pairwise_cons.1 hp).1 b (by simp))
      intro e
      have e' : (hul (a :: b :: l)).length = 0 := by rw [e]; rfl
      unfold hul at e'
      omega
theorem hull_mem {l : List Zp} (hp : l.Pairwise zlt) : ∀ x ∈ hull l, x ∈ l := by
  unfold hull
  by_cases c : l.length < 3
  · rw [if_pos c]; exact fun x h => h
  · rw [if_neg c]; exact (hul_mem hp).2.1
/-- as the walk goes: the tests on the way, and the rounds behind it -/
def tl (a b : Zp) (n : Nat) : List Zp → Bool
  | [] => n == 1
  | c :: l => if crs a b c ≤ 0 then false else tl b c (n + if b.2 < c.2 ∧ ¬ a.2 < b.2 then 1 else 0) l
theorem tl_ok : ∀ (l : List Zp) (a b : Zp) (n : Nat), wk a b l → n + ups a b l = 1 → tl a b n l = true
  | [], a, b, n, _, h => by simpa [tl, ups] using h
  | c :: l, a, b, n, h, e => by
    have := h.1
    rw [tl, if_neg (by omega)]
    refine tl_ok l b c _ h.2 ?_
    simp only [ups] at e
    omega
theorem Rg.tl {c : List Zp} (h : Rg c) : ∃ X a b, c = X ++ [a, b] ∧ MI.tl a b 0 c = true := by
  obtain ⟨X, a, b, e, h1, h2⟩ := h
  exact ⟨X, a, b, e, tl_ok c a b 0 h1 (by omega)⟩
end MI
end
section
set_option Elab.async false
set_option linter.all false
set_option autoImplicit false
set_option maxRecDepth 100000
set_option exponentiation.threshold 20000
set_option maxHeartbeats 4000000
open PySem L2
namespace MI
theorem lg {n k : Nat} (h : n < 2 ^ k) (hk : 0 < k) : n.log2 < k := by
  by_cases h0 : n = 0
  · subst h0; simpa using hk
  · exact (Nat.log2_lt h0).mpr h
theorem lgI {i : Int} {k : Nat} (h0 : -(2 ^ k : Int) < i) (h1 : i < (2 ^ k : Int)) (hk : 0 < k) : i.natAbs.log2 < k := by
  refine lg ?_ hk
  have : ((2 ^ k : Nat) : Int) = (2 ^ k : Int) := by push_cast; rfl
  omega
theorem mulOk_of {i j : Int} (a : i.natAbs.log2 < 400000) (b : j.natAbs.log2 < 400000) : mulOk i j = true := by
  unfold mulOk
  exact decide_eq_true (by omega)
theorem l64 {i : Int} (h0 : -(2 ^ 64) < i) (h1 : i < 2 ^ 64) {k : Nat} (hk : 64 ≤ k := by decide) : i.natAbs.log2 < k := Nat.lt_of_lt_of_le (lgI (k := 64) h0 h1 (by decide)) hk
theorem divOk_of {j : Int} (h0 : 0 < j) (h1 : j < 2 ^ 8000) : divOk j = true := by
  unfold divOk
  have := Nat.lt_of_lt_of_le (lgI (k := 8000) (by omega) h1 (by decide)) (by decide : 8000 ≤ 9000)
  simp [h0, this]
structure PotAt (h : Hq) (p : Nat) (n : Int) : Prop where
  ex : ∃ a b c : Int, lstAt h p = some [.int a, .int b, .int c] ∧ 0 ≤ a ∧ a < 2 ^ 2000 ∧ 0 ≤ b ∧ b < 2 ^ 61 ∧ 0 ≤ c ∧ c ≤ n
/-- only the cell p may have changed, cells may be new -/
structure Step (p : Nat) (h h' : Hq) : Prop where
  len : h.length ≤ h'.length
  old : ∀ q, q ≠ p → q < h.length → h'[q]? = h[q]?
theorem Step.refl (p : Nat) (h : Hq) : Step p h h := ⟨Nat.le_refl _, fun _ _ _ => rfl⟩
theorem Step.trans {p : Nat} {h h1 h2 : Hq} (a : Step p h h1) (b : Step p h1 h2) : Step p h h2 := ⟨Nat.le_trans a.len b.len, fun q n l => (b.old q n (Nat.lt_of_lt_of_le l a.len)).trans (a.old q n l)⟩
theorem Step.set (p : Nat) (h : Hq) (c : Cell) : Step p h (h.set p c) := ⟨by simp, fun q n l => by rw [List.getElem?_set_ne (Ne.symm n)]⟩
theorem Step.app (p : Nat) (h : Hq) (l : List Cell) : Step p h (h ++ l) := ⟨by simp, fun q n hl => by rw [List.getElem?_append_left hl]⟩
theorem lstAt_lt {h : Hq} {p : Nat} {l : List D} (e : lstAt h p = some l) : p < h.length := (List.getElem?_eq_some_iff.mp (lstAt_some e)).1
theorem PotAt.mono {h : Hq} {p : Nat} {n m : Int} (P : PotAt h p n) (hm : n ≤ m) : PotAt h p m := by
  obtain ⟨a, b, c, e, h1, h2, h3, h4, h5, h6⟩ := P.ex
  exact ⟨a, b, c, e, h1, h2, h3, h4, h5, by omega⟩
theorem lstAt_app {h : Hq} {p : Nat} {l : List D} (e : lstAt h p = some l) (t : List Cell) : lstAt (h ++ t) p = some l := by
  have hl := lstAt_lt e
  have e' := lstAt_some e
  unfold lstAt
  rw [List.getElem?_append_left hl, e']
theorem PotAt.app {h : Hq} {p : Nat} {n : Int} (P : PotAt h p n) (t : List Cell) : PotAt (h ++ t) p n := by
  obtain ⟨a, b, c, e, r⟩ := P.ex
  exact ⟨a, b, c, lstAt_app e t, r⟩
theorem lstAt_set {h : Hq} {p : Nat} {l : List D} (hp : p < h.length) : lstAt (h.set p (.lst l)) p = some l := by
  unfold lstAt
  rw [List.getElem?_set_self hp]
theorem take_ok {h : Hq} {p : Nat} {n many : Int} (P : PotAt h p n) (hn : n < 1000000) (hm : 0 < many) (hb : many < 2 ^ 8000) :
    ∃ r h', S__law_take [.ref p, .int many] h = .ok (.int r) h' ∧ 0 ≤ r ∧ r < many ∧ PotAt h' p (n + 1) ∧ Step p h h' := by
  obtain ⟨a, b, c, e, a0, a1, b0, b1, c0, c1⟩ := P.ex
  have hp := lstAt_lt e
  have hd1 : divOk many = true := divOk_of hm hb
  by_cases ha : 0 < a
  · refine ⟨a % many, h.set p (.lst [.int (a / many), .int b, .int c]), ?_, Int.emod_nonneg _ (by omega), Int.emod_lt_of_pos _ hm, ⟨a / many, b, c, lstAt_set hp, ?_, ?_, b0, b1, c0, by omega⟩, Step.set _ _ _⟩
    · simp [c_bind, c_into, c_then, v_K, v_V, v_vR, v_Op, v_Un, v_bOf, v_isB, v_isBx, v_bAnd, v_bOr, v_bNot, v_eAnd, v_eOr, v_eNot, v_eIf, v_aNil, v_aCons, v_Tup, v_Lst, v_Dct, v_Dct2, v_Call, v_CallK, v_Bi, v_Isi, v_Cut, v_oNone, v_oSome, v_vO, v_End, v_Seq, v_If, v_Ret, v_Expr, v_Set, v_Par, v_Raise, v_For, v_Put, v_fnx, v_frt, v_fex, v_of, v_add, v_sub, v_neg, v_rel, v_abs, v_lenT, v_lenS, v_max, v_min, v_intB, v_intI, v_gcd, v_cutT, v_listT, v_backT, v_eqI, v_eqS, List.replicate, small, atI, ixN, S__law_take, v_ixL e, v_vPut e, v_mod hm, v_div hd1, ha]
    · exact Int.ediv_nonneg a0 (by omega)
    · exact Int.lt_of_le_of_lt (Int.ediv_le_self _ a0) a1
  · have a00 : a = 0 := by omega
    subst a00
    have e2 : lstAt (h.set p (.lst [.int 0, .int b, .int (c + 1)])) p = some [.int 0, .int b, .int (c + 1)] := lstAt_set hp
    have q1 := Int.emod_nonneg ((b + 104729 * (c + 1)) ^ 3) (b := 2305843009213693921) (by decide)
    have q2 := Int.emod_lt_of_pos ((b + 104729 * (c + 1)) ^ 3) (b := 2305843009213693921) (by decide)
    have w1 : (b + 104729 * (c + 1)).natAbs.log2 < 10000 := l64 (by omega) (by omega)
    have w2 : ((b + 104729 * (c + 1)) ^ 3 % 2305843009213693921 + b % 65537 + 31 * (c + 1)).natAbs.log2 < 10000 := l64 (by omega) (by omega)
    have w3 : mulOk 104729 (c + 1) = true := mulOk_of (l64 (by decide) (by decide)) (l64 (by omega) (by omega))
    have w4 : mulOk 31 (c + 1) = true := mulOk_of (l64 (by decide) (by decide)) (l64 (by omega) (by omega))
    refine ⟨_, h.set p (.lst [.int 0, .int b, .int (c + 1)]), ?_, Int.emod_nonneg (((b + 104729 * (c + 1)) ^ 3 % 2305843009213693921 + b % 65537 + 31 * (c + 1)) ^ 5 % 2305843009213693907 / 1024) (by omega), Int.emod_lt_of_pos _ hm, ⟨0, b, c + 1, e2, by omega, by decide, b0, b1, by omega, by omega⟩, Step.set _ _ _⟩
    simp [c_bind, c_into, c_then, v_K, v_V, v_vR, v_Op, v_Un, v_bOf, v_isB, v_isBx, v_bAnd, v_bOr, v_bNot, v_eAnd, v_eOr, v_eNot, v_eIf, v_aNil, v_aCons, v_Tup, v_Lst, v_Dct, v_Dct2, v_Call, v_CallK, v_Bi, v_Isi, v_Cut, v_oNone, v_oSome, v_vO, v_End, v_Seq, v_If, v_Ret, v_Expr, v_Set, v_Par, v_Raise, v_For, v_Put, v_fnx, v_frt, v_fex, v_of, v_add, v_sub, v_neg, v_rel, v_abs, v_lenT, v_lenS, v_max, v_min, v_intB, v_intI, v_gcd, v_cutT, v_listT, v_backT, v_eqI, v_eqS, List.replicate, small, atI, ixN, S__law_take, v_ixL e, v_vPut e, v_ixL e2, v_mod, hm, v_div, divOk_of, hd1, v_mul w3, v_mul w4, v_pow, w1, w2]
theorem v_pow10 {j : Int} {h : Hq} (e0 : 0 ≤ j) (e1 : j ≤ 1000) : dPow (.int 10) (.int j) h = .ok (.int (10 ^ j.toNat)) h := v_pow e0 e1 (by decide)
theorem pot_ok {h : Hq} {ns : List Int} {k : Nat} (hk : k < 100) : ∃ l, S__law_pot [.scr ns, .int k] h = .ok (.ref h.length) (h ++ [.lst l]) ∧ PotAt (h ++ [.lst l]) h.length 0 := by
  have key : ∀ c : Int, 0 ≤ c → c < 10 ^ 600 → ∀ x : Int, 0 ≤ x → x < 2 ^ 61 → PotAt (h ++ [.lst [D.int (c * (if 1000000000000000000 ≤ c then 1 else 0)), D.int x, D.int 0]]) h.length 0 := by
    intro c c0 c1 x x0 x1
    refine ⟨⟨c * (if 1000000000000000000 ≤ c then 1 else 0), x, 0, by unfold lstAt; simp, ?_, ?_, x0, x1, by decide, by decide⟩⟩
    · split <;> omega
    · have : (10 : Int) ^ 600 < 2 ^ 2000 := by decide
      split <;> omega
  have m1 : mulOk 7919 k = true := mulOk_of (by decide) (l64 (by omega) (by omega))
  by_cases hl : (k : Int) < ns.length
  · have hl' : k < ns.length := by omega
    have ix : atI ns (k : Int) = some ns[k] := by unfold atI ixN; simp [hl']
    obtain ⟨M, hM⟩ : ∃ M : Int, M = 10 ^ 600 := ⟨_, rfl⟩
    obtain ⟨c, hc⟩ : ∃ c : Int, c = (if ns[k] < 0 then -ns[k] else ns[k]) % M := ⟨_, rfl⟩
    have M0 : 0 < M := by rw [hM]; decide
    have c0 : 0 ≤ c := by rw [hc]; exact Int.emod_nonneg _ (by omega)
    have c1 : c < 10 ^ 600 := by rw [← hM, hc]; exact Int.emod_lt_of_pos _ M0
    have dm : ∀ h, dMod (.int (if ns[k] < 0 then -ns[k] else ns[k])) (.int M) h = .ok (.int c) h := fun h => by rw [hc]; exact v_mod M0
    have dp : ∀ h, dPow (.int 1000000000000000000000000000000000000000000000000000000000000) (.int 10) h = .ok (.int M) h := fun h => by rw [hM]; exact (v_pow (by decide) (by decide) (by decide)).trans (by congr 2)
    have mk : mulOk c (if 1000000000000000000 ≤ c then 1 else 0) = true := by
      have e : (10 : Int) ^ 600 < 2 ^ 2000 := by decide
      refine mulOk_of (Nat.lt_of_lt_of_le (lgI (k := 2000) (by omega) (by omega) (by decide)) (by decide)) ?_
      split <;> decide
    have q0 := Int.emod_nonneg c (b := 2147483629) (by decide)
    have q1 := Int.emod_lt_of_pos c (b := 2147483629) (by decide)
    have pw : (c % 2147483629 + 7919 * k + 1).natAbs.log2 < 10000 := l64 (by omega) (by omega)
    refine ⟨_, ?_, key c c0 c1 ((c % 2147483629 + 7919 * k + 1) ^ 5 % 2305843009213693951) (Int.emod_nonneg _ (by decide)) (Int.lt_of_lt_of_le (Int.emod_lt_of_pos _ (by decide)) (by decide))⟩
    simp [c_bind, c_into, c_then, v_K, v_V, v_vR, v_Op, v_Un, v_bOf, v_isB, v_isBx, v_bAnd, v_bOr, v_bNot, v_eAnd, v_eOr, v_eNot, v_eIf, v_aNil, v_aCons, v_Tup, v_Lst, v_Dct, v_Dct2, v_Call, v_CallK, v_Bi, v_Isi, v_Cut, v_oNone, v_oSome, v_vO, v_End, v_Seq, v_If, v_Ret, v_Expr, v_Set, v_Par, v_Raise, v_For, v_Put, v_fnx, v_frt, v_fex, v_of, v_add, v_sub, v_neg, v_rel, v_abs, v_lenT, v_lenS, v_max, v_min, v_intB, v_intI, v_gcd, v_cutT, v_listT, v_backT, v_eqI, v_eqS, List.replicate, small, atI, ixN, S__law_pot, v_pow10, hl', v_ixS ix, dp, dm, v_mul m1, v_mul mk, v_pow, pw, v_mod]
  · have hl' : ¬ k < ns.length := by omega
    have mk : mulOk 0 0 = true := by decide
    have pw : (7919 * (k : Int) + 1).natAbs.log2 < 10000 := l64 (by omega) (by omega)
    refine ⟨_, ?_, key 0 (by decide) (by decide) ((7919 * k + 1) ^ 5 % 2305843009213693951) (Int.emod_nonneg _ (by decide)) (Int.lt_of_lt_of_le (Int.emod_lt_of_pos _ (by decide)) (by decide))⟩
    simp [c_bind, c_into, c_then, v_K, v_V, v_vR, v_Op, v_Un, v_bOf, v_isB, v_isBx, v_bAnd, v_bOr, v_bNot, v_eAnd, v_eOr, v_eNot, v_eIf, v_aNil, v_aCons, v_Tup, v_Lst, v_Dct, v_Dct2, v_Call, v_CallK, v_Bi, v_Isi, v_Cut, v_oNone, v_oSome, v_vO, v_End, v_Seq, v_If, v_Ret, v_Expr, v_Set, v_Par, v_Raise, v_For, v_Put, v_fnx, v_frt, v_fex, v_of, v_add, v_sub, v_neg, v_rel, v_abs, v_lenT, v_lenS, v_max, v_min, v_intB, v_intI, v_gcd, v_cutT, v_listT, v_backT, v_eqI, v_eqS, List.replicate, small, atI, ixN, S__law_pot, v_pow10, hl', v_mul m1, v_mul mk, v_pow, pw, v_mod]
def gI (o u : Int) : Int := ((Nat.gcd o.natAbs u.natAbs : Nat) : Int)
theorem gI_pos {o u : Int} (h : u ≠ 0) : 0 < gI o u := by
  unfold gI
  have : 0 < Nat.gcd o.natAbs u.natAbs := Nat.gcd_pos_of_pos_right _ (by omega)
  omega
theorem gI_le {o u : Int} (h : 0 < u) : gI o u ≤ u := by
  unfold gI
  have := Nat.gcd_le_right o.natAbs (show 0 < u.natAbs by omega)
  omega
theorem euclid {s : Hq} {x y : Option D} : ∀ (n : Nat) (a b : Nat), b ≤ n → whileN (bOf (eOp (dEqs true) (eV 3) (eK (.int 0)))) (sSeq (sPar 2 3 (aCons (eV 3) (aCons (eOp dMod (eV 2) (eV 3)) (aNil)))) (sEnd)) (n + 1) [x, y, some (.int a), some (.int b)] s = some (.nx [x, y, some (.int (Nat.gcd a b : Nat)), some (.int 0)] s)
  | n, a, 0, _ => by
    unfold whileN
    have e : bOf (eOp (dEqs true) (eV 3) (eK (.int 0))) [x, y, some (.int a), some (.int (0 : Nat))] s = .ok false s := by simp [c_bind, c_into, c_then, v_K, v_V, v_vR, v_Op, v_Un, v_bOf, v_isB, v_isBx, v_bAnd, v_bOr, v_bNot, v_eAnd, v_eOr, v_eNot, v_eIf, v_aNil, v_aCons, v_Tup, v_Lst, v_Dct, v_Dct2, v_Call, v_CallK, v_Bi, v_Isi, v_Cut, v_oNone, v_oSome, v_vO, v_End, v_Seq, v_If, v_Ret, v_Expr, v_Set, v_Par, v_Raise, v_For, v_Put, v_fnx, v_frt, v_fex, v_of, v_add, v_sub, v_neg, v_rel, v_abs, v_lenT, v_lenS, v_max, v_min, v_intB, v_intI, v_gcd, v_cutT, v_listT, v_backT, v_eqI, v_eqS, List.replicate, small, atI, ixN]
    rw [e]
    simp
  | 0, a, b + 1, h => by omega
  | n + 1, a, b + 1, h => by
    unfold whileN
    have hb : (0 : Int) < ((b + 1 : Nat) : Int) := by omega
    have e : bOf (eOp (dEqs true) (eV 3) (eK (.int 0))) [x, y, some (.int a), some (.int ((b + 1 : Nat) : Int))] s = .ok true s := by
      have : ¬ ((b : Int) + 1 = 0) := by omega
      simp [c_bind, c_into, c_then, v_K, v_V, v_vR, v_Op, v_Un, v_bOf, v_isB, v_isBx, v_bAnd, v_bOr, v_bNot, v_eAnd, v_eOr, v_eNot, v_eIf, v_aNil, v_aCons, v_Tup, v_Lst, v_Dct, v_Dct2, v_Call, v_CallK, v_Bi, v_Isi, v_Cut, v_oNone, v_oSome, v_vO, v_End, v_Seq, v_If, v_Ret, v_Expr, v_Set, v_Par, v_Raise, v_For, v_Put, v_fnx, v_frt, v_fex, v_of, v_add, v_sub, v_neg, v_rel, v_abs, v_lenT, v_lenS, v_max, v_min, v_intB, v_intI, v_gcd, v_cutT, v_listT, v_backT, v_eqI, v_eqS, List.replicate, small, atI, ixN, this]
    have e2 : (sSeq (sPar 2 3 (aCons (eV 3) (aCons (eOp dMod (eV 2) (eV 3)) (aNil)))) (sEnd)) [x, y, some (.int a), some (.int ((b + 1 : Nat) : Int))] s = .nx [x, y, some (.int ((b + 1 : Nat) : Int)), some (.int ((a % (b + 1) : Nat) : Int))] s := by
      have hb' : (0 : Int) < (b : Int) + 1 := by omega
      simp [c_bind, c_into, c_then, v_K, v_V, v_vR, v_Op, v_Un, v_bOf, v_isB, v_isBx, v_bAnd, v_bOr, v_bNot, v_eAnd, v_eOr, v_eNot, v_eIf, v_aNil, v_aCons, v_Tup, v_Lst, v_Dct, v_Dct2, v_Call, v_CallK, v_Bi, v_Isi, v_Cut, v_oNone, v_oSome, v_vO, v_End, v_Seq, v_If, v_Ret, v_Expr, v_Set, v_Par, v_Raise, v_For, v_Put, v_fnx, v_frt, v_fex, v_of, v_add, v_sub, v_neg, v_rel, v_abs, v_lenT, v_lenS, v_max, v_min, v_intB, v_intI, v_gcd, v_cutT, v_listT, v_backT, v_eqI, v_eqS, List.replicate, small, atI, ixN, v_mod hb']
    rw [e]
    dsimp only
    rw [e2]
    dsimp only
    rw [euclid n (b + 1) (a % (b + 1)) (by have := Nat.mod_lt a (show 0 < b + 1 by omega); omega)]
    have : Nat.gcd (b + 1) (a % (b + 1)) = Nat.gcd a (b + 1) := by
      rw [Nat.gcd_comm a (b + 1), Nat.gcd_rec (b + 1) a, Nat.gcd_comm]
    rw [this]
theorem lowL_ok {h : Hq} {o u : Int} (hu : 0 < u) (hb : u < 2 ^ 8000) : S__law_lowest [.int o, .int u] h = .ok (.tup [.int (o / gI o u), .int (u / gI o u)]) h := by
  have hd : divOk (gI o u) = true := divOk_of (gI_pos (by omega)) (Int.lt_of_le_of_lt (gI_le hu) hb)
  have ew : sWhile (bOf (eOp (dEqs true) (eV 3) (eK (.int 0)))) (sSeq (sPar 2 3 (aCons (eV 3) (aCons (eOp dMod (eV 2) (eV 3)) (aNil)))) (sEnd)) [some (.int o), some (.int u), some (.int (if o < 0 then -o else o)), some (.int u)] h = .nx [some (.int o), some (.int u), some (.int (gI o u)), some (.int 0)] h := by
    have := euclid (s := h) (x := some (.int o)) (y := some (.int u)) u.natAbs o.natAbs u.natAbs (Nat.le_refl _)
    have e1 : ((o.natAbs : Nat) : Int) = if o < 0 then -o else o := by split <;> omega
    have e2 : ((u.natAbs : Nat) : Int) = u := by omega
    rw [e1, e2] at this
    exact sWhile_eq this
  unfold S__law_lowest
  simp [c_bind, c_into, c_then, v_K, v_V, v_vR, v_Op, v_Un, v_bOf, v_isB, v_isBx, v_bAnd, v_bOr, v_bNot, v_eAnd, v_eOr, v_eNot, v_eIf, v_aNil, v_aCons, v_Tup, v_Lst, v_Dct, v_Dct2, v_Call, v_CallK, v_Bi, v_Isi, v_Cut, v_oNone, v_oSome, v_vO, v_End, v_Seq, v_If, v_Ret, v_Expr, v_Set, v_Par, v_Raise, v_For, v_Put, v_fnx, v_frt, v_fex, v_of, v_add, v_sub, v_neg, v_rel, v_abs, v_lenT, v_lenS, v_max, v_min, v_intB, v_intI, v_gcd, v_cutT, v_listT, v_backT, v_eqI, v_eqS, List.replicate, small, atI, ixN, ew, v_div hd]
theorem lowP_ok {h : Hq} {o u : Int} (hu : 0 < u) (hb : u < 2 ^ 8000) : S_lowest [.int o, .int u] h = .ok (.tup [.int (o / gI o u), .int (u / gI o u)]) h := by
  have hd : divOk (gI o u) = true := divOk_of (gI_pos (by omega)) (Int.lt_of_le_of_lt (gI_le hu) hb)
  have hu' : ¬ u < 0 := by omega
  unfold S_lowest
  unfold gI at hd ⊢
  simp [c_bind, c_into, c_then, v_K, v_V, v_vR, v_Op, v_Un, v_bOf, v_isB, v_isBx, v_bAnd, v_bOr, v_bNot, v_eAnd, v_eOr, v_eNot, v_eIf, v_aNil, v_aCons, v_Tup, v_Lst, v_Dct, v_Dct2, v_Call, v_CallK, v_Bi, v_Isi, v_Cut, v_oNone, v_oSome, v_vO, v_End, v_Seq, v_If, v_Ret, v_Expr, v_Set, v_Par, v_Raise, v_For, v_Put, v_fnx, v_frt, v_fex, v_of, v_add, v_sub, v_neg, v_rel, v_abs, v_lenT, v_lenS, v_max, v_min, v_intB, v_intI, v_gcd, v_cutT, v_listT, v_backT, v_eqI, v_eqS, List.replicate, small, atI, ixN, hu', v_div hd]
theorem Step.lst {p q : Nat} {h h' : Hq} {l : List D} (S : Step p h h') (n : q ≠ p) (e : lstAt h q = some l) : lstAt h' q = some l := by
  have e' := lstAt_some e
  have := S.old q n (lstAt_lt e)
  unfold lstAt
  rw [this, e']
theorem Step.get {p q : Nat} {h h' : Hq} {c : Cell} (S : Step p h h') (n : q ≠ p) (e : h[q]? = some c) : h'[q]? = some c := by
  rw [S.old q n (List.getElem?_eq_some_iff.mp e).1, e]
theorem PotAt.lt {h : Hq} {p : Nat} {n : Int} (P : PotAt h p n) : p < h.length := by
  obtain ⟨a, b, c, e, _⟩ := P.ex
  exact lstAt_lt e
theorem lst_new (h : Hq) (l : List D) : lstAt (h ++ [.lst l]) h.length = some l := by unfold lstAt; simp
structure Sh (q : PyData) (k w : Nat) : Prop where
  sh : q.showable = true
  hd : q.hasDict = false
  dp : q.depth ≤ k
  ls : q.leavesShort 2000 = true
  wt : q.weight ≤ w
theorem fits_of {q : PyData} (h1 : q.showable = true) (h2 : q.hasDict = false ∨ noLst q = true) (h3 : q.depth ≤ 60) (h4 : q.leavesShort 2000 = true) (h5 : q.weight ≤ 8000) : shows q = true := by
  have h6 := PyData.shown_le 2000 (by decide) q h4
  have h7 : q.shown.length ≤ 16777216 := by
    have : (2000 + 2) * q.weight ≤ (2000 + 2) * 8000 := Nat.mul_le_mul_left _ h5
    omega
  unfold shows small
  rcases h2 with h2 | h2 <;> simp [h1, h2, h3, h7]
theorem Sh.fits {q : PyData} {k w : Nat} (s : Sh q k w) (hk : k ≤ 60) (hw : w ≤ 8000) : shows q = true := fits_of s.sh (.inl s.hd) (Nat.le_trans s.dp hk) s.ls (Nat.le_trans s.wt hw)
theorem lg300 {i : Int} (a : -(2 ^ 300) < i) (b : i < 2 ^ 300) : i.natAbs.log2 < 300 := lgI (k := 300) a b (by decide)
theorem Sh.int {i : Int} (a : -(2 ^ 300) < i) (b : i < 2 ^ 300) : Sh (.int i) 0 301 := by
  have h1 := lg300 a b
  refine ⟨decide_eq_true (by omega), rfl, Nat.le_refl _, decide_eq_true ?_, ?_⟩
  · exact Nat.le_trans (PyProof.Rows.int_text_len_1921 (by omega)) (by decide)
  · show (if i == 0 then 0 else i.natAbs.log2 + 1) ≤ 301
    split <;> omega
theorem seq_sh {k w : Nat} : ∀ {ps : List PyData}, (∀ q ∈ ps, Sh q k w) → PyData.showableAll ps = true ∧ PyData.hasDictAll ps = false ∧ PyData.depthAll ps ≤ k ∧ PyData.leavesShortAll 2000 ps = true ∧ PyData.weightAll ps ≤ ps.length * (w + 1)
  | [], _ => ⟨rfl, rfl, Nat.zero_le _, rfl, by simp [PyData.weightAll]⟩
  | q :: ps, h => by
    obtain ⟨a1, a2, a3, a4, a5⟩ := h q (by simp)
    obtain ⟨b1, b2, b3, b4, b5⟩ := seq_sh (ps := ps) fun r hr => h r (by simp [hr])
    refine ⟨by simp [PyData.showableAll, a1, b1], by simp [PyData.hasDictAll, a2, b2], ?_, by simp [PyData.leavesShortAll, a4, b4], ?_⟩
    · show max q.depth (PyData.depthAll ps) ≤ k
      omega
    · show q.weight + 1 + PyData.weightAll ps ≤ (ps.length + 1) * (w + 1)
      rw [Nat.add_mul]
      omega
theorem Sh.tup {k w : Nat} {ps : List PyData} (h : ∀ q ∈ ps, Sh q k w) : Sh (.tuple ps) (k + 1) (ps.length * (w + 1)) := by
  obtain ⟨a1, a2, a3, a4, a5⟩ := seq_sh h
  exact ⟨a1, a2, Nat.add_le_add_right a3 1, a4, a5⟩
theorem Sh.lst {k w : Nat} {ps : List PyData} (h : ∀ q ∈ ps, Sh q k w) : Sh (.list ps) (k + 1) (ps.length * (w + 1)) := by
  obtain ⟨a1, a2, a3, a4, a5⟩ := seq_sh h
  exact ⟨a1, a2, Nat.add_le_add_right a3 1, a4, a5⟩
theorem Sh.more {q : PyData} {k w k' w' : Nat} (s : Sh q k w) (hk : k ≤ k') (hw : w ≤ w') : Sh q k' w' := ⟨s.sh, s.hd, Nat.le_trans s.dp hk, s.ls, Nat.le_trans s.wt hw⟩
theorem repr_ok {h : Hq} {d : D} {q : PyData} (e : toPyR h 60 d = some q) (s : shows q = true) : gRepr [d] h = .ok (.str q.shown) h := by
  unfold gRepr
  simp only [e, s, if_true]
end MI
end
section
set_option Elab.async false
set_option linter.all false
set_option autoImplicit false
set_option maxRecDepth 100000
set_option exponentiation.threshold 20000
set_option maxHeartbeats 4000000
open PySem L2
namespace MI
def Bd (B : Nat) (x : Int) : Prop := x.natAbs < 2 ^ B
theorem Bd.mono {A B : Nat} {x : Int} (h : Bd A x) (hab : A ≤ B) : Bd B x := Nat.lt_of_lt_of_le h (Nat.pow_le_pow_right (by decide) hab)
theorem Bd.mul {A B : Nat} {x y : Int} (h : Bd A x) (k : Bd B y) : Bd (A + B) (x * y) := by
  unfold Bd at *
  rw [Int.natAbs_mul, Nat.pow_add]
  exact Nat.mul_lt_mul'' h k
theorem Bd.add {A : Nat} {x y : Int} (h : Bd A x) (k : Bd A y) : Bd (A + 1) (x + y) := by
  unfold Bd at *
  have := Int.natAbs_add_le x y
  rw [Nat.pow_succ]
  omega
theorem Bd.neg {A : Nat} {x : Int} (h : Bd A x) : Bd A (-x) := by
  unfold Bd at *
  rwa [Int.natAbs_neg]
theorem Bd.sub {A : Nat} {x y : Int} (h : Bd A x) (k : Bd A y) : Bd (A + 1) (x - y) := by
  rw [Int.sub_eq_add_neg]
  exact h.add k.neg
theorem Bd.of {B : Nat} {x : Int} (a : -(2 ^ B) < x) (b : x < 2 ^ B) : Bd B x := by
  unfold Bd
  have : ((2 ^ B : Nat) : Int) = (2 ^ B : Int) := by push_cast; rfl
  omega
theorem Bd.lt {B : Nat} {x : Int} (h : Bd B x) : x < 2 ^ B := by
  unfold Bd at h
  have : ((2 ^ B : Nat) : Int) = (2 ^ B : Int) := by push_cast; rfl
  omega
theorem Bd.lg {B : Nat} {x : Int} (h : Bd B x) (hb : B < 400000) : x.natAbs.log2 < 400000 := by
  unfold Bd at h
  by_cases h0 : x.natAbs = 0
  · rw [h0]; decide
  · exact Nat.lt_trans ((Nat.log2_lt h0).mpr h) hb
theorem Bd.mk {A B : Nat} {x y : Int} (h : Bd A x) (k : Bd B y) (ha : A < 400000 := by decide) (hb : B < 400000 := by decide) : mulOk x y = true := mulOk_of (h.lg ha) (k.lg hb)
theorem Bd.div {B : Nat} {x g : Int} (h : Bd B x) : Bd B (x / g) := by
  unfold Bd at *
  exact Nat.lt_of_le_of_lt (Int.natAbs_ediv_le_natAbs x g) h
theorem Bd.one : Bd 1 1 := by unfold Bd; decide
abbrev Qp := Int × Int
/-- a fraction as it lies -/
abbrev dq (q : Qp) : D := .tup [.int q.1, .int q.2]
def lowQ (x y : Int) : Qp := (x / gI x y, y / gI x y)
structure Fq (B : Nat) (q : Qp) : Prop where
  pos : 1 ≤ q.2
  low : gI q.1 q.2 = 1
  b1 : Bd B q.1
  b2 : Bd B q.2
theorem Fq.mono {A B : Nat} {q : Qp} (f : Fq A q) (h : A ≤ B) : Fq B q := ⟨f.pos, f.low, f.b1.mono h, f.b2.mono h⟩
theorem gI_dvd1 (x y : Int) : gI x y ∣ x := by
  unfold gI
  exact Int.ofNat_dvd_left.mpr (Nat.gcd_dvd_left _ _)
theorem gI_dvd2 (x y : Int) : gI x y ∣ y := by
  unfold gI
  exact Int.ofNat_dvd_left.mpr (Nat.gcd_dvd_right _ _)
theorem lowQ_x {x y : Int} : gI x y * (lowQ x y).1 = x := Int.mul_ediv_cancel' (gI_dvd1 x y)
theorem lowQ_y {x y : Int} : gI x y * (lowQ x y).2 = y := Int.mul_ediv_cancel' (gI_dvd2 x y)
theorem lowQ_pos {x y : Int} (h : 0 < y) : 0 < (lowQ x y).2 := by
  have g := gI_pos (o := x) (u := y) (by omega)
  have e := lowQ_y (x := x) (y := y)
  by_cases q : 0 < (lowQ x y).2
  · exact q
  · have := Int.mul_nonpos_of_nonneg_of_nonpos (a := gI x y) (b := (lowQ x y).2) (by omega) (by omega)
    omega
theorem lowQ_low {x y : Int} (h : 0 < y) : gI (lowQ x y).1 (lowQ x y).2 = 1 := by
  have g : 0 < Nat.gcd x.natAbs y.natAbs := Nat.gcd_pos_of_pos_right _ (by omega)
  have gp := gI_pos (o := x) (u := y) (by omega)
  have e1 : (x / gI x y).natAbs = x.natAbs / Nat.gcd x.natAbs y.natAbs := by
    rw [Int.natAbs_ediv_of_dvd (gI_dvd1 x y)]; rfl
  have e2 : (y / gI x y).natAbs = y.natAbs / Nat.gcd x.natAbs y.natAbs := by
    rw [Int.natAbs_ediv_of_dvd (gI_dvd2 x y)]; rfl
  show ((Nat.gcd (x / gI x y).natAbs (y / gI x y).natAbs : Nat) : Int) = 1
  rw [e1, e2, Nat.gcd_div_gcd_div_gcd_of_pos_right (by omega)]
  rfl
theorem lowQ_ok {B : Nat} {x y : Int} (h : 0 < y) (a : Bd B x) (b : Bd B y) : Fq B (lowQ x y) := ⟨lowQ_pos h, lowQ_low h, a.div, b.div⟩
theorem lowQ_cross {x y : Int} (h : 0 < y) : (lowQ x y).1 * y = x * (lowQ x y).2 := by
  have e1 := lowQ_x (x := x) (y := y)
  have e2 := lowQ_y (x := x) (y := y)
  generalize lowQ x y = q at *
  generalize gI x y = g at *
  subst e1 e2
  grind
/-- two in lowest terms of one worth are one -/
theorem Fq.eq {a b c d : Int} (hb : 0 < b) (hd : 0 < d) (g1 : gI a b = 1) (g2 : gI c d = 1) (e : a * d = c * b) : a = c ∧ b = d := by
  unfold gI at g1 g2
  have c1 : Nat.Coprime b.natAbs a.natAbs := by unfold Nat.Coprime; rw [Nat.gcd_comm]; omega
  have c2 : Nat.Coprime d.natAbs c.natAbs := by unfold Nat.Coprime; rw [Nat.gcd_comm]; omega
  have en : a.natAbs * d.natAbs = c.natAbs * b.natAbs := by rw [← Int.natAbs_mul, ← Int.natAbs_mul, e]
  have d1 : b.natAbs ∣ d.natAbs := c1.dvd_of_dvd_mul_left (by rw [en]; exact Nat.dvd_mul_left _ _)
  have d2 : d.natAbs ∣ b.natAbs := c2.dvd_of_dvd_mul_left (by rw [← en]; exact Nat.dvd_mul_left _ _)
  have e1 := Nat.dvd_antisymm d1 d2
  have e2 : b = d := by omega
  subst e2
  exact ⟨Int.eq_of_mul_eq_mul_right (by omega) e, rfl⟩
def qlt (a b : Qp) : Prop := a.1 * b.2 < b.1 * a.2
instance (a b : Qp) : Decidable (qlt a b) := inferInstanceAs (Decidable (_ < _))
section
variable {h : Hq} {a b c d : Int}
theorem v_eqT2b {i j k l : Int} {n : Bool} : dEqs n (.tup [.int i, .int j]) (.tup [.int k, .int l]) h = .ok (.bl ((i == k && j == l) != n)) h := by
  unfold dEqs eqQ dEqP
  simp [toPy, opts, SeqAt.shaped, PyData.eqv, PyData.eqvAll, PyData.canLay0, PyData.canLayAll0, PyData.depth, PyData.depthAll]
theorem low_ok {B : Nat} (hb : 0 < b) (b2 : Bd B b) (hB : B ≤ 8000 := by decide) : S__law_lowest [.int a, .int b] h = .ok (dq (lowQ a b)) h := lowL_ok hb (b2.mono hB).lt
theorem lowp_ok {B : Nat} (hb : 0 < b) (b2 : Bd B b) (hB : B ≤ 8000 := by decide) : S_lowest [.int a, .int b] h = .ok (dq (lowQ a b)) h := lowP_ok hb (b2.mono hB).lt
/-- within what is reckoned with -/
def mom (q : Qp) : Prop := 0 ≤ q.1 ∧ q.1 ≤ 1000000 * q.2
instance (q : Qp) : Decidable (mom q) := inferInstanceAs (Decidable (_ ∧ _))
theorem v_chain {p q : Int → Int → Bool} {x y z : Sx} {fr : Fr} : eChain p q x y z fr h = (x fr h).bind fun u h1 => (y fr h1).bind fun v h2 => match u, v with
    | .int i, .int j => if p i j = true then (z fr h2).bind fun w h3 => dRel q (.int j) w h3 else .ok (.bl false) h2
    | _, _ => .no := rfl
theorem ismom_ok {B : Nat} (f : Fq B (a, b)) (hB : B ≤ 8000 := by decide) : S_is_moment [.tup [.int a, .int b]] h = .ok (.bl (decide (mom (a, b)))) h := by
  have m : mulOk 1000000 b = true := Bd.mk (A := 30) (B := 8000) (by unfold Bd; decide) (f.b2.mono hB)
  have h1 : 1 ≤ b := f.pos
  have h2 : Nat.gcd a.natAbs b.natAbs = 1 := by have := f.low; unfold gI at this; exact Int.ofNat.inj this
  have i1 : ∀ l, gIsi "tuple" (.tup l) h = .ok (.bl true) h := fun l => rfl
  have i2 : ∀ j, gIsi "int" (.int j) h = .ok (.bl true) h := fun j => rfl
  have i3 : ∀ j c, dIsN false (.int j) (.bl c) h = .ok (.bl false) h := fun j c => rfl
  by_cases h0 : 0 ≤ a
  · simp [c_bind, c_into, c_then, v_K, v_V, v_vR, v_Op, v_Un, v_bOf, v_isB, v_isBx, v_bAnd, v_bOr, v_bNot, v_eAnd, v_eOr, v_eNot, v_eIf, v_aNil, v_aCons, v_Tup, v_Lst, v_Dct, v_Dct2, v_Call, v_CallK, v_Bi, v_Isi, v_Cut, v_oNone, v_oSome, v_vO, v_End, v_Seq, v_If, v_Ret, v_Expr, v_Set, v_Par, v_Raise, v_For, v_Put, v_fnx, v_frt, v_fex, v_of, v_add, v_sub, v_neg, v_rel, v_abs, v_lenT, v_lenS, v_max, v_min, v_intB, v_intI, v_gcd, v_cutT, v_listT, v_backT, v_eqI, v_eqS, List.replicate, small, atI, ixN, S_is_moment, i1, i2, i3, v_SetT, tgT, setAll, v_chain, v_mul m, h1, h2, h0, mom]
    by_cases h3 : a ≤ 1000000 * b <;> simp [h3] <;> rfl
  · simp [c_bind, c_into, c_then, v_K, v_V, v_vR, v_Op, v_Un, v_bOf, v_isB, v_isBx, v_bAnd, v_bOr, v_bNot, v_eAnd, v_eOr, v_eNot, v_eIf, v_aNil, v_aCons, v_Tup, v_Lst, v_Dct, v_Dct2, v_Call, v_CallK, v_Bi, v_Isi, v_Cut, v_oNone, v_oSome, v_vO, v_End, v_Seq, v_If, v_Ret, v_Expr, v_Set, v_Par, v_Raise, v_For, v_Put, v_fnx, v_frt, v_fex, v_of, v_add, v_sub, v_neg, v_rel, v_abs, v_lenT, v_lenS, v_max, v_min, v_intB, v_intI, v_gcd, v_cutT, v_listT, v_backT, v_eqI, v_eqS, List.replicate, small, atI, ixN, S_is_moment, i1, i2, i3, v_SetT, tgT, setAll, v_chain, v_mul m, h1, h2, h0, mom]
theorem needmom_ok {B : Nat} (f : Fq B (a, b)) (hm : mom (a, b)) (hB : B ≤ 8000 := by decide) : S_need_moment [.tup [.int a, .int b]] h = .ok .non h := by
  have e := ismom_ok (h := h) f hB
  rw [decide_eq_true hm] at e
  simp [c_bind, c_into, c_then, v_K, v_V, v_vR, v_Op, v_Un, v_bOf, v_isB, v_isBx, v_bAnd, v_bOr, v_bNot, v_eAnd, v_eOr, v_eNot, v_eIf, v_aNil, v_aCons, v_Tup, v_Lst, v_Dct, v_Dct2, v_Call, v_CallK, v_Bi, v_Isi, v_Cut, v_oNone, v_oSome, v_vO, v_End, v_Seq, v_If, v_Ret, v_Expr, v_Set, v_Par, v_Raise, v_For, v_Put, v_fnx, v_frt, v_fex, v_of, v_add, v_sub, v_neg, v_rel, v_abs, v_lenT, v_lenS, v_max, v_min, v_intB, v_intI, v_gcd, v_cutT, v_listT, v_backT, v_eqI, v_eqS, List.replicate, small, atI, ixN, S_need_moment, e]
end
end MI
end
section
set_option Elab.async false
set_option linter.all false
set_option autoImplicit false
set_option maxRecDepth 100000
set_option exponentiation.threshold 20000
set_option maxHeartbeats 4000000
open PySem L2
namespace MI
theorem PotAt.put {h : Hq} {p q : Nat} {n : Int} (P : PotAt h p n) (hq : q ≠ p) (c : Cell) : PotAt (h.set q c) p n := by
  obtain ⟨a, b, d, e, r⟩ := P.ex
  refine ⟨a, b, d, ?_, r⟩
  have e' := lstAt_some e
  unfold lstAt
  rw [List.getElem?_set_ne hq, e']
theorem Step.putNew {p q : Nat} {h h' : Hq} (S : Step p h h') (hq : h.length ≤ q) (c : Cell) : Step p h (h'.set q c) :=
  ⟨by simpa using S.len, fun r hr hl => by rw [List.getElem?_set_ne (by omega)]; exact S.old r hr hl⟩
/-- the part of a step that begins with new cells -/
theorem Step.cut {p : Nat} {h h' : Hq} {t : List Cell} (S : Step p (h ++ t) h') : Step p h h' := (Step.app p h t).trans S
theorem great2_ok {h : Hq} {p : Nat} {n many : Int} (P : PotAt h p n) (hn : n < 999990) (hm : 0 < many) (hb : many < 2 ^ 8000) :
    ∃ r h', S__law_great_2 [.ref p, .int many] h = .ok (.int r) h' ∧ 0 ≤ r ∧ r < many ∧ PotAt h' p (n + 3) ∧ Step p h h' := by
  by_cases hs : many < 1000000000000
  · obtain ⟨r, h1, e, r0, r1, P1, S1⟩ := take_ok P (by omega) hm hb
    exact ⟨r, h1, by simp [c_bind, c_into, c_then, v_K, v_V, v_vR, v_Op, v_Un, v_bOf, v_isB, v_isBx, v_bAnd, v_bOr, v_bNot, v_eAnd, v_eOr, v_eNot, v_eIf, v_aNil, v_aCons, v_Tup, v_Lst, v_Dct, v_Dct2, v_Call, v_CallK, v_Bi, v_Isi, v_Cut, v_oNone, v_oSome, v_vO, v_End, v_Seq, v_If, v_Ret, v_Expr, v_Set, v_Par, v_Raise, v_For, v_Put, v_fnx, v_frt, v_fex, v_of, v_add, v_sub, v_neg, v_rel, v_abs, v_lenT, v_lenS, v_max, v_min, v_intB, v_intI, v_gcd, v_cutT, v_listT, v_backT, v_eqI, v_eqS, List.replicate, small, atI, ixN, S__law_great_2, v_pow10, hs, e], r0, r1, P1.mono (by omega), S1⟩
  · have hp := P.lt
    have nq : h.length ≠ p := by omega
    obtain ⟨x, h1, e1, x0, x1, P1, S1⟩ := take_ok (many := 1000000000000) (P.app [.lst []]) (by omega) (by decide) (by decide)
    have l1 : lstAt h1 h.length = some [] := S1.lst nq (lst_new h [])
    have z1 := lstAt_lt l1
    obtain ⟨y, h2, e2, y0, y1, P2, S2⟩ := take_ok (many := 1000000000000) (P1.put nq (.lst [.int x])) (by omega) (by decide) (by decide)
    have l2 : lstAt h2 h.length = some [.int x] := S2.lst nq (lstAt_set z1)
    have z2 := lstAt_lt l2
    obtain ⟨z, h3, e3, z0, z1', P3, S3⟩ := take_ok (many := 1000000000000) (P2.put nq (.lst [.int x, .int y])) (by omega) (by decide) (by decide)
    have l3 : lstAt h3 h.length = some [.int x, .int y] := S3.lst nq (lstAt_set z2)
    have z3 := lstAt_lt l3
    have l4 : lstAt (h3.set h.length (.lst [.int x, .int y, .int z])) h.length = some [.int x, .int y, .int z] := lstAt_set z3
    have m1 : mulOk x 1000000000000000000000000 = true := mulOk_of (l64 (by omega) (by omega)) (by decide)
    have m2 : mulOk y 1000000000000 = true := mulOk_of (l64 (by omega) (by omega)) (by decide)
    refine ⟨(x * 1000000000000000000000000 + y * 1000000000000 + z) % many, h3.set h.length (.lst [.int x, .int y, .int z]), ?_, Int.emod_nonneg _ (by omega), Int.emod_lt_of_pos _ hm, (P3.put nq _).mono (by omega), ?_⟩
    · have i0 : dIx (.ref h.length) (.int 0) (h3.set h.length (.lst [.int x, .int y, .int z])) = .ok (.int x) _ := v_ixL l4 rfl
      have i1 : dIx (.ref h.length) (.int 1) (h3.set h.length (.lst [.int x, .int y, .int z])) = .ok (.int y) _ := v_ixL l4 rfl
      have i2 : dIx (.ref h.length) (.int 2) (h3.set h.length (.lst [.int x, .int y, .int z])) = .ok (.int z) _ := v_ixL l4 rfl
      simp [c_bind, c_into, c_then, v_K, v_V, v_vR, v_Op, v_Un, v_bOf, v_isB, v_isBx, v_bAnd, v_bOr, v_bNot, v_eAnd, v_eOr, v_eNot, v_eIf, v_aNil, v_aCons, v_Tup, v_Lst, v_Dct, v_Dct2, v_Call, v_CallK, v_Bi, v_Isi, v_Cut, v_oNone, v_oSome, v_vO, v_End, v_Seq, v_If, v_Ret, v_Expr, v_Set, v_Par, v_Raise, v_For, v_Put, v_fnx, v_frt, v_fex, v_of, v_add, v_sub, v_neg, v_rel, v_abs, v_lenT, v_lenS, v_max, v_min, v_intB, v_intI, v_gcd, v_cutT, v_listT, v_backT, v_eqI, v_eqS, List.replicate, small, atI, ixN, S__law_great_2, v_pow10, hs, eComp, iRange, iR, picks, cYes, tgN, wipeF, l1, l2, l3, e1, e2, e3, i0, i1, i2, v_mul m1, v_mul m2, v_mod hm]
    · have A := (S1.cut.putNew (Nat.le_refl _) (.lst [.int x])).trans S2
      have B := (A.putNew (Nat.le_refl _) (.lst [.int x, .int y])).trans S3
      exact B.putNew (Nat.le_refl _) _
end MI
end
section
set_option Elab.async false
set_option linter.all false
set_option autoImplicit false
set_option maxRecDepth 100000
set_option exponentiation.threshold 20000
set_option maxHeartbeats 4000000
open PySem L2
namespace MI
section
variable {α β : Type}
def W (r : Rs α) (Φ : Rs α → Prop) : Prop := Φ r
def Z (s : SR) (Ψ : SR → Prop) : Prop := Ψ s
/-- by a truth: what is to come stays shut till it is known -/
def BrW {γ : Type} (c : Bool) (A B : Hq → Rs γ) (h : Hq) (Φ : Rs γ → Prop) : Prop := match c with
  | true => W (A h) Φ
  | false => W (B h) Φ
def BrZ (c : Bool) (A B : Hq → SR) (h : Hq) (Ψ : SR → Prop) : Prop := match c with
  | true => Z (A h) Ψ
  | false => Z (B h) Ψ
section
variable {γ : Type} {c : Bool} {A B : Hq → Rs γ} {h : Hq} {Φ : Rs γ → Prop} {A' B' : Hq → SR} {Ψ : SR → Prop} {p : Prop} [Decidable p]
theorem brw_t : BrW true A B h Φ = W (A h) Φ := rfl
theorem brw_f : BrW false A B h Φ = W (B h) Φ := rfl
theorem brz_t : BrZ true A' B' h Ψ = Z (A' h) Ψ := rfl
theorem brz_f : BrZ false A' B' h Ψ = Z (B' h) Ψ := rfl
theorem brw (h1 : c = true → W (A h) Φ) (h2 : c = false → W (B h) Φ) : BrW c A B h Φ := by
  cases c
  · exact h2 rfl
  · exact h1 rfl
theorem brz (h1 : c = true → Z (A' h) Ψ) (h2 : c = false → Z (B' h) Ψ) : BrZ c A' B' h Ψ := by
  cases c
  · exact h2 rfl
  · exact h1 rfl
theorem brzP (h1 : p → Z (A' h) Ψ) (h2 : ¬ p → Z (B' h) Ψ) : BrZ (decide p) A' B' h Ψ := brz (fun e => h1 (of_decide_eq_true e)) fun e => h2 (of_decide_eq_false e)
end
def kB (f : α → Hq → Rs β) (Φ : Rs β → Prop) : Rs α → Prop
  | .ok a h => W (f a h) Φ
  | .exc x h => Φ (.exc x h)
  | .no => Φ .no
def kI (f : α → Hq → SR) (Ψ : SR → Prop) : Rs α → Prop
  | .ok a h => Z (f a h) Ψ
  | .exc x h => Ψ (.exc x h)
  | .no => Ψ .no
def kT (g : Ss) (Ψ : SR → Prop) : SR → Prop
  | .nx fr h => Z (g fr h) Ψ
  | .rt d h => Ψ (.rt d h)
  | .bk fr h => Ψ (.bk fr h)
  | .ct fr h => Ψ (.ct fr h)
  | .exc x h => Ψ (.exc x h)
  | .no => Ψ .no
def kF (Φ : Rs D → Prop) (s : SR) : Prop := Φ (fin s)
theorem w_bind {r : Rs α} {f : α → Hq → Rs β} {Φ : Rs β → Prop} : W (r.bind f) Φ = W r (kB f Φ) := by cases r <;> rfl
theorem z_into {r : Rs α} {f : α → Hq → SR} {Ψ : SR → Prop} : Z (r.into f) Ψ = W r (kI f Ψ) := by cases r <;> rfl
theorem z_then {s : SR} {g : Ss} {Ψ : SR → Prop} : Z (s.then g) Ψ = Z s (kT g Ψ) := by cases s <;> rfl
end
section
variable {α β : Type} {g : D → D → Hq → Rs D} {a b c f : Sx} {t u : Sb} {p q : Ss} {as bs : Sa} {lo hi : So} {fr : Fr} {h : Hq} {d e x y : D} {ds es : List D} {i j : Int} {n m k : Nat} {Φ : Rs D → Prop} {Θ : Rs Bool → Prop} {Ξ : Rs (List D) → Prop} {Ψ : SR → Prop}
theorem w_ok {v : α} {Φ : Rs α → Prop} : W (.ok v h) Φ = Φ (.ok v h) := rfl
theorem kB_ok {v : α} {f : α → Hq → Rs β} {Φ : Rs β → Prop} : kB f Φ (.ok v h) = W (f v h) Φ := rfl
theorem kI_ok {v : α} {f : α → Hq → SR} : kI f Ψ (.ok v h) = Z (f v h) Ψ := rfl
theorem w_K : W (eK d fr h) Φ = Φ (.ok d h) := rfl
theorem w_V : W (eV n fr h) Φ = W (vR fr[n]? h) Φ := by rw [v_V]
theorem w_vR : W (vR (some (some d)) h) Φ = Φ (.ok d h) := rfl
def kO1 (g : D → D → Hq → Rs D) (b : Sx) (fr : Fr) (Φ : Rs D → Prop) : Rs D → Prop := kB (fun x h1 => (b fr h1).bind fun y h2 => g x y h2) Φ
def kO2 (g : D → D → Hq → Rs D) (x : D) (Φ : Rs D → Prop) : Rs D → Prop := kB (fun y h2 => g x y h2) Φ
theorem w_Op : W (eOp g a b fr h) Φ = W (a fr h) (kO1 g b fr Φ) := w_bind
theorem kO1_ok : kO1 g b fr Φ (.ok x h) = W (b fr h) (kO2 g x Φ) := w_bind
theorem kO2_ok : kO2 g x Φ (.ok y h) = W (g x y h) Φ := rfl
theorem w_Un {g : D → Hq → Rs D} : W (eUn g a fr h) Φ = W (a fr h) (kB g Φ) := w_bind
def kBl (Θ : Rs Bool → Prop) : Rs D → Prop := fun r => Θ (isB r)
theorem w_bOf : W (bOf a fr h) Θ = W (a fr h) (kBl Θ) := rfl
theorem w_isB {r : Rs D} : W (isB r) Θ = W r (kBl Θ) := rfl
theorem kBl_ok {c : Bool} : kBl Θ (.ok (.bl c) h) = Θ (.ok c h) := rfl
theorem kBl_exc {x : Xn} : kBl Θ (.exc x h) = Θ (.exc x h) := rfl
def kIf {γ : Type} (A B : Hq → Rs γ) (Φ : Rs γ → Prop) : Rs Bool → Prop
  | .ok c h => BrW c A B h Φ
  | .exc x h => Φ (.exc x h)
  | .no => Φ .no
theorem w_ifB {γ : Type} {r : Rs Bool} {A B : Hq → Rs γ} {Φ : Rs γ → Prop} : W (r.bind fun c h1 => if c = true then A h1 else B h1) Φ = W r (kIf A B Φ) := by
  cases r with
  | ok c h => cases c <;> rfl
  | exc x h => rfl
  | no => rfl
theorem kIf_ok {γ : Type} {A B : Hq → Rs γ} {Φ : Rs γ → Prop} {c : Bool} : kIf A B Φ (.ok c h) = BrW c A B h Φ := rfl
theorem kIf_exc {γ : Type} {A B : Hq → Rs γ} {Φ : Rs γ → Prop} {x : Xn} : kIf A B Φ (.exc x h) = Φ (.exc x h) := rfl
def okB (c : Bool) : Hq → Rs Bool := fun h => .ok c h
def okD (d : D) : Hq → Rs D := fun h => .ok d h
theorem w_okB {c : Bool} : W (okB c h) Θ = Θ (.ok c h) := rfl
theorem w_okD : W (okD d h) Φ = Φ (.ok d h) := rfl
theorem w_bAnd : W (bAnd t u fr h) Θ = W (t fr h) (kIf (u fr) (okB false) Θ) := w_ifB
theorem w_bOr : W (bOr t u fr h) Θ = W (t fr h) (kIf (okB true) (u fr) Θ) := w_ifB
def kNot (Θ : Rs Bool → Prop) : Rs Bool → Prop := kB (fun c h1 => .ok (!c) h1) Θ
theorem w_bNot : W (bNot t fr h) Θ = W (t fr h) (kNot Θ) := w_bind
theorem kNot_ok {c : Bool} : kNot Θ (.ok c h) = Θ (.ok (!c) h) := rfl
theorem kNot_exc {x : Xn} : kNot Θ (.exc x h) = Θ (.exc x h) := rfl
theorem w_eAnd : W (eAnd a b fr h) Φ = W (a fr h) (kBl (kIf (b fr) (okD (.bl false)) Φ)) := w_ifB
theorem w_eOr : W (eOr a b fr h) Φ = W (a fr h) (kBl (kIf (okD (.bl true)) (b fr) Φ)) := w_ifB
def kNotV (Φ : Rs D → Prop) : Rs Bool → Prop := kB (fun c h1 => .ok (.bl (!c)) h1) Φ
theorem w_eNot : W (eNot a fr h) Φ = W (a fr h) (kBl (kNotV Φ)) := w_bind
theorem kNotV_ok {c : Bool} : kNotV Φ (.ok c h) = Φ (.ok (.bl (!c)) h) := rfl
theorem w_eIf : W (eIf t a b fr h) Φ = W (t fr h) (kIf (a fr) (b fr) Φ) := w_ifB
theorem wipeF_nil : wipeF fr [] = fr := rfl
theorem wipeF_cons {vs : List Nat} : wipeF fr (n :: vs) = (wipeF fr vs).set n none := rfl
theorem w_Yes : W (cYes fr h) Θ = Θ (.ok true h) := rfl
theorem w_aNil : W (aNil fr h) Ξ = Ξ (.ok [] h) := rfl
def kA1 (as : Sa) (fr : Fr) (Ξ : Rs (List D) → Prop) : Rs D → Prop := kB (fun x h1 => (as fr h1).bind fun xs h2 => .ok (x :: xs) h2) Ξ
def kA2 (x : D) (Ξ : Rs (List D) → Prop) : Rs (List D) → Prop := kB (fun xs h2 => .ok (x :: xs) h2) Ξ
theorem w_aCons : W (aCons a as fr h) Ξ = W (a fr h) (kA1 as fr Ξ) := w_bind
theorem kA1_ok : kA1 as fr Ξ (.ok x h) = W (as fr h) (kA2 x Ξ) := w_bind
theorem kA2_ok : kA2 x Ξ (.ok ds h) = Ξ (.ok (x :: ds) h) := rfl
theorem kA1_exc {z : Xn} : kA1 as fr Ξ (.exc z h) = Ξ (.exc z h) := rfl
theorem kA2_exc {z : Xn} : kA2 x Ξ (.exc z h) = Ξ (.exc z h) := rfl
def mkT (ds : List D) (h : Hq) : Rs D := if small ds.length = true then .ok (.tup ds) h else .no
def mkL (ds : List D) (h : Hq) : Rs D := if small ds.length = true then .ok (.ref h.length) (h ++ [.lst ds]) else .no
theorem w_Tup : W (eTup as fr h) Φ = W (as fr h) (kB mkT Φ) := w_bind
theorem w_Lst : W (eLst as fr h) Φ = W (as fr h) (kB mkL Φ) := w_bind
theorem w_mkT (e : small ds.length = true) : W (mkT ds h) Φ = Φ (.ok (.tup ds) h) := by unfold mkT W; rw [if_pos e]
theorem w_mkL (e : small ds.length = true) : W (mkL ds h) Φ = Φ (.ok (.ref h.length) (h ++ [.lst ds])) := by unfold mkL W; rw [if_pos e]
theorem w_Dct : W (eDct0 fr h) Φ = Φ (.ok (.ref h.length) (h ++ [.dct []])) := rfl
theorem w_SoSe {f : Sx} : W (eSoSe f fr h) Φ = W (f fr h) (kB gSoSe Φ) := w_bind
theorem w_Dct2 {a b : Str} {i j : Int} : W (eDct2 a b i j fr h) Φ = Φ (.ok (.ref h.length) (h ++ [.dct [(.inr a, .int i), (.inr b, .int j)]])) := rfl
def goS (n : Nat) (sem : Sf) (ds : List D) (h : Hq) : Rs D := if ds.length = n then sem ds h else .no
theorem w_Call {sem : Sf} : W (eCall n sem as fr h) Φ = W (as fr h) (kB (goS n sem) Φ) := w_bind
theorem w_goS {sem : Sf} (e : ds.length = n) : W (goS n sem ds h) Φ = W (sem ds h) Φ := by unfold goS; rw [if_pos e]
theorem w_Bi {g : List D → Hq → Rs D} : W (eBi g as fr h) Φ = W (as fr h) (kB g Φ) := w_bind
theorem w_Isi {T : String} : W (eIsi T a fr h) Φ = W (a fr h) (kB (gIsi T) Φ) := w_bind
def kC1 (lo hi : So) (fr : Fr) (Φ : Rs D → Prop) : Rs D → Prop := kB (fun x h1 => (lo fr h1).bind fun l h2 => (hi fr h2).bind fun u h3 => dCut x l u h3) Φ
def kC2 (x : D) (hi : So) (fr : Fr) (Φ : Rs D → Prop) : Rs (Option Int) → Prop := kB (fun l h2 => (hi fr h2).bind fun u h3 => dCut x l u h3) Φ
def kC3 (x : D) (l : Option Int) (Φ : Rs D → Prop) : Rs (Option Int) → Prop := kB (fun u h3 => dCut x l u h3) Φ
theorem w_Cut : W (eCut a lo hi fr h) Φ = W (a fr h) (kC1 lo hi fr Φ) := w_bind
theorem kC1_ok : kC1 lo hi fr Φ (.ok x h) = W (lo fr h) (kC2 x hi fr Φ) := w_bind
theorem kC2_ok {l : Option Int} : kC2 x hi fr Φ (.ok l h) = W (hi fr h) (kC3 x l Φ) := w_bind
theorem kC3_ok {l r : Option Int} : kC3 x l Φ (.ok r h) = W (dCut x l r h) Φ := rfl
variable {Ω : Rs (Option Int) → Prop}
theorem w_oNone : W (oNone fr h) Ω = Ω (.ok none h) := rfl
theorem w_oSome : W (oSome a fr h) Ω = W (a fr h) (kB vO Ω) := by rw [v_oSome]; exact w_bind
theorem w_vO : W (vO (.int i) h) Ω = Ω (.ok (some i) h) := rfl
def kCh1 (p q : Int → Int → Bool) (b c : Sx) (fr : Fr) (Φ : Rs D → Prop) : Rs D → Prop := kB (fun x h1 => (b fr h1).bind fun y h2 => match x, y with
  | .int i, .int j => if p i j = true then (c fr h2).bind fun z h3 => dRel q (.int j) z h3 else .ok (.bl false) h2
  | _, _ => .no) Φ
def kCh2 (p q : Int → Int → Bool) (x : D) (c : Sx) (fr : Fr) (Φ : Rs D → Prop) : Rs D → Prop := kB (fun y h2 => match x, y with
  | .int i, .int j => if p i j = true then (c fr h2).bind fun z h3 => dRel q (.int j) z h3 else .ok (.bl false) h2
  | _, _ => .no) Φ
def kCh3 (q : Int → Int → Bool) (j : Int) (Φ : Rs D → Prop) : Rs D → Prop := kB (fun z h3 => dRel q (.int j) z h3) Φ
theorem w_Chain {p q : Int → Int → Bool} : W (eChain p q a b c fr h) Φ = W (a fr h) (kCh1 p q b c fr Φ) := w_bind
theorem kCh1_ok {p q : Int → Int → Bool} : kCh1 p q b c fr Φ (.ok x h) = W (b fr h) (kCh2 p q x c fr Φ) := w_bind
def chA (q : Int → Int → Bool) (j : Int) (c : Sx) (fr : Fr) (h : Hq) : Rs D := (c fr h).bind fun z h3 => dRel q (.int j) z h3
theorem w_chA {q : Int → Int → Bool} : W (chA q j c fr h) Φ = W (c fr h) (kCh3 q j Φ) := w_bind
theorem kCh2_ok {p q : Int → Int → Bool} : kCh2 p q (.int i) c fr Φ (.ok (.int j) h) = BrW (p i j) (chA q j c fr) (okD (.bl false)) h Φ := by
  show W (if p i j = true then (c fr h).bind _ else .ok (.bl false) h) Φ = _
  cases hp : p i j with
  | true => rw [if_pos rfl]; rfl
  | false => rw [if_neg Bool.false_ne_true]; rfl
theorem kCh3_ok {q : Int → Int → Bool} : kCh3 q j Φ (.ok (.int i) h) = Φ (.ok (.bl (q j i)) h) := rfl
theorem w_bTru : W (bTru a fr h) Θ = W (a fr h) (kB truD Θ) := w_bind
def augF (fr : Fr) (i : Nat) (g : Int → Int → Int) (x : Int) (Ψ : SR → Prop) : Rs D → Prop := kI (fun d h1 => match d with
    | .int y => .nx (fr.set i (some (.int (g x y)))) h1
    | _ => .no) Ψ
theorem augF_ok {g : Int → Int → Int} : augF fr n g i Ψ (.ok (.int j) h) = Ψ (.nx (fr.set n (some (.int (g i j)))) h) := rfl
def putF (fo fi : Sx) (fr : Fr) (Ψ : SR → Prop) : Rs D → Prop := kI (fun d h1 => (fo fr h1).into fun o h2 => (fi fr h2).into fun k h3 => vPut d o k fr h3) Ψ
def putG (fi : Sx) (fr : Fr) (d : D) (Ψ : SR → Prop) : Rs D → Prop := kI (fun o h2 => (fi fr h2).into fun k h3 => vPut d o k fr h3) Ψ
def putH (fr : Fr) (d o : D) (Ψ : SR → Prop) : Rs D → Prop := kI (fun k h3 => vPut d o k fr h3) Ψ
theorem z_Put : Z (sPut a b c fr h) Ψ = W (a fr h) (putF b c fr Ψ) := by rw [v_Put]; exact z_into
theorem putF_ok : putF b c fr Ψ (.ok d h) = W (b fr h) (putG c fr d Ψ) := z_into
theorem putG_ok : putG c fr d Ψ (.ok x h) = W (c fr h) (putH fr d x Ψ) := z_into
theorem w_isNn {neg : Bool} : W (dIsN neg .non .non h) Φ = Φ (.ok (.bl (!neg)) h) := by cases neg <;> rfl
theorem w_isNt {neg : Bool} {l : List D} : W (dIsN neg (.tup l) .non h) Φ = Φ (.ok (.bl neg) h) := by cases neg <;> rfl
def apF (f : Sx) (fr : Fr) (o : D) (h1 : Hq) : Rs D := match o with
  | .ref n => match lstAt h1 n with
    | some _ => (f fr h1).bind fun d h2 => match lstAt h2 n with
      | some l => if small (l.length + 1) = true then .ok .non (h2.set n (.lst (l ++ [d]))) else .no
      | none => .no
    | none => .no
  | _ => .no
def apG (n : Nat) (d : D) (h2 : Hq) : Rs D := match lstAt h2 n with
      | some l => if small (l.length + 1) = true then .ok .non (h2.set n (.lst (l ++ [d]))) else .no
      | none => .no
theorem w_App : W (eApp a b fr h) Φ = W (a fr h) (kB (apF b fr) Φ) := w_bind
theorem w_apF {l : List D} (e : lstAt h n = some l) : W (apF b fr (.ref n) h) Φ = W (b fr h) (kB (apG n) Φ) := by
  unfold apF
  simp only [e]
  exact w_bind
theorem w_apG {l : List D} (e : lstAt h n = some l) (s : small (l.length + 1) = true) : W (apG n d h) Φ = Φ (.ok .non (h.set n (.lst (l ++ [d])))) := by
  unfold apG W
  simp only [e, s, if_true]
def insF (fi fe : Sx) (fr : Fr) (o : D) (h1 : Hq) : Rs D := match o with
  | .ref n => match lstAt h1 n with
    | some _ => (fi fr h1).bind fun k h2 => (fe fr h2).bind fun d h3 => match k with
      | .int j => match lstAt h3 n with
        | some l => if 0 ≤ j ∧ j < 2 ^ 63 ∧ small (l.length + 1) = true then .ok .non (h3.set n (.lst (l.take j.toNat ++ [d] ++ l.drop j.toNat))) else .no
        | none => .no
      | _ => .no
    | none => .no
  | _ => .no
def insH (n : Nat) (k d : D) (h3 : Hq) : Rs D := match k with
      | .int j => match lstAt h3 n with
        | some l => if 0 ≤ j ∧ j < 2 ^ 63 ∧ small (l.length + 1) = true then .ok .non (h3.set n (.lst (l.take j.toNat ++ [d] ++ l.drop j.toNat))) else .no
        | none => .no
      | _ => .no
def insG (fe : Sx) (fr : Fr) (n : Nat) (k : D) (h2 : Hq) : Rs D := (fe fr h2).bind (insH n k)
theorem w_Ins {c : Sx} : W (eIns a b c fr h) Φ = W (a fr h) (kB (insF b c fr) Φ) := w_bind
theorem w_insG : W (insG b fr n x h) Φ = W (b fr h) (kB (insH n x) Φ) := w_bind
theorem z_nx : Z (.nx fr h) Ψ = Ψ (.nx fr h) := rfl
theorem z_End : Z (sEnd fr h) Ψ = Ψ (.nx fr h) := rfl
theorem z_Seq : Z (sSeq p q fr h) Ψ = Z (p fr h) (kT q Ψ) := z_then
theorem kT_nx : kT q Ψ (.nx fr h) = Z (q fr h) Ψ := rfl
theorem kT_rt : kT q Ψ (.rt d h) = Ψ (.rt d h) := rfl
theorem kT_bk : kT q Ψ (.bk fr h) = Ψ (.bk fr h) := rfl
theorem kT_ct : kT q Ψ (.ct fr h) = Ψ (.ct fr h) := rfl
theorem kT_exc {x : Xn} : kT q Ψ (.exc x h) = Ψ (.exc x h) := rfl
def kIfS (A B : Hq → SR) (Ψ : SR → Prop) : Rs Bool → Prop
  | .ok c h => BrZ c A B h Ψ
  | .exc x h => Ψ (.exc x h)
  | .no => Ψ .no
theorem z_If : Z (sIf t p q fr h) Ψ = W (t fr h) (kIfS (p fr) (q fr) Ψ) := by
  show Z ((t fr h).into _) Ψ = _
  cases t fr h with
  | ok c h1 => cases c <;> rfl
  | exc x h1 => rfl
  | no => rfl
theorem kIfS_ok {A B : Hq → SR} {c : Bool} : kIfS A B Ψ (.ok c h) = BrZ c A B h Ψ := rfl
theorem kIfS_exc {A B : Hq → SR} {x : Xn} : kIfS A B Ψ (.exc x h) = Ψ (.exc x h) := rfl
def kRet (Ψ : SR → Prop) : Rs D → Prop
  | .ok d h => Ψ (.rt d h)
  | .exc x h => Ψ (.exc x h)
  | .no => Ψ .no
theorem z_Ret : Z (sRet a fr h) Ψ = W (a fr h) (kRet Ψ) := by
  show Z ((a fr h).into _) Ψ = _
  cases a fr h <;> rfl
theorem kRet_ok : kRet Ψ (.ok d h) = Ψ (.rt d h) := rfl
theorem kRet_exc {x : Xn} : kRet Ψ (.exc x h) = Ψ (.exc x h) := rfl
def kNx (fr : Fr) (Ψ : SR → Prop) : Rs D → Prop
  | .ok _ h => Ψ (.nx fr h)
  | .exc x h => Ψ (.exc x h)
  | .no => Ψ .no
theorem z_Expr : Z (sExpr a fr h) Ψ = W (a fr h) (kNx fr Ψ) := by
  show Z ((a fr h).into _) Ψ = _
  cases a fr h <;> rfl
theorem kNx_ok : kNx fr Ψ (.ok d h) = Ψ (.nx fr h) := rfl
theorem kNx_exc {x : Xn} : kNx fr Ψ (.exc x h) = Ψ (.exc x h) := rfl
def tgO (fr : Option Fr) (h : Hq) : SR := match fr with
  | some fr' => .nx fr' h
  | none => .no
def kAs (t : Tg) (fr : Fr) (Ψ : SR → Prop) : Rs D → Prop
  | .ok d h => Z (tgO (t d fr) h) Ψ
  | .exc x h => Ψ (.exc x h)
  | .no => Ψ .no
theorem z_Asg {t : Tg} : Z (sAsg a t fr h) Ψ = W (a fr h) (kAs t fr Ψ) := by
  show Z ((a fr h).into _) Ψ = _
  cases a fr h <;> rfl
theorem kAs_ok {t : Tg} : kAs t fr Ψ (.ok d h) = Z (tgO (t d fr) h) Ψ := rfl
theorem kAs_exc {t : Tg} {x : Xn} : kAs t fr Ψ (.exc x h) = Ψ (.exc x h) := rfl
theorem z_tgO {fr' : Fr} : Z (tgO (some fr') h) Ψ = Ψ (.nx fr' h) := rfl
theorem t_N : tgN n d fr = some (fr.set n (some d)) := rfl
theorem t_T {is : List Nat} : tgT is (.tup ds) fr = setAll is ds fr := rfl
theorem t_nil : setAll [] [] fr = some fr := rfl
theorem t_cons {is : List Nat} : setAll (n :: is) (d :: ds) fr = setAll is ds (fr.set n (some d)) := rfl
theorem t_G {ts : List Tg} : tgG ts (.tup ds) fr = setAllT ts ds fr := rfl
theorem t_gnil : setAllT [] [] fr = some fr := rfl
theorem t_gcons {t : Tg} {ts : List Tg} : setAllT (t :: ts) (d :: ds) fr = (t d fr).bind fun fr1 => setAllT ts ds fr1 := rfl
theorem t_bind {f : Fr → Option Fr} : (some fr).bind f = f fr := rfl
def kPar (i j : Nat) (fr : Fr) (Ψ : SR → Prop) : Rs (List D) → Prop := kI (fun ds h1 => match ds with
  | [d, e] => .nx ((fr.set i (some d)).set j (some e)) h1
  | _ => .no) Ψ
theorem z_Par : Z (sPar n m as fr h) Ψ = W (as fr h) (kPar n m fr Ψ) := z_into
theorem kPar_ok : kPar n m fr Ψ (.ok [d, e] h) = Ψ (.nx ((fr.set n (some d)).set m (some e)) h) := rfl
theorem z_Raise {x : Str} : Z (sRaise x fr h) Ψ = Ψ (.exc { cls := x } h) := rfl
theorem z_Break : Z (sBreak fr h) Ψ = Ψ (.bk fr h) := rfl
theorem z_Cont : Z (sCont fr h) Ψ = Ψ (.ct fr h) := rfl
def kSrc (t : Tg) (b : Ss) (fr : Fr) (Ψ : SR → Prop) : Rs Src → Prop := kI (fun S h1 => turns S.get S.fin t b S.n 0 fr h1) Ψ
theorem z_For {src : Si} {t : Tg} : Z (sFor t src p fr h) Ψ = W (src fr h) (kSrc t p fr Ψ) := z_into
theorem kSrc_ok {t : Tg} {S : Src} : kSrc t p fr Ψ (.ok S h) = Z (turns S.get S.fin t p S.n 0 fr h) Ψ := rfl
variable {Sg : Rs Src → Prop}
def rgF (ds : List D) (h1 : Hq) : Rs Src := match ds with
  | [.int j] => iR 0 j h1
  | _ => .no
theorem w_Range : W (iRange as fr h) Sg = W (as fr h) (kB rgF Sg) := w_bind
theorem w_rgF : W (rgF [.int i] h) Sg = W (iR 0 i h) Sg := rfl
def sqF (d : D) (h1 : Hq) : Rs Src := match d with
  | .tup l => .ok (srcT l) h1
  | .ref m => match lstAt h1 m with
    | some l => .ok (srcC m l.length) h1
    | none => .no
  | _ => .no
theorem w_SeqI : W (iSeq a fr h) Sg = W (a fr h) (kB sqF Sg) := w_bind
theorem w_sqT {l : List D} : W (sqF (.tup l) h) Sg = Sg (.ok (srcT l) h) := rfl
theorem w_sqL {l : List D} (e : lstAt h n = some l) : W (sqF (.ref n) h) Sg = Sg (.ok (srcC n l.length) h) := by
  unfold sqF W
  simp only [e]
def zpF (ds : List D) (h1 : Hq) : Rs Src := match ds with
  | [.tup l, .tup m] => .ok (srcZ l m) h1
  | [.ref a, .ref b] => match lstAt h1 a, lstAt h1 b with
    | some l, some m => .ok (srcZL a b (min l.length m.length)) h1
    | _, _ => .no
  | _ => .no
theorem w_Zip : W (iZip2 as fr h) Sg = W (as fr h) (kB zpF Sg) := w_bind
theorem w_zpT {l r : List D} : W (zpF [.tup l, .tup r] h) Sg = Sg (.ok (srcZ l r) h) := rfl
def kCo (own : List Nat) (t : Tg) (c : Sb) (e : Sx) (fr : Fr) (Φ : Rs D → Prop) : Rs Src → Prop := kB (fun S h1 => picks h1.length S.get S.fin t c e (wipeF fr own) S.n 0 (h1 ++ [.lst []])) Φ
theorem w_Comp {src : Si} {own : List Nat} {t : Tg} {c : Sb} : W (eComp src own t c a fr h) Φ = W (src fr h) (kCo own t c a fr Φ) := w_bind
theorem kCo_ok {own : List Nat} {t : Tg} {c : Sb} {S : Src} : kCo own t c a fr Φ (.ok S h) = W (picks h.length S.get S.fin t c a (wipeF fr own) S.n 0 (h ++ [.lst []])) Φ := rfl
theorem w_of (e : ds.length = n) : W (ofBody n k p ds h) Φ = Z (p (ds.map some ++ List.replicate k none) h) (kF Φ) := by
  rw [v_of e]; rfl
theorem kF_rt : kF Φ (.rt d h) = Φ (.ok d h) := rfl
theorem kF_nx : kF Φ (.nx fr h) = Φ (.ok .non h) := rfl
theorem kF_exc {x : Xn} : kF Φ (.exc x h) = Φ (.exc x h) := rfl
theorem w_add : W (dAdd (.int i) (.int j) h) Φ = Φ (.ok (.int (i + j)) h) := rfl
theorem w_sub : W (dSub (.int i) (.int j) h) Φ = Φ (.ok (.int (i - j)) h) := rfl
theorem w_mul (e : mulOk i j = true) : W (dMul (.int i) (.int j) h) Φ = Φ (.ok (.int (i * j)) h) := by unfold W; rw [v_mul e]
theorem w_pow10 (e0 : 0 ≤ j) (e1 : j ≤ 1000) : W (dPow (.int 10) (.int j) h) Φ = Φ (.ok (.int (10 ^ j.toNat)) h) := by unfold W; rw [v_pow10 e0 e1]
theorem w_neg : W (dNeg (.int i) h) Φ = Φ (.ok (.int (-i)) h) := rfl
theorem w_lt : W (dLt (.int i) (.int j) h) Φ = Φ (.ok (.bl (decide (i < j))) h) := rfl
theorem w_le : W (dLe (.int i) (.int j) h) Φ = Φ (.ok (.bl (decide (i ≤ j))) h) := rfl
theorem w_gt : W (dGt (.int i) (.int j) h) Φ = Φ (.ok (.bl (decide (j < i))) h) := rfl
theorem w_ge : W (dGe (.int i) (.int j) h) Φ = Φ (.ok (.bl (decide (j ≤ i))) h) := rfl
theorem w_ixT {l : List D} (e : atI l i = some d) : W (dIx (.tup l) (.int i) h) Φ = Φ (.ok d h) := by unfold W; rw [v_ixT e]
theorem w_ixL {l : List D} (e0 : lstAt h m = some l) (e : atI l i = some d) : W (dIx (.ref m) (.int i) h) Φ = Φ (.ok d h) := by unfold W; rw [v_ixL e0 e]
theorem atI0 {r : List D} : atI (d :: r) 0 = some d := by
  unfold atI ixN
  simp
theorem atI1 {r : List D} : atI (x :: d :: r) 1 = some d := by
  unfold atI ixN
  simp
  rw [if_pos (by omega)]
  rfl
theorem atI2 {r : List D} : atI (x :: y :: d :: r) 2 = some d := by
  unfold atI ixN
  simp
  rw [if_pos (by omega)]
  rfl
theorem atI3 {z : D} {r : List D} : atI (x :: y :: z :: d :: r) 3 = some d := by
  unfold atI ixN
  simp
  rw [if_pos (by omega)]
  rfl
theorem w_ix0 {r : List D} : W (dIx (.tup (d :: r)) (.int 0) h) Φ = Φ (.ok d h) := w_ixT atI0
theorem w_ix1 {r : List D} : W (dIx (.tup (x :: d :: r)) (.int 1) h) Φ = Φ (.ok d h) := w_ixT atI1
theorem w_ix2 {r : List D} : W (dIx (.tup (x :: y :: d :: r)) (.int 2) h) Φ = Φ (.ok d h) := w_ixT atI2
theorem w_ix3 {z : D} {r : List D} : W (dIx (.tup (x :: y :: z :: d :: r)) (.int 3) h) Φ = Φ (.ok d h) := w_ixT atI3
theorem w_eqI {b : Bool} : W (dEqs b (.int i) (.int j) h) Φ = Φ (.ok (.bl ((i == j) != b)) h) := by unfold W; rw [v_eqI]
theorem w_eqS {x y : Str} {b : Bool} : W (dEqs b (.str x) (.str y) h) Φ = Φ (.ok (.bl (decide (x = y) != b)) h) := by unfold W; rw [v_eqS]
theorem w_eqT2 {o u : Int} {b : Bool} : W (dEqs b (.tup [.int i, .int j]) (.tup [.int o, .int u]) h) Φ = Φ (.ok (.bl ((i == o && j == u) != b)) h) := by unfold W; rw [v_eqT2b]
theorem w_abs : W (gAbs [.int i] h) Φ = Φ (.ok (.int (if i < 0 then -i else i)) h) := rfl
theorem w_lenT {l : List D} : W (gLen [.tup l] h) Φ = Φ (.ok (.int l.length) h) := rfl
theorem w_lenS {l : List Int} : W (gLen [.scr l] h) Φ = Φ (.ok (.int l.length) h) := rfl
theorem w_lenL {l : List D} (e : lstAt h m = some l) : W (gLen [.ref m] h) Φ = Φ (.ok (.int l.length) h) := by unfold W; rw [v_lenL e]
theorem w_max : W (gMax [.int i, .int j] h) Φ = Φ (.ok (.int (if j > i then j else i)) h) := rfl
theorem w_min : W (gMin [.int i, .int j] h) Φ = Φ (.ok (.int (if j < i then j else i)) h) := rfl
theorem w_intT : W (gInt [.bl true] h) Φ = Φ (.ok (.int 1) h) := rfl
theorem w_intF : W (gInt [.bl false] h) Φ = Φ (.ok (.int 0) h) := rfl
theorem w_isBool {c : Bool} : W (gIsi "bool" (.bl c) h) Φ = Φ (.ok (.bl true) h) := by cases c <;> rfl
theorem w_isTup {l : List D} : W (gIsi "tuple" (.tup l) h) Φ = Φ (.ok (.bl true) h) := rfl
theorem w_tupT {l : List D} : W (gTuple [.tup l] h) Φ = Φ (.ok (.tup l) h) := rfl
theorem w_tupL {l : List D} (e : lstAt h m = some l) : W (gTuple [.ref m] h) Φ = Φ (.ok (.tup l) h) := by
  unfold W gTuple
  simp only [e]
theorem w_listT {l : List D} : W (gList [.tup l] h) Φ = Φ (.ok (.ref h.length) (h ++ [.lst l])) := rfl
theorem w_cutT {l : List D} {lo hi : Option Int} : W (dCut (.tup l) lo hi h) Φ = Φ (.ok (.tup (cutD l lo hi)) h) := rfl
theorem w_cutL {l : List D} {lo hi : Option Int} (e : lstAt h m = some l) : W (dCut (.ref m) lo hi h) Φ = Φ (.ok (.ref h.length) (h ++ [.lst (cutD l lo hi)])) := by unfold W; rw [v_cutL e]
theorem w_addT {l r : List D} (e : small (l.length + r.length) = true) : W (dAdd (.tup l) (.tup r) h) Φ = Φ (.ok (.tup (l ++ r)) h) := by unfold W; rw [v_addT e]
theorem w_addL {l r : List D} (e1 : lstAt h m = some l) (e2 : lstAt h n = some r) (e : small (l.length + r.length) = true) : W (dAdd (.ref m) (.ref n) h) Φ = Φ (.ok (.ref h.length) (h ++ [.lst (l ++ r)])) := by unfold W; rw [v_addL e1 e2 e]
end
theorem W.of {α : Type} {r s : Rs α} {Φ : Rs α → Prop} (e : r = s) (k : Φ s) : W r Φ := by rw [e]; exact k
theorem atI_in {l : List D} {i : Int} (h0 : 0 ≤ i) (h1 : i < l.length) : ∃ d, atI l i = some d ∧ d ∈ l := by
  have hj : i.toNat < l.length := by omega
  refine ⟨l[i.toNat], ?_, List.getElem_mem hj⟩
  unfold atI ixN
  have h3 : ¬ i < 0 := by omega
  simp [h0, h3, h1, hj]
/-- an item of a list that is known, at a place that isn't -/
theorem w_ixP {h : Hq} {m : Nat} {l : List D} {i : Int} {Φ : Rs D → Prop} (P : D → Prop) (e0 : lstAt h m = some l) (h0 : 0 ≤ i) (h1 : i < l.length) (hP : ∀ d ∈ l, P d) (k : ∀ d, P d → Φ (.ok d h)) : W (dIx (.ref m) (.int i) h) Φ := by
  obtain ⟨d, e, hd⟩ := atI_in h0 h1
  exact W.of (v_ixL e0 e) (k d (hP d hd))
section
variable {a b f : Sx} {as : Sa} {fr : Fr} {h : Hq} {m : Nat} {l ds dds xs r : List D} {Φ : Rs D → Prop} {Ξ : Rs (List D) → Prop}
theorem w_aStar : W (aStar a as fr h) Ξ = W (a fr h) (kB (stF as fr) Ξ) := w_bind
def kSt (l : List D) (Ξ : Rs (List D) → Prop) : Rs (List D) → Prop := kB (fun xs h2 => .ok (l ++ xs) h2) Ξ
theorem w_stT : W (stF as fr (.tup l) h) Ξ = W (as fr h) (kSt l Ξ) := w_bind
theorem kSt_ok : kSt l Ξ (.ok xs h) = Ξ (.ok (l ++ xs) h) := rfl
def kDf (dds : List D) (Ξ : Rs (List D) → Prop) : Rs (List D) → Prop := kB (fun ds h1 => .ok (ds ++ dds) h1) Ξ
theorem w_aDef : W (aDef as dds fr h) Ξ = W (as fr h) (kDf dds Ξ) := w_bind
theorem kDf_ok : kDf dds Ξ (.ok ds h) = Ξ (.ok (ds ++ dds) h) := rfl
theorem w_Cnt : W (eCnt a b fr h) Φ = W (a fr h) (kB (cntF b fr) Φ) := w_bind
theorem w_Ext : W (eExt a b fr h) Φ = W (a fr h) (kB (extF b fr) Φ) := w_bind
theorem w_Enum {Sg : Rs Src → Prop} : W (iEnum1 as fr h) Sg = W (as fr h) (kB enF Sg) := w_bind
theorem w_enT {Sg : Rs Src → Prop} : W (enF [.tup l] h) Sg = Sg (.ok (srcE l) h) := rfl
theorem w_isBB {c d neg : Bool} : W (dIsN neg (.bl c) (.bl d) h) Φ = Φ (.ok (.bl ((c == d) != neg)) h) := rfl
theorem w_isIB {i : Int} {d neg : Bool} : W (dIsN neg (.int i) (.bl d) h) Φ = Φ (.ok (.bl neg) h) := rfl
end
end MI
end
section
set_option Elab.async false
set_option linter.all false
set_option autoImplicit false
set_option maxRecDepth 100000
set_option exponentiation.threshold 20000
set_option maxHeartbeats 4000000
open PySem L2
namespace MI
section
variable {h : Hq} {p : Nat} {n many : Int} {Φ : Rs D → Prop}
theorem take_w (P : PotAt h p n) (hn : n < 1000000) (hm : 0 < many) (hb : many < 2 ^ 8000) (k : ∀ r h1, 0 ≤ r → r < many → PotAt h1 p (n + 1) → Step p h h1 → Φ (.ok (.int r) h1)) : W (S__law_take [.ref p, .int many] h) Φ := by
  obtain ⟨r, h1, e, r0, r1, P1, S1⟩ := take_ok P hn hm hb
  exact W.of e (k r h1 r0 r1 P1 S1)
theorem great2_w (P : PotAt h p n) (hn : n < 999990) (hm : 0 < many) (hb : many < 2 ^ 8000) (k : ∀ r h1, 0 ≤ r → r < many → PotAt h1 p (n + 3) → Step p h h1 → Φ (.ok (.int r) h1)) : W (S__law_great_2 [.ref p, .int many] h) Φ := by
  obtain ⟨r, h1, e, r0, r1, P1, S1⟩ := great2_ok P hn hm hb
  exact W.of e (k r h1 r0 r1 P1 S1)
theorem low_w {a b : Int} {B : Nat} (hb : 0 < b) (b2 : Bd B b) (hB : B ≤ 8000) (k : Φ (.ok (dq (lowQ a b)) h)) : W (S__law_lowest [.int a, .int b] h) Φ := W.of (low_ok hb b2 hB) k
def intIn (lo hi : Int) (d : D) : Prop := ∃ i, d = .int i ∧ lo ≤ i ∧ i ≤ hi
/-- a drawn moment -/
theorem moment2_w {top : Int} (P : PotAt h p n) (hn : n < 999900) (t0 : 1 ≤ top) (t1 : top ≤ 1000000) (k : ∀ q h1, Fq 150 q → 0 ≤ q.1 → q.1 ≤ top * q.2 → PotAt h1 p (n + 10) → Step p h h1 → Φ (.ok (dq q) h1)) : W (S__law_moment_2 [.ref p, .int top] h) Φ := by
  unfold S__law_moment_2
  simp only [↓w_ok, ↓kB_ok, ↓kI_ok, ↓w_K, ↓w_V, ↓w_vR, ↓w_Op, ↓kO1_ok, ↓kO2_ok, ↓w_Un, ↓w_bOf, ↓w_isB, ↓kBl_ok, ↓kBl_exc, ↓kIf_ok, ↓kIf_exc, ↓w_okB, ↓w_okD, ↓w_bAnd, ↓w_bOr, ↓w_bNot, ↓kNot_ok, ↓kNot_exc, ↓w_eAnd, ↓w_eOr, ↓w_eNot, ↓kNotV_ok, ↓w_eIf, ↓w_aNil, ↓w_aCons, ↓kA1_ok, ↓kA2_ok, ↓kA1_exc, ↓kA2_exc, ↓w_Tup, ↓w_Lst, ↓w_mkT, ↓w_mkL, ↓w_Dct, ↓w_Dct2, ↓w_SoSe, ↓w_Call, ↓w_goS, ↓w_Bi, ↓w_Isi, ↓w_Cut, ↓kC1_ok, ↓kC2_ok, ↓kC3_ok, ↓w_oNone, ↓w_oSome, ↓w_vO, ↓w_Chain, ↓kCh1_ok, ↓kCh2_ok, ↓kCh3_ok, ↓w_chA, ↓w_App, ↓w_Ins, ↓w_insG, ↓z_nx, ↓z_End, ↓z_Seq, ↓kT_nx, ↓kT_rt, ↓kT_bk, ↓kT_ct, ↓kT_exc, ↓z_If, ↓kIfS_ok, ↓kIfS_exc, ↓z_Ret, ↓kRet_ok, ↓kRet_exc, ↓z_Expr, ↓kNx_ok, ↓kNx_exc, ↓z_Asg, ↓kAs_ok, ↓kAs_exc, ↓z_tgO, t_N, t_T, t_nil, t_cons, t_G, t_gnil, t_gcons, t_bind, ↓z_Par, ↓kPar_ok, ↓z_Raise, ↓z_Break, ↓z_Cont, ↓z_For, ↓kSrc_ok, ↓w_Range, ↓w_rgF, ↓w_SeqI, ↓w_sqT, ↓w_Zip, ↓w_zpT, ↓w_Comp, ↓kCo_ok, ↓w_of, ↓kF_rt, ↓kF_nx, ↓kF_exc, ↓w_add, ↓w_sub, ↓w_pow10, ↓w_neg, ↓w_lt, ↓w_le, ↓w_gt, ↓w_ge, ↓w_ix0, ↓w_ix1, ↓w_ix2, ↓w_ix3, ↓w_eqI, ↓w_eqS, ↓w_eqT2, ↓w_abs, ↓w_lenT, ↓w_lenS, ↓w_max, ↓w_min, ↓w_intT, ↓w_intF, ↓w_isBool, ↓w_isTup, ↓w_tupT, ↓w_listT, ↓w_cutT, ↓brw_t, ↓brw_f, ↓brz_t, ↓brz_f, List.getElem?_cons_zero, List.getElem?_cons_succ, List.set_cons_zero, List.set_cons_succ, List.length_cons, List.length_nil, List.map_cons, List.map_nil, List.replicate, List.cons_append, List.nil_append, small, Nat.reduceAdd, Nat.reduceLeDiff, Nat.reduceEqDiff, Int.cast_ofNat_Int, Int.reduceBEq, BEq.rfl, ↓w_Yes, ↓w_bTru, ↓augF_ok, ↓z_Put, ↓putF_ok, ↓putG_ok, ↓w_isNn, ↓w_isNt, wipeF_nil, wipeF_cons, Int.reduceLE, Int.reduceLT, Int.reduceToNat, Int.reducePow, Int.reduceNeg, Int.reduceSub, Int.reduceAdd, Int.reduceMul, decide_true, decide_false, Bool.not_true, Bool.not_false, Bool.bne_false, Bool.bne_true, ↓w_aStar, ↓w_stT, ↓kSt_ok, ↓w_aDef, ↓kDf_ok, ↓w_Cnt, ↓w_Ext, ↓w_isBB, ↓w_isIB, ↓w_Enum, ↓w_enT]
  refine take_w P (by omega) (by decide) (by decide) fun i h1 i0 i1 P1 S1 => ?_
  simp only [↓w_ok, ↓kB_ok, ↓kI_ok, ↓w_K, ↓w_V, ↓w_vR, ↓w_Op, ↓kO1_ok, ↓kO2_ok, ↓w_Un, ↓w_bOf, ↓w_isB, ↓kBl_ok, ↓kBl_exc, ↓kIf_ok, ↓kIf_exc, ↓w_okB, ↓w_okD, ↓w_bAnd, ↓w_bOr, ↓w_bNot, ↓kNot_ok, ↓kNot_exc, ↓w_eAnd, ↓w_eOr, ↓w_eNot, ↓kNotV_ok, ↓w_eIf, ↓w_aNil, ↓w_aCons, ↓kA1_ok, ↓kA2_ok, ↓kA1_exc, ↓kA2_exc, ↓w_Tup, ↓w_Lst, ↓w_mkT, ↓w_mkL, ↓w_Dct, ↓w_Dct2, ↓w_SoSe, ↓w_Call, ↓w_goS, ↓w_Bi, ↓w_Isi, ↓w_Cut, ↓kC1_ok, ↓kC2_ok, ↓kC3_ok, ↓w_oNone, ↓w_oSome, ↓w_vO, ↓w_Chain, ↓kCh1_ok, ↓kCh2_ok, ↓kCh3_ok, ↓w_chA, ↓w_App, ↓w_Ins, ↓w_insG, ↓z_nx, ↓z_End, ↓z_Seq, ↓kT_nx, ↓kT_rt, ↓kT_bk, ↓kT_ct, ↓kT_exc, ↓z_If, ↓kIfS_ok, ↓kIfS_exc, ↓z_Ret, ↓kRet_ok, ↓kRet_exc, ↓z_Expr, ↓kNx_ok, ↓kNx_exc, ↓z_Asg, ↓kAs_ok, ↓kAs_exc, ↓z_tgO, t_N, t_T, t_nil, t_cons, t_G, t_gnil, t_gcons, t_bind, ↓z_Par, ↓kPar_ok, ↓z_Raise, ↓z_Break, ↓z_Cont, ↓z_For, ↓kSrc_ok, ↓w_Range, ↓w_rgF, ↓w_SeqI, ↓w_sqT, ↓w_Zip, ↓w_zpT, ↓w_Comp, ↓kCo_ok, ↓w_of, ↓kF_rt, ↓kF_nx, ↓kF_exc, ↓w_add, ↓w_sub, ↓w_pow10, ↓w_neg, ↓w_lt, ↓w_le, ↓w_gt, ↓w_ge, ↓w_ix0, ↓w_ix1, ↓w_ix2, ↓w_ix3, ↓w_eqI, ↓w_eqS, ↓w_eqT2, ↓w_abs, ↓w_lenT, ↓w_lenS, ↓w_max, ↓w_min, ↓w_intT, ↓w_intF, ↓w_isBool, ↓w_isTup, ↓w_tupT, ↓w_listT, ↓w_cutT, ↓brw_t, ↓brw_f, ↓brz_t, ↓brz_f, List.getElem?_cons_zero, List.getElem?_cons_succ, List.set_cons_zero, List.set_cons_succ, List.length_cons, List.length_nil, List.map_cons, List.map_nil, List.replicate, List.cons_append, List.nil_append, small, Nat.reduceAdd, Nat.reduceLeDiff, Nat.reduceEqDiff, Int.cast_ofNat_Int, Int.reduceBEq, BEq.rfl, ↓w_Yes, ↓w_bTru, ↓augF_ok, ↓z_Put, ↓putF_ok, ↓putG_ok, ↓w_isNn, ↓w_isNt, wipeF_nil, wipeF_cons, Int.reduceLE, Int.reduceLT, Int.reduceToNat, Int.reducePow, Int.reduceNeg, Int.reduceSub, Int.reduceAdd, Int.reduceMul, decide_true, decide_false, Bool.not_true, Bool.not_false, Bool.bne_false, Bool.bne_true, ↓w_aStar, ↓w_stT, ↓kSt_ok, ↓w_aDef, ↓kDf_ok, ↓w_Cnt, ↓w_Ext, ↓w_isBB, ↓w_isIB, ↓w_Enum, ↓w_enT]
  refine brz (fun hc => ?_) fun hc => ?_
  · simp only [↓w_ok, ↓kB_ok, ↓kI_ok, ↓w_K, ↓w_V, ↓w_vR, ↓w_Op, ↓kO1_ok, ↓kO2_ok, ↓w_Un, ↓w_bOf, ↓w_isB, ↓kBl_ok, ↓kBl_exc, ↓kIf_ok, ↓kIf_exc, ↓w_okB, ↓w_okD, ↓w_bAnd, ↓w_bOr, ↓w_bNot, ↓kNot_ok, ↓kNot_exc, ↓w_eAnd, ↓w_eOr, ↓w_eNot, ↓kNotV_ok, ↓w_eIf, ↓w_aNil, ↓w_aCons, ↓kA1_ok, ↓kA2_ok, ↓kA1_exc, ↓kA2_exc, ↓w_Tup, ↓w_Lst, ↓w_mkT, ↓w_mkL, ↓w_Dct, ↓w_Dct2, ↓w_SoSe, ↓w_Call, ↓w_goS, ↓w_Bi, ↓w_Isi, ↓w_Cut, ↓kC1_ok, ↓kC2_ok, ↓kC3_ok, ↓w_oNone, ↓w_oSome, ↓w_vO, ↓w_Chain, ↓kCh1_ok, ↓kCh2_ok, ↓kCh3_ok, ↓w_chA, ↓w_App, ↓w_Ins, ↓w_insG, ↓z_nx, ↓z_End, ↓z_Seq, ↓kT_nx, ↓kT_rt, ↓kT_bk, ↓kT_ct, ↓kT_exc, ↓z_If, ↓kIfS_ok, ↓kIfS_exc, ↓z_Ret, ↓kRet_ok, ↓kRet_exc, ↓z_Expr, ↓kNx_ok, ↓kNx_exc, ↓z_Asg, ↓kAs_ok, ↓kAs_exc, ↓z_tgO, t_N, t_T, t_nil, t_cons, t_G, t_gnil, t_gcons, t_bind, ↓z_Par, ↓kPar_ok, ↓z_Raise, ↓z_Break, ↓z_Cont, ↓z_For, ↓kSrc_ok, ↓w_Range, ↓w_rgF, ↓w_SeqI, ↓w_sqT, ↓w_Zip, ↓w_zpT, ↓w_Comp, ↓kCo_ok, ↓w_of, ↓kF_rt, ↓kF_nx, ↓kF_exc, ↓w_add, ↓w_sub, ↓w_pow10, ↓w_neg, ↓w_lt, ↓w_le, ↓w_gt, ↓w_ge, ↓w_ix0, ↓w_ix1, ↓w_ix2, ↓w_ix3, ↓w_eqI, ↓w_eqS, ↓w_eqT2, ↓w_abs, ↓w_lenT, ↓w_lenS, ↓w_max, ↓w_min, ↓w_intT, ↓w_intF, ↓w_isBool, ↓w_isTup, ↓w_tupT, ↓w_listT, ↓w_cutT, ↓brw_t, ↓brw_f, ↓brz_t, ↓brz_f, List.getElem?_cons_zero, List.getElem?_cons_succ, List.set_cons_zero, List.set_cons_succ, List.length_cons, List.length_nil, List.map_cons, List.map_nil, List.replicate, List.cons_append, List.nil_append, small, Nat.reduceAdd, Nat.reduceLeDiff, Nat.reduceEqDiff, Int.cast_ofNat_Int, Int.reduceBEq, BEq.rfl, ↓w_Yes, ↓w_bTru, ↓augF_ok, ↓z_Put, ↓putF_ok, ↓putG_ok, ↓w_isNn, ↓w_isNt, wipeF_nil, wipeF_cons, Int.reduceLE, Int.reduceLT, Int.reduceToNat, Int.reducePow, Int.reduceNeg, Int.reduceSub, Int.reduceAdd, Int.reduceMul, decide_true, decide_false, Bool.not_true, Bool.not_false, Bool.bne_false, Bool.bne_true, ↓w_aStar, ↓w_stT, ↓kSt_ok, ↓w_aDef, ↓kDf_ok, ↓w_Cnt, ↓w_Ext, ↓w_isBB, ↓w_isIB, ↓w_Enum, ↓w_enT]
    refine take_w (P1.app _) (by omega) (by decide) (by decide) fun j h2 j0 j1 P2 S2 => ?_
    simp only [↓w_ok, ↓kB_ok, ↓kI_ok, ↓w_K, ↓w_V, ↓w_vR, ↓w_Op, ↓kO1_ok, ↓kO2_ok, ↓w_Un, ↓w_bOf, ↓w_isB, ↓kBl_ok, ↓kBl_exc, ↓kIf_ok, ↓kIf_exc, ↓w_okB, ↓w_okD, ↓w_bAnd, ↓w_bOr, ↓w_bNot, ↓kNot_ok, ↓kNot_exc, ↓w_eAnd, ↓w_eOr, ↓w_eNot, ↓kNotV_ok, ↓w_eIf, ↓w_aNil, ↓w_aCons, ↓kA1_ok, ↓kA2_ok, ↓kA1_exc, ↓kA2_exc, ↓w_Tup, ↓w_Lst, ↓w_mkT, ↓w_mkL, ↓w_Dct, ↓w_Dct2, ↓w_SoSe, ↓w_Call, ↓w_goS, ↓w_Bi, ↓w_Isi, ↓w_Cut, ↓kC1_ok, ↓kC2_ok, ↓kC3_ok, ↓w_oNone, ↓w_oSome, ↓w_vO, ↓w_Chain, ↓kCh1_ok, ↓kCh2_ok, ↓kCh3_ok, ↓w_chA, ↓w_App, ↓w_Ins, ↓w_insG, ↓z_nx, ↓z_End, ↓z_Seq, ↓kT_nx, ↓kT_rt, ↓kT_bk, ↓kT_ct, ↓kT_exc, ↓z_If, ↓kIfS_ok, ↓kIfS_exc, ↓z_Ret, ↓kRet_ok, ↓kRet_exc, ↓z_Expr, ↓kNx_ok, ↓kNx_exc, ↓z_Asg, ↓kAs_ok, ↓kAs_exc, ↓z_tgO, t_N, t_T, t_nil, t_cons, t_G, t_gnil, t_gcons, t_bind, ↓z_Par, ↓kPar_ok, ↓z_Raise, ↓z_Break, ↓z_Cont, ↓z_For, ↓kSrc_ok, ↓w_Range, ↓w_rgF, ↓w_SeqI, ↓w_sqT, ↓w_Zip, ↓w_zpT, ↓w_Comp, ↓kCo_ok, ↓w_of, ↓kF_rt, ↓kF_nx, ↓kF_exc, ↓w_add, ↓w_sub, ↓w_pow10, ↓w_neg, ↓w_lt, ↓w_le, ↓w_gt, ↓w_ge, ↓w_ix0, ↓w_ix1, ↓w_ix2, ↓w_ix3, ↓w_eqI, ↓w_eqS, ↓w_eqT2, ↓w_abs, ↓w_lenT, ↓w_lenS, ↓w_max, ↓w_min, ↓w_intT, ↓w_intF, ↓w_isBool, ↓w_isTup, ↓w_tupT, ↓w_listT, ↓w_cutT, ↓brw_t, ↓brw_f, ↓brz_t, ↓brz_f, List.getElem?_cons_zero, List.getElem?_cons_succ, List.set_cons_zero, List.set_cons_succ, List.length_cons, List.length_nil, List.map_cons, List.map_nil, List.replicate, List.cons_append, List.nil_append, small, Nat.reduceAdd, Nat.reduceLeDiff, Nat.reduceEqDiff, Int.cast_ofNat_Int, Int.reduceBEq, BEq.rfl, ↓w_Yes, ↓w_bTru, ↓augF_ok, ↓z_Put, ↓putF_ok, ↓putG_ok, ↓w_isNn, ↓w_isNt, wipeF_nil, wipeF_cons, Int.reduceLE, Int.reduceLT, Int.reduceToNat, Int.reducePow, Int.reduceNeg, Int.reduceSub, Int.reduceAdd, Int.reduceMul, decide_true, decide_false, Bool.not_true, Bool.not_false, Bool.bne_false, Bool.bne_true, ↓w_aStar, ↓w_stT, ↓kSt_ok, ↓w_aDef, ↓kDf_ok, ↓w_Cnt, ↓w_Ext, ↓w_isBB, ↓w_isIB, ↓w_Enum, ↓w_enT]
    have l2 : lstAt h2 h1.length = some [dq (0, 1), dq (top, 1)] := S2.lst (by have := P1.lt; omega) (lst_new _ _)
    refine w_ixP (fun d => ∃ q : Qp, d = dq q ∧ Fq 150 q ∧ 0 ≤ q.1 ∧ q.1 ≤ top * q.2) l2 j0 (by simpa using j1) ?_ ?_
    · have g : ∀ x : Int, gI x 1 = 1 := fun x => by unfold gI; simp
      have b : Bd 150 top := Bd.of (by omega) (by omega)
      intro d hd
      simp at hd
      rcases hd with rfl | rfl
      · exact ⟨(0, 1), rfl, ⟨by decide, g _, Bd.of (by decide) (by decide), Bd.of (by decide) (by decide)⟩, by simp, by simp; omega⟩
      · exact ⟨(top, 1), rfl, ⟨by simp, g _, b, Bd.one.mono (by decide)⟩, by simp; omega, by simp⟩
    · rintro _ ⟨q, rfl, f, q0, q1⟩
      simp only [↓w_ok, ↓kB_ok, ↓kI_ok, ↓w_K, ↓w_V, ↓w_vR, ↓w_Op, ↓kO1_ok, ↓kO2_ok, ↓w_Un, ↓w_bOf, ↓w_isB, ↓kBl_ok, ↓kBl_exc, ↓kIf_ok, ↓kIf_exc, ↓w_okB, ↓w_okD, ↓w_bAnd, ↓w_bOr, ↓w_bNot, ↓kNot_ok, ↓kNot_exc, ↓w_eAnd, ↓w_eOr, ↓w_eNot, ↓kNotV_ok, ↓w_eIf, ↓w_aNil, ↓w_aCons, ↓kA1_ok, ↓kA2_ok, ↓kA1_exc, ↓kA2_exc, ↓w_Tup, ↓w_Lst, ↓w_mkT, ↓w_mkL, ↓w_Dct, ↓w_Dct2, ↓w_SoSe, ↓w_Call, ↓w_goS, ↓w_Bi, ↓w_Isi, ↓w_Cut, ↓kC1_ok, ↓kC2_ok, ↓kC3_ok, ↓w_oNone, ↓w_oSome, ↓w_vO, ↓w_Chain, ↓kCh1_ok, ↓kCh2_ok, ↓kCh3_ok, ↓w_chA, ↓w_App, ↓w_Ins, ↓w_insG, ↓z_nx, ↓z_End, ↓z_Seq, ↓kT_nx, ↓kT_rt, ↓kT_bk, ↓kT_ct, ↓kT_exc, ↓z_If, ↓kIfS_ok, ↓kIfS_exc, ↓z_Ret, ↓kRet_ok, ↓kRet_exc, ↓z_Expr, ↓kNx_ok, ↓kNx_exc, ↓z_Asg, ↓kAs_ok, ↓kAs_exc, ↓z_tgO, t_N, t_T, t_nil, t_cons, t_G, t_gnil, t_gcons, t_bind, ↓z_Par, ↓kPar_ok, ↓z_Raise, ↓z_Break, ↓z_Cont, ↓z_For, ↓kSrc_ok, ↓w_Range, ↓w_rgF, ↓w_SeqI, ↓w_sqT, ↓w_Zip, ↓w_zpT, ↓w_Comp, ↓kCo_ok, ↓w_of, ↓kF_rt, ↓kF_nx, ↓kF_exc, ↓w_add, ↓w_sub, ↓w_pow10, ↓w_neg, ↓w_lt, ↓w_le, ↓w_gt, ↓w_ge, ↓w_ix0, ↓w_ix1, ↓w_ix2, ↓w_ix3, ↓w_eqI, ↓w_eqS, ↓w_eqT2, ↓w_abs, ↓w_lenT, ↓w_lenS, ↓w_max, ↓w_min, ↓w_intT, ↓w_intF, ↓w_isBool, ↓w_isTup, ↓w_tupT, ↓w_listT, ↓w_cutT, ↓brw_t, ↓brw_f, ↓brz_t, ↓brz_f, List.getElem?_cons_zero, List.getElem?_cons_succ, List.set_cons_zero, List.set_cons_succ, List.length_cons, List.length_nil, List.map_cons, List.map_nil, List.replicate, List.cons_append, List.nil_append, small, Nat.reduceAdd, Nat.reduceLeDiff, Nat.reduceEqDiff, Int.cast_ofNat_Int, Int.reduceBEq, BEq.rfl, ↓w_Yes, ↓w_bTru, ↓augF_ok, ↓z_Put, ↓putF_ok, ↓putG_ok, ↓w_isNn, ↓w_isNt, wipeF_nil, wipeF_cons, Int.reduceLE, Int.reduceLT, Int.reduceToNat, Int.reducePow, Int.reduceNeg, Int.reduceSub, Int.reduceAdd, Int.reduceMul, decide_true, decide_false, Bool.not_true, Bool.not_false, Bool.bne_false, Bool.bne_true, ↓w_aStar, ↓w_stT, ↓kSt_ok, ↓w_aDef, ↓kDf_ok, ↓w_Cnt, ↓w_Ext, ↓w_isBB, ↓w_isIB, ↓w_Enum, ↓w_enT]
      exact k q _ f q0 q1 (P2.mono (by omega)) (S1.trans S2.cut)
  · simp only [↓w_ok, ↓kB_ok, ↓kI_ok, ↓w_K, ↓w_V, ↓w_vR, ↓w_Op, ↓kO1_ok, ↓kO2_ok, ↓w_Un, ↓w_bOf, ↓w_isB, ↓kBl_ok, ↓kBl_exc, ↓kIf_ok, ↓kIf_exc, ↓w_okB, ↓w_okD, ↓w_bAnd, ↓w_bOr, ↓w_bNot, ↓kNot_ok, ↓kNot_exc, ↓w_eAnd, ↓w_eOr, ↓w_eNot, ↓kNotV_ok, ↓w_eIf, ↓w_aNil, ↓w_aCons, ↓kA1_ok, ↓kA2_ok, ↓kA1_exc, ↓kA2_exc, ↓w_Tup, ↓w_Lst, ↓w_mkT, ↓w_mkL, ↓w_Dct, ↓w_Dct2, ↓w_SoSe, ↓w_Call, ↓w_goS, ↓w_Bi, ↓w_Isi, ↓w_Cut, ↓kC1_ok, ↓kC2_ok, ↓kC3_ok, ↓w_oNone, ↓w_oSome, ↓w_vO, ↓w_Chain, ↓kCh1_ok, ↓kCh2_ok, ↓kCh3_ok, ↓w_chA, ↓w_App, ↓w_Ins, ↓w_insG, ↓z_nx, ↓z_End, ↓z_Seq, ↓kT_nx, ↓kT_rt, ↓kT_bk, ↓kT_ct, ↓kT_exc, ↓z_If, ↓kIfS_ok, ↓kIfS_exc, ↓z_Ret, ↓kRet_ok, ↓kRet_exc, ↓z_Expr, ↓kNx_ok, ↓kNx_exc, ↓z_Asg, ↓kAs_ok, ↓kAs_exc, ↓z_tgO, t_N, t_T, t_nil, t_cons, t_G, t_gnil, t_gcons, t_bind, ↓z_Par, ↓kPar_ok, ↓z_Raise, ↓z_Break, ↓z_Cont, ↓z_For, ↓kSrc_ok, ↓w_Range, ↓w_rgF, ↓w_SeqI, ↓w_sqT, ↓w_Zip, ↓w_zpT, ↓w_Comp, ↓kCo_ok, ↓w_of, ↓kF_rt, ↓kF_nx, ↓kF_exc, ↓w_add, ↓w_sub, ↓w_pow10, ↓w_neg, ↓w_lt, ↓w_le, ↓w_gt, ↓w_ge, ↓w_ix0, ↓w_ix1, ↓w_ix2, ↓w_ix3, ↓w_eqI, ↓w_eqS, ↓w_eqT2, ↓w_abs, ↓w_lenT, ↓w_lenS, ↓w_max, ↓w_min, ↓w_intT, ↓w_intF, ↓w_isBool, ↓w_isTup, ↓w_tupT, ↓w_listT, ↓w_cutT, ↓brw_t, ↓brw_f, ↓brz_t, ↓brz_f, List.getElem?_cons_zero, List.getElem?_cons_succ, List.set_cons_zero, List.set_cons_succ, List.length_cons, List.length_nil, List.map_cons, List.map_nil, List.replicate, List.cons_append, List.nil_append, small, Nat.reduceAdd, Nat.reduceLeDiff, Nat.reduceEqDiff, Int.cast_ofNat_Int, Int.reduceBEq, BEq.rfl, ↓w_Yes, ↓w_bTru, ↓augF_ok, ↓z_Put, ↓putF_ok, ↓putG_ok, ↓w_isNn, ↓w_isNt, wipeF_nil, wipeF_cons, Int.reduceLE, Int.reduceLT, Int.reduceToNat, Int.reducePow, Int.reduceNeg, Int.reduceSub, Int.reduceAdd, Int.reduceMul, decide_true, decide_false, Bool.not_true, Bool.not_false, Bool.bne_false, Bool.bne_true, ↓w_aStar, ↓w_stT, ↓kSt_ok, ↓w_aDef, ↓kDf_ok, ↓w_Cnt, ↓w_Ext, ↓w_isBB, ↓w_isIB, ↓w_Enum, ↓w_enT]
    have hi : i ≠ 0 := by simpa using hc
    refine w_ixP (intIn 1 (10 ^ 30)) (lst_new _ _) (i := i - 1) (by omega) (by simp; omega) (by simp [intIn]) ?_
    rintro _ ⟨u, rfl, u0, u1⟩
    simp only [↓w_ok, ↓kB_ok, ↓kI_ok, ↓w_K, ↓w_V, ↓w_vR, ↓w_Op, ↓kO1_ok, ↓kO2_ok, ↓w_Un, ↓w_bOf, ↓w_isB, ↓kBl_ok, ↓kBl_exc, ↓kIf_ok, ↓kIf_exc, ↓w_okB, ↓w_okD, ↓w_bAnd, ↓w_bOr, ↓w_bNot, ↓kNot_ok, ↓kNot_exc, ↓w_eAnd, ↓w_eOr, ↓w_eNot, ↓kNotV_ok, ↓w_eIf, ↓w_aNil, ↓w_aCons, ↓kA1_ok, ↓kA2_ok, ↓kA1_exc, ↓kA2_exc, ↓w_Tup, ↓w_Lst, ↓w_mkT, ↓w_mkL, ↓w_Dct, ↓w_Dct2, ↓w_SoSe, ↓w_Call, ↓w_goS, ↓w_Bi, ↓w_Isi, ↓w_Cut, ↓kC1_ok, ↓kC2_ok, ↓kC3_ok, ↓w_oNone, ↓w_oSome, ↓w_vO, ↓w_Chain, ↓kCh1_ok, ↓kCh2_ok, ↓kCh3_ok, ↓w_chA, ↓w_App, ↓w_Ins, ↓w_insG, ↓z_nx, ↓z_End, ↓z_Seq, ↓kT_nx, ↓kT_rt, ↓kT_bk, ↓kT_ct, ↓kT_exc, ↓z_If, ↓kIfS_ok, ↓kIfS_exc, ↓z_Ret, ↓kRet_ok, ↓kRet_exc, ↓z_Expr, ↓kNx_ok, ↓kNx_exc, ↓z_Asg, ↓kAs_ok, ↓kAs_exc, ↓z_tgO, t_N, t_T, t_nil, t_cons, t_G, t_gnil, t_gcons, t_bind, ↓z_Par, ↓kPar_ok, ↓z_Raise, ↓z_Break, ↓z_Cont, ↓z_For, ↓kSrc_ok, ↓w_Range, ↓w_rgF, ↓w_SeqI, ↓w_sqT, ↓w_Zip, ↓w_zpT, ↓w_Comp, ↓kCo_ok, ↓w_of, ↓kF_rt, ↓kF_nx, ↓kF_exc, ↓w_add, ↓w_sub, ↓w_pow10, ↓w_neg, ↓w_lt, ↓w_le, ↓w_gt, ↓w_ge, ↓w_ix0, ↓w_ix1, ↓w_ix2, ↓w_ix3, ↓w_eqI, ↓w_eqS, ↓w_eqT2, ↓w_abs, ↓w_lenT, ↓w_lenS, ↓w_max, ↓w_min, ↓w_intT, ↓w_intF, ↓w_isBool, ↓w_isTup, ↓w_tupT, ↓w_listT, ↓w_cutT, ↓brw_t, ↓brw_f, ↓brz_t, ↓brz_f, List.getElem?_cons_zero, List.getElem?_cons_succ, List.set_cons_zero, List.set_cons_succ, List.length_cons, List.length_nil, List.map_cons, List.map_nil, List.replicate, List.cons_append, List.nil_append, small, Nat.reduceAdd, Nat.reduceLeDiff, Nat.reduceEqDiff, Int.cast_ofNat_Int, Int.reduceBEq, BEq.rfl, ↓w_Yes, ↓w_bTru, ↓augF_ok, ↓z_Put, ↓putF_ok, ↓putG_ok, ↓w_isNn, ↓w_isNt, wipeF_nil, wipeF_cons, Int.reduceLE, Int.reduceLT, Int.reduceToNat, Int.reducePow, Int.reduceNeg, Int.reduceSub, Int.reduceAdd, Int.reduceMul, decide_true, decide_false, Bool.not_true, Bool.not_false, Bool.bne_false, Bool.bne_true, ↓w_aStar, ↓w_stT, ↓kSt_ok, ↓w_aDef, ↓kDf_ok, ↓w_Cnt, ↓w_Ext, ↓w_isBB, ↓w_isIB, ↓w_Enum, ↓w_enT]
    refine great2_w (P1.app _) (by omega) (by omega) (Int.lt_of_le_of_lt u1 (by decide)) fun y h2 y0 y1 P2 S2 => ?_
    have b1 : Bd 21 top := Bd.of (by omega) (by omega)
    have b2 : Bd 100 (1 + y) := Bd.of (by omega) (by omega)
    have b3 := (b1.mul b2).lt
    have t2 : 0 ≤ top * (1 + y) := Int.mul_nonneg (by omega) (by omega)
    simp only [↓w_ok, ↓kB_ok, ↓kI_ok, ↓w_K, ↓w_V, ↓w_vR, ↓w_Op, ↓kO1_ok, ↓kO2_ok, ↓w_Un, ↓w_bOf, ↓w_isB, ↓kBl_ok, ↓kBl_exc, ↓kIf_ok, ↓kIf_exc, ↓w_okB, ↓w_okD, ↓w_bAnd, ↓w_bOr, ↓w_bNot, ↓kNot_ok, ↓kNot_exc, ↓w_eAnd, ↓w_eOr, ↓w_eNot, ↓kNotV_ok, ↓w_eIf, ↓w_aNil, ↓w_aCons, ↓kA1_ok, ↓kA2_ok, ↓kA1_exc, ↓kA2_exc, ↓w_Tup, ↓w_Lst, ↓w_mkT, ↓w_mkL, ↓w_Dct, ↓w_Dct2, ↓w_SoSe, ↓w_Call, ↓w_goS, ↓w_Bi, ↓w_Isi, ↓w_Cut, ↓kC1_ok, ↓kC2_ok, ↓kC3_ok, ↓w_oNone, ↓w_oSome, ↓w_vO, ↓w_Chain, ↓kCh1_ok, ↓kCh2_ok, ↓kCh3_ok, ↓w_chA, ↓w_App, ↓w_Ins, ↓w_insG, ↓z_nx, ↓z_End, ↓z_Seq, ↓kT_nx, ↓kT_rt, ↓kT_bk, ↓kT_ct, ↓kT_exc, ↓z_If, ↓kIfS_ok, ↓kIfS_exc, ↓z_Ret, ↓kRet_ok, ↓kRet_exc, ↓z_Expr, ↓kNx_ok, ↓kNx_exc, ↓z_Asg, ↓kAs_ok, ↓kAs_exc, ↓z_tgO, t_N, t_T, t_nil, t_cons, t_G, t_gnil, t_gcons, t_bind, ↓z_Par, ↓kPar_ok, ↓z_Raise, ↓z_Break, ↓z_Cont, ↓z_For, ↓kSrc_ok, ↓w_Range, ↓w_rgF, ↓w_SeqI, ↓w_sqT, ↓w_Zip, ↓w_zpT, ↓w_Comp, ↓kCo_ok, ↓w_of, ↓kF_rt, ↓kF_nx, ↓kF_exc, ↓w_add, ↓w_sub, ↓w_pow10, ↓w_neg, ↓w_lt, ↓w_le, ↓w_gt, ↓w_ge, ↓w_ix0, ↓w_ix1, ↓w_ix2, ↓w_ix3, ↓w_eqI, ↓w_eqS, ↓w_eqT2, ↓w_abs, ↓w_lenT, ↓w_lenS, ↓w_max, ↓w_min, ↓w_intT, ↓w_intF, ↓w_isBool, ↓w_isTup, ↓w_tupT, ↓w_listT, ↓w_cutT, ↓brw_t, ↓brw_f, ↓brz_t, ↓brz_f, List.getElem?_cons_zero, List.getElem?_cons_succ, List.set_cons_zero, List.set_cons_succ, List.length_cons, List.length_nil, List.map_cons, List.map_nil, List.replicate, List.cons_append, List.nil_append, small, Nat.reduceAdd, Nat.reduceLeDiff, Nat.reduceEqDiff, Int.cast_ofNat_Int, Int.reduceBEq, BEq.rfl, ↓w_Yes, ↓w_bTru, ↓augF_ok, ↓z_Put, ↓putF_ok, ↓putG_ok, ↓w_isNn, ↓w_isNt, wipeF_nil, wipeF_cons, Int.reduceLE, Int.reduceLT, Int.reduceToNat, Int.reducePow, Int.reduceNeg, Int.reduceSub, Int.reduceAdd, Int.reduceMul, decide_true, decide_false, Bool.not_true, Bool.not_false, Bool.bne_false, Bool.bne_true, ↓w_aStar, ↓w_stT, ↓kSt_ok, ↓w_aDef, ↓kDf_ok, ↓w_Cnt, ↓w_Ext, ↓w_isBB, ↓w_isIB, ↓w_Enum, ↓w_enT, w_mul (b1.mk b2)]
    refine great2_w P2 (by omega) (by omega) (Int.lt_trans (show top * (1 + y) + 1 < 2 ^ 122 by omega) (by decide)) fun z h3 z0 z1 P3 S3 => ?_
    simp only [↓w_ok, ↓kB_ok, ↓kI_ok, ↓w_K, ↓w_V, ↓w_vR, ↓w_Op, ↓kO1_ok, ↓kO2_ok, ↓w_Un, ↓w_bOf, ↓w_isB, ↓kBl_ok, ↓kBl_exc, ↓kIf_ok, ↓kIf_exc, ↓w_okB, ↓w_okD, ↓w_bAnd, ↓w_bOr, ↓w_bNot, ↓kNot_ok, ↓kNot_exc, ↓w_eAnd, ↓w_eOr, ↓w_eNot, ↓kNotV_ok, ↓w_eIf, ↓w_aNil, ↓w_aCons, ↓kA1_ok, ↓kA2_ok, ↓kA1_exc, ↓kA2_exc, ↓w_Tup, ↓w_Lst, ↓w_mkT, ↓w_mkL, ↓w_Dct, ↓w_Dct2, ↓w_SoSe, ↓w_Call, ↓w_goS, ↓w_Bi, ↓w_Isi, ↓w_Cut, ↓kC1_ok, ↓kC2_ok, ↓kC3_ok, ↓w_oNone, ↓w_oSome, ↓w_vO, ↓w_Chain, ↓kCh1_ok, ↓kCh2_ok, ↓kCh3_ok, ↓w_chA, ↓w_App, ↓w_Ins, ↓w_insG, ↓z_nx, ↓z_End, ↓z_Seq, ↓kT_nx, ↓kT_rt, ↓kT_bk, ↓kT_ct, ↓kT_exc, ↓z_If, ↓kIfS_ok, ↓kIfS_exc, ↓z_Ret, ↓kRet_ok, ↓kRet_exc, ↓z_Expr, ↓kNx_ok, ↓kNx_exc, ↓z_Asg, ↓kAs_ok, ↓kAs_exc, ↓z_tgO, t_N, t_T, t_nil, t_cons, t_G, t_gnil, t_gcons, t_bind, ↓z_Par, ↓kPar_ok, ↓z_Raise, ↓z_Break, ↓z_Cont, ↓z_For, ↓kSrc_ok, ↓w_Range, ↓w_rgF, ↓w_SeqI, ↓w_sqT, ↓w_Zip, ↓w_zpT, ↓w_Comp, ↓kCo_ok, ↓w_of, ↓kF_rt, ↓kF_nx, ↓kF_exc, ↓w_add, ↓w_sub, ↓w_pow10, ↓w_neg, ↓w_lt, ↓w_le, ↓w_gt, ↓w_ge, ↓w_ix0, ↓w_ix1, ↓w_ix2, ↓w_ix3, ↓w_eqI, ↓w_eqS, ↓w_eqT2, ↓w_abs, ↓w_lenT, ↓w_lenS, ↓w_max, ↓w_min, ↓w_intT, ↓w_intF, ↓w_isBool, ↓w_isTup, ↓w_tupT, ↓w_listT, ↓w_cutT, ↓brw_t, ↓brw_f, ↓brz_t, ↓brz_f, List.getElem?_cons_zero, List.getElem?_cons_succ, List.set_cons_zero, List.set_cons_succ, List.length_cons, List.length_nil, List.map_cons, List.map_nil, List.replicate, List.cons_append, List.nil_append, small, Nat.reduceAdd, Nat.reduceLeDiff, Nat.reduceEqDiff, Int.cast_ofNat_Int, Int.reduceBEq, BEq.rfl, ↓w_Yes, ↓w_bTru, ↓augF_ok, ↓z_Put, ↓putF_ok, ↓putG_ok, ↓w_isNn, ↓w_isNt, wipeF_nil, wipeF_cons, Int.reduceLE, Int.reduceLT, Int.reduceToNat, Int.reducePow, Int.reduceNeg, Int.reduceSub, Int.reduceAdd, Int.reduceMul, decide_true, decide_false, Bool.not_true, Bool.not_false, Bool.bne_false, Bool.bne_true, ↓w_aStar, ↓w_stT, ↓kSt_ok, ↓w_aDef, ↓kDf_ok, ↓w_Cnt, ↓w_Ext, ↓w_isBB, ↓w_isIB, ↓w_Enum, ↓w_enT]
    have c1 : Bd 150 z := Bd.of (by omega) (by omega)
    have c2 : Bd 150 (1 + y) := b2.mono (by decide)
    refine low_w (by omega) c2 (by decide) ?_
    simp only [↓w_ok, ↓kB_ok, ↓kI_ok, ↓w_K, ↓w_V, ↓w_vR, ↓w_Op, ↓kO1_ok, ↓kO2_ok, ↓w_Un, ↓w_bOf, ↓w_isB, ↓kBl_ok, ↓kBl_exc, ↓kIf_ok, ↓kIf_exc, ↓w_okB, ↓w_okD, ↓w_bAnd, ↓w_bOr, ↓w_bNot, ↓kNot_ok, ↓kNot_exc, ↓w_eAnd, ↓w_eOr, ↓w_eNot, ↓kNotV_ok, ↓w_eIf, ↓w_aNil, ↓w_aCons, ↓kA1_ok, ↓kA2_ok, ↓kA1_exc, ↓kA2_exc, ↓w_Tup, ↓w_Lst, ↓w_mkT, ↓w_mkL, ↓w_Dct, ↓w_Dct2, ↓w_SoSe, ↓w_Call, ↓w_goS, ↓w_Bi, ↓w_Isi, ↓w_Cut, ↓kC1_ok, ↓kC2_ok, ↓kC3_ok, ↓w_oNone, ↓w_oSome, ↓w_vO, ↓w_Chain, ↓kCh1_ok, ↓kCh2_ok, ↓kCh3_ok, ↓w_chA, ↓w_App, ↓w_Ins, ↓w_insG, ↓z_nx, ↓z_End, ↓z_Seq, ↓kT_nx, ↓kT_rt, ↓kT_bk, ↓kT_ct, ↓kT_exc, ↓z_If, ↓kIfS_ok, ↓kIfS_exc, ↓z_Ret, ↓kRet_ok, ↓kRet_exc, ↓z_Expr, ↓kNx_ok, ↓kNx_exc, ↓z_Asg, ↓kAs_ok, ↓kAs_exc, ↓z_tgO, t_N, t_T, t_nil, t_cons, t_G, t_gnil, t_gcons, t_bind, ↓z_Par, ↓kPar_ok, ↓z_Raise, ↓z_Break, ↓z_Cont, ↓z_For, ↓kSrc_ok, ↓w_Range, ↓w_rgF, ↓w_SeqI, ↓w_sqT, ↓w_Zip, ↓w_zpT, ↓w_Comp, ↓kCo_ok, ↓w_of, ↓kF_rt, ↓kF_nx, ↓kF_exc, ↓w_add, ↓w_sub, ↓w_pow10, ↓w_neg, ↓w_lt, ↓w_le, ↓w_gt, ↓w_ge, ↓w_ix0, ↓w_ix1, ↓w_ix2, ↓w_ix3, ↓w_eqI, ↓w_eqS, ↓w_eqT2, ↓w_abs, ↓w_lenT, ↓w_lenS, ↓w_max, ↓w_min, ↓w_intT, ↓w_intF, ↓w_isBool, ↓w_isTup, ↓w_tupT, ↓w_listT, ↓w_cutT, ↓brw_t, ↓brw_f, ↓brz_t, ↓brz_f, List.getElem?_cons_zero, List.getElem?_cons_succ, List.set_cons_zero, List.set_cons_succ, List.length_cons, List.length_nil, List.map_cons, List.map_nil, List.replicate, List.cons_append, List.nil_append, small, Nat.reduceAdd, Nat.reduceLeDiff, Nat.reduceEqDiff, Int.cast_ofNat_Int, Int.reduceBEq, BEq.rfl, ↓w_Yes, ↓w_bTru, ↓augF_ok, ↓z_Put, ↓putF_ok, ↓putG_ok, ↓w_isNn, ↓w_isNt, wipeF_nil, wipeF_cons, Int.reduceLE, Int.reduceLT, Int.reduceToNat, Int.reducePow, Int.reduceNeg, Int.reduceSub, Int.reduceAdd, Int.reduceMul, decide_true, decide_false, Bool.not_true, Bool.not_false, Bool.bne_false, Bool.bne_true, ↓w_aStar, ↓w_stT, ↓kSt_ok, ↓w_aDef, ↓kDf_ok, ↓w_Cnt, ↓w_Ext, ↓w_isBB, ↓w_isIB, ↓w_Enum, ↓w_enT]
    have cr := lowQ_cross (x := z) (show 0 < 1 + y by omega)
    have ps := lowQ_pos (x := z) (show 0 < 1 + y by omega)
    refine k _ _ (lowQ_ok (by omega) c1 c2) (Int.ediv_nonneg z0 (by have := gI_pos (o := z) (u := 1 + y) (by omega); omega)) ?_ (P3.mono (by omega)) (S1.trans (S2.cut.trans S3))
    refine Int.le_of_mul_le_mul_right (a := 1 + y) ?_ (by omega)
    rw [cr]
    have := Int.mul_le_mul_of_nonneg_right (show z ≤ top * (1 + y) by omega) (show 0 ≤ (lowQ z (1 + y)).2 by omega)
    grind
structure Spl where
  b : Qp
  wb : Bool
  e : Qp
  we : Bool
/-- one moment at least -/
def Spl.live (s : Spl) : Prop := qlt s.b s.e ∨ (s.b = s.e ∧ s.wb = true ∧ s.we = true)
structure SpOk (B : Nat) (s : Spl) : Prop where
  fb : Fq B s.b
  fe : Fq B s.e
  mb : mom s.b
  me : mom s.e
  live : s.live
theorem Fq.ext {A B : Nat} {a b : Qp} (fa : Fq A a) (fb : Fq B b) (h1 : ¬ qlt a b) (h2 : ¬ qlt b a) : a = b := by
  have := Fq.eq (by have := fa.pos; omega) (by have := fb.pos; omega) fa.low fb.low (show a.1 * b.2 = b.1 * a.2 by
    have g1 : ¬ a.1 * b.2 < b.1 * a.2 := h1
    have g2 : ¬ b.1 * a.2 < a.1 * b.2 := h2
    omega)
  exact Prod.ext this.1 this.2
theorem mom_of {top : Int} {q : Qp} (t1 : top ≤ 1000000) (hq : 1 ≤ q.2) (h0 : 0 ≤ q.1) (h1 : q.1 ≤ top * q.2) : mom q := by
  refine ⟨h0, Int.le_trans h1 ?_⟩
  exact Int.mul_le_mul_of_nonneg_right t1 (by omega)
end
end MI
end
section
set_option Elab.async false
set_option linter.all false
set_option autoImplicit false
set_option maxRecDepth 100000
set_option exponentiation.threshold 20000
set_option maxHeartbeats 4000000
open PySem L2
namespace MI
def kLoop (I : Fr → Hq → Prop) (Ψ : SR → Prop) : SR → Prop
  | .nx fr h => I fr h
  | .ct fr h => I fr h
  | .bk fr h => Ψ (.nx fr h)
  | .rt d h => Ψ (.rt d h)
  | .exc x h => Ψ (.exc x h)
  | .no => False
theorem turns_w {get : Nat → Hq → Option D} {fin : Nat → Hq → Bool} {t : Tg} {b : Ss} {I : Nat → Fr → Hq → Prop} {Ψ : SR → Prop} {n : Nat}
    (step : ∀ i fr h, i < n → I i fr h → ∃ d fr1, get i h = some d ∧ t d fr = some fr1 ∧ Z (b fr1 h) (kLoop (I (i + 1)) Ψ)) (done : ∀ fr h, I n fr h → fin n h = true ∧ Ψ (.nx fr h)) :
    ∀ (k i : Nat) (fr : Fr) (h : Hq), i + k = n → I i fr h → Z (turns get fin t b k i fr h) Ψ
  | 0, i, fr, h, hk, hI => by
    have e : i = n := by omega
    subst e
    obtain ⟨f, q⟩ := done fr h hI
    unfold turns Z
    rw [if_pos f]
    exact q
  | k + 1, i, fr, h, hk, hI => by
    obtain ⟨d, fr1, e1, e2, q⟩ := step i fr h (by omega) hI
    have ih := turns_w step done k (i + 1)
    unfold turns Z
    rw [e1]
    dsimp only
    rw [e2]
    dsimp only
    revert q
    unfold Z
    cases b fr1 h with
    | nx fr2 h2 => exact fun q => ih fr2 h2 (by omega) q
    | ct fr2 h2 => exact fun q => ih fr2 h2 (by omega) q
    | bk fr2 h2 => exact fun q => q
    | rt d h2 => exact fun q => q
    | exc x h2 => exact fun q => q
    | no => exact fun q => q.elim
/-- a while's test -/
def kWh (b : Ss) (fr : Fr) (I : Fr → Hq → Prop) (Ψ : SR → Prop) : Rs Bool → Prop
  | .ok c h => (c = true → Z (b fr h) (kLoop I Ψ)) ∧ (c = false → Ψ (.nx fr h))
  | .exc x h => Ψ (.exc x h)
  | .no => False
theorem while_w {c : Sb} {b : Ss} {I : Nat → Fr → Hq → Prop} {Ψ : SR → Prop} (step : ∀ m fr h, I m fr h → W (c fr h) (kWh b fr (fun fr2 h2 => ∃ m2, m2 < m ∧ I m2 fr2 h2) Ψ)) {m : Nat} {fr : Fr} {h : Hq} (hI : I m fr h) : Z (sWhile c b fr h) Ψ := by
  have key : ∀ (m : Nat) (fr : Fr) (h : Hq), I m fr h → ∃ n r, whileN c b n fr h = some r ∧ Ψ r := by
    intro m
    induction m using Nat.strongRecOn with
    | _ m ih =>
      intro fr h hI
      have q := step m fr h hI
      unfold W at q
      cases hc : c fr h with
      | no => rw [hc] at q; exact q.elim
      | exc x h1 => rw [hc] at q; exact ⟨1, _, by unfold whileN; rw [hc], q⟩
      | ok v h1 =>
        rw [hc] at q
        cases v with
        | false => exact ⟨1, _, by unfold whileN; rw [hc], q.2 rfl⟩
        | true =>
          have q1 := q.1 rfl
          unfold Z at q1
          cases hb : b fr h1 with
          | nx fr2 h2 =>
            rw [hb] at q1
            obtain ⟨m2, hm, hI2⟩ := q1
            obtain ⟨n, r, e, hr⟩ := ih m2 hm fr2 h2 hI2
            exact ⟨n + 1, r, by unfold whileN; rw [hc]; dsimp only; rw [hb]; exact e, hr⟩
          | ct fr2 h2 =>
            rw [hb] at q1
            obtain ⟨m2, hm, hI2⟩ := q1
            obtain ⟨n, r, e, hr⟩ := ih m2 hm fr2 h2 hI2
            exact ⟨n + 1, r, by unfold whileN; rw [hc]; dsimp only; rw [hb]; exact e, hr⟩
          | bk fr2 h2 => rw [hb] at q1; exact ⟨1, _, by unfold whileN; rw [hc]; dsimp only; rw [hb], q1⟩
          | rt d h2 => rw [hb] at q1; exact ⟨1, _, by unfold whileN; rw [hc]; dsimp only; rw [hb], q1⟩
          | exc x h2 => rw [hb] at q1; exact ⟨1, _, by unfold whileN; rw [hc]; dsimp only; rw [hb], q1⟩
          | no => rw [hb] at q1; exact q1.elim
  obtain ⟨n, r, e, hr⟩ := key m fr h hI
  unfold Z
  rw [sWhile_eq e]
  exact hr
theorem picks_w {m : Nat} {get : Nat → Hq → Option D} {fin : Nat → Hq → Bool} {t : Tg} {c : Sb} {e : Sx} {fr : Fr} {I : Nat → List D → Hq → Prop} {Φ : Rs D → Prop} {n : Nat} (hn : n ≤ 1000000)
    (len : ∀ i acc h, I i acc h → acc.length ≤ i ∧ lstAt h m = some acc)
    (step : ∀ i acc h, i < n → I i acc h → ∃ d fr1, get i h = some d ∧ t d fr = some fr1 ∧ W (c fr1 h) fun s => ∃ b h1, s = .ok b h1 ∧ (b = true → W (e fr1 h1) fun s => ∃ y h2, s = .ok y h2 ∧ lstAt h2 m = some acc ∧ I (i + 1) (acc ++ [y]) (h2.set m (.lst (acc ++ [y])))) ∧ (b = false → I (i + 1) acc h1))
    (done : ∀ acc h, I n acc h → fin n h = true ∧ Φ (.ok (.ref m) h)) :
    ∀ (k i : Nat) (acc : List D) (h : Hq), i + k = n → I i acc h → W (picks m get fin t c e fr k i h) Φ
  | 0, i, acc, h, hk, hI => by
    have e : i = n := by omega
    subst e
    obtain ⟨f, q⟩ := done acc h hI
    unfold picks W
    rw [if_pos f]
    exact q
  | k + 1, i, acc, h, hk, hI => by
    obtain ⟨d, fr1, e1, e2, b, h1, e3, q1, q2⟩ := step i acc h (by omega) hI
    have ih := picks_w (Φ := Φ) hn len step done k (i + 1)
    unfold picks W
    rw [e1]
    dsimp only
    rw [e2]
    dsimp only
    rw [e3]
    cases b with
    | false => exact ih acc h1 (by omega) (q2 rfl)
    | true =>
      obtain ⟨y, h2, e4, e5, hI2⟩ := q1 rfl
      dsimp only
      rw [e4]
      dsimp only
      rw [e5]
      dsimp only
      have := (len i acc h hI).1
      rw [if_pos (show small (acc.length + 1) = true from decide_eq_true (by omega))]
      exact ih _ _ (by omega) hI2
/-- what has only grown -/
def Gr (h h' : Hq) : Prop := ∃ T, h' = h ++ T
theorem Gr.refl (h : Hq) : Gr h h := ⟨[], by simp⟩
theorem Gr.app (h : Hq) (T : List Cell) : Gr h (h ++ T) := ⟨T, rfl⟩
theorem Gr.trans {h h1 h2 : Hq} (a : Gr h h1) (b : Gr h1 h2) : Gr h h2 := by
  obtain ⟨T, rfl⟩ := a
  obtain ⟨U, rfl⟩ := b
  exact ⟨T ++ U, by rw [List.append_assoc]⟩
theorem Gr.lst {h h' : Hq} (g : Gr h h') {q : Nat} {l : List D} (e : lstAt h q = some l) : lstAt h' q = some l := by
  obtain ⟨T, rfl⟩ := g
  exact lstAt_app e T
theorem Gr.step {h h' : Hq} (g : Gr h h') (p : Nat) : Step p h h' := by
  obtain ⟨T, rfl⟩ := g
  exact Step.app p h T
theorem Gr.pot {h h' : Hq} (g : Gr h h') {p : Nat} {n : Int} (P : PotAt h p n) : PotAt h' p n := by
  obtain ⟨T, rfl⟩ := g
  exact P.app T
theorem Gr.len {h h' : Hq} (g : Gr h h') : h.length ≤ h'.length := by
  obtain ⟨T, rfl⟩ := g
  simp
theorem set_mid (h : Hq) (c c' : Cell) (T : List Cell) : (h ++ [c] ++ T).set h.length c' = h ++ [c'] ++ T := by
  rw [List.append_assoc, List.append_assoc]
  have := List.set_append_right (s := h) (t := [c] ++ T) h.length c' (Nat.le_refl _)
  rw [show (h ++ ([c] ++ T)).set h.length c' = _ from this]
  simp
theorem lst_mid (h : Hq) (l : List D) (T : List Cell) : lstAt (h ++ [.lst l] ++ T) h.length = some l := lstAt_app (lst_new h l) T
/-- a comprehension whose test and worth change nothing but for new cells -/
theorem comp_typed {α : Type} {h0 : Hq} {S : Src} {t : Tg} {c : Sb} {e : Sx} {fr : Fr} {Φ : Rs D → Prop} (xs : List α) (enc : α → D) (hn : S.n = xs.length) (hs : xs.length ≤ 1000000) (hget : ∀ i h', Gr h0 h' → S.get i h' = (xs.map enc)[i]?) (hfin : ∀ h', Gr h0 h' → S.fin xs.length h' = true) (p : α → Bool) (f : α → D)
    (hc : ∀ x ∈ xs, ∃ fr1, t (enc x) fr = some fr1 ∧ (∀ h' (Θ : Rs Bool → Prop), Gr h0 h' → (∀ h2, Gr h' h2 → Θ (.ok (p x) h2)) → W (c fr1 h') Θ) ∧ (p x = true → ∀ h' (Φ : Rs D → Prop), Gr h0 h' → (∀ h2, Gr h' h2 → Φ (.ok (f x) h2)) → W (e fr1 h') Φ))
    (k : ∀ T, Φ (.ok (.ref h0.length) (h0 ++ [.lst ((xs.filter p).map f)] ++ T))) : W (picks h0.length S.get S.fin t c e fr S.n 0 (h0 ++ [.lst []])) Φ := by
  rw [hn]
  refine picks_w (I := fun i acc h => acc = ((xs.take i).filter p).map f ∧ i ≤ xs.length ∧ ∃ T, h = h0 ++ [.lst acc] ++ T) hs ?_ ?_ ?_ xs.length 0 [] _ (by omega) ⟨by simp, by omega, [], by simp⟩
  · rintro i acc h ⟨rfl, hi, T, rfl⟩
    refine ⟨?_, lst_mid _ _ _⟩
    have := List.length_filter_le p (xs.take i)
    simp at this ⊢
    omega
  · rintro i acc h hi ⟨ea, hi', T, rfl⟩
    have gr : Gr h0 (h0 ++ [.lst acc] ++ T) := ⟨[.lst acc] ++ T, by simp⟩
    obtain ⟨fr1, e1, e2, e3⟩ := hc xs[i] (List.getElem_mem hi)
    refine ⟨enc xs[i], fr1, by rw [hget _ _ gr, List.getElem?_map, List.getElem?_eq_getElem hi]; rfl, e1, ?_⟩
    have tk : xs.take (i + 1) = xs.take i ++ [xs[i]] := by rw [List.take_succ, List.getElem?_eq_getElem hi]; rfl
    refine e2 _ _ gr fun h2 g2 => ?_
    obtain ⟨U, rfl⟩ := g2
    refine ⟨p xs[i], _, rfl, fun hp => ?_, fun hp => ?_⟩
    · refine e3 hp _ _ (gr.trans (Gr.app _ U)) fun h3 g3 => ?_
      obtain ⟨V', rfl⟩ := g3
      have e4 : h0 ++ [Cell.lst acc] ++ T ++ U ++ V' = h0 ++ [.lst acc] ++ (T ++ U ++ V') := by simp
      refine ⟨_, _, rfl, by rw [e4]; exact lst_mid _ _ _, ?_, by omega, T ++ U ++ V', by rw [e4]; exact set_mid _ _ _ _⟩
      rw [tk, List.filter_append, List.map_append, ← ea]
      simp [hp]
    · refine ⟨?_, by omega, T ++ U, by simp⟩
      rw [tk, List.filter_append, List.map_append, ← ea]
      simp [hp]
  · rintro acc h ⟨ea, _, T, rfl⟩
    have gr : Gr h0 (h0 ++ [.lst acc] ++ T) := ⟨[.lst acc] ++ T, by simp⟩
    refine ⟨hfin _ gr, ?_⟩
    have := k T
    rw [List.take_of_length_le (Nat.le_refl _)] at ea
    rw [← ea] at this
    exact this
/-- sources -/
theorem srcT_get {l : List D} (i : Nat) (h : Hq) : (srcT l).get i h = l[i]? := rfl
theorem srcT_fin {l : List D} (h : Hq) : (srcT l).fin l.length h = true := by simp [srcT]
theorem srcC_get {h0 : Hq} {q : Nat} {l : List D} (e : lstAt h0 q = some l) (i : Nat) (h' : Hq) (g : Gr h0 h') : (srcC q l.length).get i h' = l[i]? := by
  show (lstAt h' q).bind _ = _
  rw [g.lst e]; rfl
theorem srcC_fin {h0 : Hq} {q : Nat} {l : List D} (e : lstAt h0 q = some l) (h' : Hq) (g : Gr h0 h') : (srcC q l.length).fin l.length h' = true := by
  show (match lstAt h' q with | some l => decide (l.length ≤ _) | none => false) = true
  rw [g.lst e]; simp
end MI
end
section
set_option Elab.async false
set_option linter.all false
set_option autoImplicit false
set_option maxRecDepth 100000
set_option exponentiation.threshold 20000
set_option maxHeartbeats 4000000
open PySem L2
namespace MI
def pq (q : Qp) : PyData := .tuple [.int q.1, .int q.2]
section
variable {h : Hq} {m : Nat} {Φ : Rs D → Prop}
/-- what is small enough to be reckoned with -/
structure Bq (B : Nat) (q : Qp) : Prop where
  b1 : Bd B q.1
  b2 : Bd B q.2
theorem Fq.bq {B : Nat} {q : Qp} (f : Fq B q) : Bq B q := ⟨f.b1, f.b2⟩
end
theorem qlt_trans {a b c : Qp} (ha : 1 ≤ a.2) (hb : 1 ≤ b.2) (hc : 1 ≤ c.2) (h1 : qlt a b) (h2 : qlt b c) : qlt a c := by
  have h1' : a.1 * b.2 < b.1 * a.2 := h1
  have h2' : b.1 * c.2 < c.1 * b.2 := h2
  have g1 := Int.mul_lt_mul_of_pos_right h1' (show 0 < c.2 by omega)
  have g2 := Int.mul_lt_mul_of_pos_right h2' (show 0 < a.2 by omega)
  have g3 : a.1 * c.2 * b.2 < c.1 * a.2 * b.2 := by grind
  exact Int.lt_of_mul_lt_mul_right g3 (by omega)
theorem qlt_irr {a : Qp} : ¬ qlt a a := fun h => Int.lt_irrefl _ h
theorem qlt_asy {a b : Qp} (h1 : qlt a b) : ¬ qlt b a := fun h2 => by
  have h1' : a.1 * b.2 < b.1 * a.2 := h1
  have h2' : b.1 * a.2 < a.1 * b.2 := h2
  omega
theorem map_take {α β : Type} (f : α → β) (l : List α) (n : Nat) : (l.map f).take n = (l.take n).map f := (List.map_take).symm
theorem map_drop {α β : Type} (f : α → β) (l : List α) (n : Nat) : (l.map f).drop n = (l.drop n).map f := (List.map_drop).symm
end MI
end
section
set_option Elab.async false
set_option linter.all false
set_option autoImplicit false
set_option maxRecDepth 100000
set_option exponentiation.threshold 20000
set_option maxHeartbeats 4000000
open PySem L2
namespace MI
structure Ln where
  a : Qp
  b : Qp
structure LnOk (B : Nat) (l : Ln) : Prop where
  fa : Fq B l.a
  fb : Fq B l.b
abbrev Cn := Ln × Bool
/-- the worth's sign: x of a line, y of it -/
def Ln.x (l : Ln) : Int := l.a.1 * l.b.2
def Ln.y (l : Ln) : Int := l.b.1 * l.a.2
def lv (x y : Int) (q : Qp) : Int := x * q.2 + y * q.1
end MI
end
section
set_option Elab.async false
set_option linter.all false
set_option autoImplicit false
set_option maxRecDepth 100000
set_option exponentiation.threshold 20000
set_option maxHeartbeats 4000000
open PySem L2
namespace MI
/-- what the law asks of a moment -/
def hold (x y : Int) (ab : Bool) (t : Qp) : Bool := decide (0 < lv x y t) || (decide (lv x y t = 0) && !ab)
section
variable {h : Hq} {Φ : Rs D → Prop} {A B : Nat} {l : Ln} {t : Qp} {s : Spl}
def rootOf (l : Ln) : Option Qp := if l.y = 0 then none else if 0 < l.y then some (lowQ (0 - l.x) l.y) else some (lowQ l.x (0 - l.y))
end
end MI
end
section
set_option Elab.async false
set_option linter.all false
set_option autoImplicit false
set_option maxRecDepth 100000
set_option exponentiation.threshold 20000
set_option maxHeartbeats 4000000
open PySem L2
namespace MI
section
variable {h : Hq} {Φ : Rs D → Prop} {A B : Nat} {l : Ln} {t : Qp} {s : Spl}
theorem filter_yes {α : Type} (l : List α) : l.filter (fun _ => true) = l := List.filter_eq_self.mpr (fun _ _ => rfl)
end
end MI
end
section
set_option Elab.async false
set_option linter.all false
set_option autoImplicit false
set_option maxRecDepth 100000
set_option exponentiation.threshold 20000
set_option maxHeartbeats 4000000
open PySem L2
namespace MI
section
variable {h : Hq} {Φ : Rs D → Prop} {p : Nat} {n : Int}
theorem pot_w {ns : List Int} {k : Nat} (hk : k < 100) (kk : ∀ l, PotAt (h ++ [.lst l]) h.length 0 → Φ (.ok (.ref h.length) (h ++ [.lst l]))) : W (S__law_pot [.scr ns, .int k] h) Φ := by
  obtain ⟨l, e, P⟩ := pot_ok (h := h) (ns := ns) hk
  exact W.of e (kk l P)
theorem Sh.intB {B : Nat} {i : Int} (b : Bd B i) (hB : B ≤ 1900) : Sh (.int i) 0 (B + 1) := by
  have h1 : i.natAbs.log2 ≤ B := by
    unfold Bd at b
    by_cases h0 : i.natAbs = 0
    · rw [h0]; exact Nat.zero_le _
    · have := (Nat.log2_lt h0).mpr b; omega
  have h2 : ¬ i = 0 → i.natAbs.log2 < B := fun z => by
    unfold Bd at b
    exact (Nat.log2_lt (by omega)).mpr b
  refine ⟨decide_eq_true (by omega), rfl, Nat.le_refl _, decide_eq_true ?_, ?_⟩
  · exact Nat.le_trans (PyProof.Rows.int_text_len_1921 (by omega)) (by decide)
  · show (if i == 0 then 0 else i.natAbs.log2 + 1) ≤ B + 1
    split
    · omega
    · omega
theorem toPyR_dq {m : Nat} (q : Qp) : toPyR h (m + 2) (dq q) = some (pq q) := by
  simp [toPyR, opts, pq]
theorem Sh.q {B : Nat} {q : Qp} (f : Bq B q) (hB : B ≤ 1900) : Sh (pq q) 1 (2 * (B + 2)) := by
  have := Sh.tup (k := 0) (w := B + 1) (ps := [.int q.1, .int q.2]) (fun x hx => by
    simp at hx
    rcases hx with rfl | rfl
    · exact Sh.intB f.b1 hB
    · exact Sh.intB f.b2 hB)
  exact this
theorem repr_q {B : Nat} {q : Qp} (f : Bq B q) (hB : B ≤ 1900) : W (gRepr [dq q] h) Φ = Φ (.ok (.str (pq q).shown) h) := by
  have e : toPyR h 60 (dq q) = some (pq q) := by
    have e0 := toPyR_dq (h := h) (m := 58) q
    have e1 : 58 + 2 = 60 := rfl
    rw [e1] at e0
    exact e0
  have s1 : shows (pq q) = true := (Sh.q f hB).fits (show 1 ≤ 60 by decide) (show 2 * (B + 2) ≤ 8000 by omega)
  exact congrArg Φ (repr_ok e s1)
/-- a range -/
def rgS (m : Nat) : Src := ⟨m, fun i _ => if i < m then some (.int (0 + (i : Int))) else none, fun i _ => decide (m ≤ i)⟩
theorem iR_ok {m : Nat} (hm : m < 1000000) : iR 0 (m : Int) h = .ok (rgS m) h := by
  have c : (m : Int) < 2 ^ 61 ∧ -(2 ^ 61) < (m : Int) ∧ (0 : Int) < 2 ^ 61 ∧ -(2 ^ 61) < (0 : Int) := by omega
  unfold iR
  rw [if_pos c]
  unfold rgS
  have e : ((m : Int) - 0).toNat = m := by omega
  rw [e]
theorem range_t {b : Ss} {fr : Fr} {Ψ : SR → Prop} {m j : Nat} {I : Nat → Fr → Hq → Prop} (h0 : I 0 fr h) (step : ∀ i fr h, i < m → I i fr h → Z (b (fr.set j (some (.int (i : Int)))) h) (kLoop (I (i + 1)) Ψ)) (done : ∀ fr h, I m fr h → Ψ (.nx fr h)) :
    Z (turns (rgS m).get (rgS m).fin (tgN j) b (rgS m).n 0 fr h) Ψ := by
  have e0 : (rgS m).n = m := rfl
  rw [e0]
  refine turns_w (I := I) (n := m) (fun i fr h hi hI => ⟨.int (i : Int), _, ?_, rfl, step i fr h hi hI⟩) (fun fr h hI => ⟨by simp [rgS], done fr h hI⟩) m 0 fr h (by omega) h0
  simp [rgS, hi]
/-- how many cells are gone through: max(1, min(most, len(script))) -/
theorem cells_n (len : Nat) (most : Int) (h0 : 1 ≤ most) (h1 : most ≤ 100) : ∃ m : Nat, (if (if (len : Int) < most then (len : Int) else most) > 1 then (if (len : Int) < most then (len : Int) else most) else 1) = (m : Int) ∧ m ≤ most.toNat := by
  refine ⟨((if (if (len : Int) < most then (len : Int) else most) > 1 then (if (len : Int) < most then (len : Int) else most) else 1)).toNat, ?_, ?_⟩ <;> split <;> split <;> omega
theorem SpOk.mono {A B : Nat} {s : Spl} (k : SpOk A s) (h : A ≤ B) : SpOk B s := ⟨k.fb.mono h, k.fe.mono h, k.mb, k.me, k.live⟩
end
end MI
end
section
set_option Elab.async false
set_option linter.all false
set_option autoImplicit false
set_option maxRecDepth 100000
set_option exponentiation.threshold 20000
set_option maxHeartbeats 4000000
open PySem L2
namespace MI
/-- a fraction that is reckoned with -/
structure Qf where
  q : Qp
  ok : Fq 7000 q
/-- an edge: just ahead of a moment (false), or just behind it (true) -/
structure Ed where
  q : Qp
  s : Bool
  ok : Fq 7000 q
def Ed.lt (a b : Ed) : Prop := qlt a.q b.q ∨ (a.q = b.q ∧ a.s = false ∧ b.s = true)
instance (a b : Ed) : Decidable (a.lt b) := inferInstanceAs (Decidable (_ ∨ _))
namespace Ed
theorem pos (a : Ed) : 1 ≤ a.q.2 := a.ok.pos
theorem irr (a : Ed) : ¬ a.lt a := by
  rintro (h | ⟨_, h1, h2⟩)
  · exact qlt_irr h
  · rw [h1] at h2; cases h2
theorem trans {a b c : Ed} (h1 : a.lt b) (h2 : b.lt c) : a.lt c := by
  rcases h1 with h1 | ⟨e1, s1, s2⟩
  · rcases h2 with h2 | ⟨e2, s3, s4⟩
    · exact .inl (qlt_trans a.pos b.pos c.pos h1 h2)
    · exact .inl (e2 ▸ h1)
  · rcases h2 with h2 | ⟨e2, s3, s4⟩
    · exact .inl (e1 ▸ h2)
    · rw [s2] at s3; cases s3
theorem eq_of {a b : Ed} (h1 : ¬ a.lt b) (h2 : ¬ b.lt a) : a = b := by
  have e : a.q = b.q := a.ok.ext b.ok (fun z => h1 (.inl z)) fun z => h2 (.inl z)
  have s : a.s = b.s := by
    cases ha : a.s <;> cases hb : b.s
    · rfl
    · exact absurd (.inr ⟨e, ha, hb⟩) h1
    · exact absurd (.inr ⟨e.symm, hb, ha⟩) h2
    · rfl
  cases a; cases b
  dsimp only at e s
  subst e s
  rfl
/-- ¬ b < a, that is a ≤ b -/
theorem le_lt {a b c : Ed} (h1 : ¬ b.lt a) (h2 : b.lt c) : a.lt c := by
  by_cases h : a.lt b
  · exact trans h h2
  · rw [eq_of h h1]; exact h2
theorem lt_le {a b c : Ed} (h1 : a.lt b) (h2 : ¬ c.lt b) : a.lt c := by
  by_cases h : b.lt c
  · exact trans h1 h
  · rw [← eq_of h h2]; exact h1
theorem le_trans {a b c : Ed} (h1 : ¬ b.lt a) (h2 : ¬ c.lt b) : ¬ c.lt a := fun h => h2 (lt_le h h1)
theorem asy {a b : Ed} (h : a.lt b) : ¬ b.lt a := fun k => irr a (trans h k)
end Ed
def Qf.pre (m : Qf) : Ed := ⟨m.q, false, m.ok⟩
def Qf.post (m : Qf) : Ed := ⟨m.q, true, m.ok⟩
theorem Qf.lt (m : Qf) : m.pre.lt m.post := .inr ⟨rfl, rfl, rfl⟩
/-- nothing between -/
theorem Qf.adj (m : Qf) (x : Ed) : x.lt m.post ↔ ¬ m.pre.lt x := by
  constructor
  · intro h k
    rcases h with h | ⟨e1, s1, _⟩
    · rcases k with k | ⟨e2, _, s2⟩
      · exact qlt_asy h k
      · exact qlt_irr (show qlt m.q m.q from by have := h; rw [show x.q = m.q from e2.symm] at this; exact this)
    · rcases k with k | ⟨_, _, s2⟩
      · rw [e1] at k; exact qlt_irr k
      · rw [s1] at s2; cases s2
  · intro h
    by_cases h1 : qlt x.q m.q
    · exact .inl h1
    · by_cases h2 : qlt m.q x.q
      · exact absurd (.inl h2) h
      · have e := x.ok.ext m.ok h1 h2
        cases hs : x.s
        · exact .inr ⟨e, hs, rfl⟩
        · exact absurd (.inr ⟨e.symm, rfl, hs⟩) h
/-- a spell by its edges -/
structure Sg where
  lo : Ed
  hi : Ed
  live : lo.lt hi
namespace Sg
def mem (m : Qf) (s : Sg) : Prop := ¬ m.pre.lt s.lo ∧ ¬ s.hi.lt m.post
instance (m : Qf) (s : Sg) : Decidable (mem m s) := inferInstanceAs (Decidable (_ ∧ _))
end Sg
/-- one behind another, with something between -/
def Sep (l : List Sg) : Prop := l.Pairwise fun a b => a.hi.lt b.lo
def anyM (m : Qf) (l : List Sg) : Prop := ∃ s ∈ l, Sg.mem m s
theorem anyM_nil {m : Qf} : ¬ anyM m [] := fun ⟨_, h, _⟩ => nomatch h
theorem anyM_app {m : Qf} {l k : List Sg} : anyM m (l ++ k) ↔ anyM m l ∨ anyM m k := by
  constructor
  · rintro ⟨s, h, k⟩
    rcases List.mem_append.mp h with h | h
    · exact .inl ⟨s, h, k⟩
    · exact .inr ⟨s, h, k⟩
  · rintro (⟨s, h, k⟩ | ⟨s, h, k⟩)
    · exact ⟨s, List.mem_append_left _ h, k⟩
    · exact ⟨s, List.mem_append_right _ h, k⟩
theorem anyM_one {m : Qf} {s : Sg} : anyM m [s] ↔ Sg.mem m s := by
  constructor
  · rintro ⟨t, h, k⟩
    rw [List.mem_singleton.mp h] at k; exact k
  · exact fun h => ⟨s, by simp, h⟩
/-- what is found of rows that go by their begins -/
structure OneW (rows found : List Sg) : Prop where
  sep : Sep found
  mem : ∀ m, anyM m found ↔ anyM m rows
  los : ∀ s ∈ found, ∃ r ∈ rows, s.lo = r.lo
  his : ∀ s ∈ found, ∃ r ∈ rows, s.hi = r.hi
theorem OneW.nil : OneW [] [] := ⟨List.Pairwise.nil, fun m => Iff.rfl, fun s h => (nomatch h), fun s h => (nomatch h)⟩
theorem OneW.more {rows pre : List Sg} {l r : Sg} (o : OneW rows (pre ++ [l])) (h : l.hi.lt r.lo) : OneW (rows ++ [r]) (pre ++ [l] ++ [r]) := by
  refine ⟨?_, fun m => ?_, fun s hs => ?_, fun s hs => ?_⟩
  · refine List.pairwise_append.mpr ⟨o.sep, by simp, fun a ha b hb => ?_⟩
    rw [List.mem_singleton.mp hb]
    rcases List.mem_append.mp ha with ha | ha
    · have := (List.pairwise_append.mp o.sep).2.2 a ha l (by simp)
      exact Ed.trans (Ed.trans this l.live) h
    · rw [List.mem_singleton.mp ha]; exact h
  · rw [anyM_app, anyM_app (l := rows), o.mem m]
  · rcases List.mem_append.mp hs with hs | hs
    · obtain ⟨t, ht, e⟩ := o.los s hs
      exact ⟨t, by simp [ht], e⟩
    · exact ⟨r, by simp, by rw [List.mem_singleton.mp hs]⟩
  · rcases List.mem_append.mp hs with hs | hs
    · obtain ⟨t, ht, e⟩ := o.his s hs
      exact ⟨t, by simp [ht], e⟩
    · exact ⟨r, by simp, by rw [List.mem_singleton.mp hs]⟩
/-- a common spell of the two that stand -/
def lateE (a b : Ed) : Ed := if a.lt b then b else a
def earlyE (a b : Ed) : Ed := if b.lt a then b else a
theorem late_le (a b c : Ed) : (lateE a b).lt c ↔ a.lt c ∧ b.lt c := by
  unfold lateE
  by_cases h : a.lt b
  · rw [if_pos h]; exact ⟨fun k => ⟨Ed.trans h k, k⟩, fun k => k.2⟩
  · rw [if_neg h]; exact ⟨fun k => ⟨k, Ed.le_lt h k⟩, fun k => k.1⟩
theorem lt_late (a b c : Ed) : c.lt (lateE a b) ↔ c.lt a ∨ c.lt b := by
  unfold lateE
  by_cases h : a.lt b
  · rw [if_pos h]; exact ⟨.inr, fun k => k.elim (fun z => Ed.trans z h) id⟩
  · rw [if_neg h]; exact ⟨.inl, fun k => k.elim id fun z => Ed.lt_le z h⟩
theorem early_lt (a b c : Ed) : (earlyE a b).lt c ↔ a.lt c ∨ b.lt c := by
  unfold earlyE
  by_cases h : b.lt a
  · rw [if_pos h]; exact ⟨.inr, fun k => k.elim (fun z => Ed.trans h z) id⟩
  · rw [if_neg h]; exact ⟨.inl, fun k => k.elim id fun z => Ed.le_lt h z⟩
theorem lt_early (a b c : Ed) : c.lt (earlyE a b) ↔ c.lt a ∧ c.lt b := by
  unfold earlyE
  by_cases h : b.lt a
  · rw [if_pos h]; exact ⟨fun k => ⟨Ed.trans k h, k⟩, fun k => k.2⟩
  · rw [if_neg h]; exact ⟨fun k => ⟨k, Ed.lt_le k h⟩, fun k => k.1⟩
theorem mem_common {a b : Sg} (lv : (lateE a.lo b.lo).lt (earlyE a.hi b.hi)) (m : Qf) : Sg.mem m ⟨lateE a.lo b.lo, earlyE a.hi b.hi, lv⟩ ↔ Sg.mem m a ∧ Sg.mem m b := by
  unfold Sg.mem
  dsimp only
  rw [lt_late, early_lt]
  constructor
  · rintro ⟨h1, h2⟩
    exact ⟨⟨fun z => h1 (.inl z), fun z => h2 (.inl z)⟩, ⟨fun z => h1 (.inr z), fun z => h2 (.inr z)⟩⟩
  · rintro ⟨⟨h1, h2⟩, ⟨h3, h4⟩⟩
    exact ⟨fun z => z.elim h1 h3, fun z => z.elim h2 h4⟩
theorem no_common {a b : Sg} (lv : ¬ (lateE a.lo b.lo).lt (earlyE a.hi b.hi)) (m : Qf) : ¬ (Sg.mem m a ∧ Sg.mem m b) := by
  rintro ⟨⟨h1, h2⟩, ⟨h3, h4⟩⟩
  refine lv ?_
  rw [late_le, lt_early, lt_early]
  have g1 : a.lo.lt m.post := (m.adj _).mpr h1
  have g2 : b.lo.lt m.post := (m.adj _).mpr h3
  exact ⟨⟨Ed.lt_le g1 h2, Ed.lt_le g1 h4⟩, ⟨Ed.lt_le g2 h2, Ed.lt_le g2 h4⟩⟩
/-- two that are apart share nothing -/
theorem apart {a b : Sg} (h : a.hi.lt b.lo) (m : Qf) : ¬ (Sg.mem m a ∧ Sg.mem m b) := by
  rintro ⟨⟨_, h2⟩, ⟨h3, _⟩⟩
  exact h2 (Ed.trans h ((m.adj _).mpr h3))
theorem Sep.at {l : List Sg} (s : Sep l) {i j : Nat} {a b : Sg} (h : i < j) (ha : l[i]? = some a) (hb : l[j]? = some b) : a.hi.lt b.lo := by
  obtain ⟨h1, e1⟩ := List.getElem?_eq_some_iff.mp ha
  obtain ⟨h2, e2⟩ := List.getElem?_eq_some_iff.mp hb
  have := List.pairwise_iff_getElem.mp s i j h1 h2 h
  rw [e1, e2] at this
  exact this
/-- f is the common spell -/
structure IsCom (a b f : Sg) : Prop where
  lo : f.lo = lateE a.lo b.lo
  hi : f.hi = earlyE a.hi b.hi
theorem IsCom.mem {a b f : Sg} (c : IsCom a b f) (m : Qf) : Sg.mem m f ↔ Sg.mem m a ∧ Sg.mem m b := by
  have lv : (lateE a.lo b.lo).lt (earlyE a.hi b.hi) := by rw [← c.lo, ← c.hi]; exact f.live
  have := mem_common lv m
  rw [← this]
  unfold Sg.mem
  rw [c.lo, c.hi]
/-- what is found of two sets when some first ones of each are gone through -/
structure Bth (A B : List Sg) (i j : Nat) (found : List Sg) : Prop where
  sep : Sep found
  frm : ∀ f ∈ found, ∃ (k l : Nat) (a b : Sg), A[k]? = some a ∧ B[l]? = some b ∧ k ≤ i ∧ l ≤ j ∧ (k < i ∨ l < j) ∧ IsCom a b f
  all : ∀ k l a b, A[k]? = some a → B[l]? = some b → k < i ∨ l < j → ∀ m, Sg.mem m a → Sg.mem m b → anyM m found
theorem Bth.nil (A B : List Sg) : Bth A B 0 0 [] := ⟨List.Pairwise.nil, fun f h => (nomatch h), fun k l a b _ _ h => by omega⟩
theorem Bth.done {A B found : List Sg} {i j : Nat} (b : Bth A B i j found) (h : A.length ≤ i ∨ B.length ≤ j) (m : Qf) : anyM m found ↔ anyM m A ∧ anyM m B := by
  constructor
  · rintro ⟨f, hf, hm⟩
    obtain ⟨k, l, x, y, hx, hy, _, _, _, c⟩ := b.frm f hf
    have := (c.mem m).mp hm
    exact ⟨⟨x, List.mem_of_getElem? hx, this.1⟩, ⟨y, List.mem_of_getElem? hy, this.2⟩⟩
  · rintro ⟨⟨x, hx, mx⟩, ⟨y, hy, my⟩⟩
    obtain ⟨k, hk, rfl⟩ := List.getElem_of_mem hx
    obtain ⟨l, hl, rfl⟩ := List.getElem_of_mem hy
    exact b.all k l _ _ (List.getElem?_eq_getElem hk) (List.getElem?_eq_getElem hl) (by omega) m mx my
/-- the two that stand are looked at; then the one that ends earlier goes -/
theorem Bth.step {A B found F : List Sg} {i j : Nat} {a b : Sg} (t : Bth A B i j found) (sA : Sep A) (sB : Sep B) (ha : A[i]? = some a) (hb : B[j]? = some b)
    (hF : (∃ c : Sg, IsCom a b c ∧ F = found ++ [c]) ∨ (¬ (lateE a.lo b.lo).lt (earlyE a.hi b.hi) ∧ F = found)) :
    (a.hi.lt b.hi → Bth A B (i + 1) j F) ∧ (¬ a.hi.lt b.hi → Bth A B i (j + 1) F) := by
  have new : ∀ m, Sg.mem m a → Sg.mem m b → anyM m F := fun m h1 h2 => by
    rcases hF with ⟨c, hc, rfl⟩ | ⟨no, rfl⟩
    · exact ⟨c, by simp, (hc.mem m).mpr ⟨h1, h2⟩⟩
    · exact absurd ⟨h1, h2⟩ (no_common no m)
  have sep : Sep F := by
    rcases hF with ⟨c, hcom, rfl⟩ | ⟨_, rfl⟩
    · refine List.pairwise_append.mpr ⟨t.sep, by simp, fun f hf c' hc => ?_⟩
      rw [List.mem_singleton.mp hc]
      obtain ⟨k, l, x, y, hx, hy, k1, l1, kl, c2⟩ := t.frm f hf
      rw [c2.hi, hcom.lo, lt_late, early_lt, early_lt]
      rcases kl with kl | kl
      · exact .inl (.inl (sA.at kl hx ha))
      · exact .inr (.inr (sB.at kl hy hb))
    · exact t.sep
  have frm : ∀ i' j', i ≤ i' → j ≤ j' → (i < i' ∨ j < j') → ∀ f ∈ F, ∃ (k l : Nat) (a b : Sg), A[k]? = some a ∧ B[l]? = some b ∧ k ≤ i' ∧ l ≤ j' ∧ (k < i' ∨ l < j') ∧ IsCom a b f := fun i' j' hi hj hij f hf => by
    have old : f ∈ found → ∃ (k l : Nat) (a b : Sg), A[k]? = some a ∧ B[l]? = some b ∧ k ≤ i' ∧ l ≤ j' ∧ (k < i' ∨ l < j') ∧ IsCom a b f := fun hf => by
      obtain ⟨k, l, x, y, hx, hy, k1, l1, kl, z⟩ := t.frm f hf
      exact ⟨k, l, x, y, hx, hy, by omega, by omega, by omega, z⟩
    rcases hF with ⟨c, hc, rfl⟩ | ⟨_, rfl⟩
    · rcases List.mem_append.mp hf with hf | hf
      · exact old hf
      · exact ⟨i, j, a, b, ha, hb, hi, hj, hij, by rw [List.mem_singleton.mp hf]; exact hc⟩
    · exact old hf
  have any : ∀ m, anyM m found → anyM m F := fun m ⟨f, hf, h⟩ => ⟨f, by
    rcases hF with ⟨c, _, rfl⟩ | ⟨_, rfl⟩
    · exact List.mem_append_left _ hf
    · exact hf, h⟩
  refine ⟨fun lt => ⟨sep, frm (i + 1) j (by omega) (by omega) (by omega), fun k l x y hx hy kl m mx my => ?_⟩, fun nlt => ⟨sep, frm i (j + 1) (by omega) (by omega) (by omega), fun k l x y hx hy kl m mx my => ?_⟩⟩
  · by_cases old : k < i ∨ l < j
    · exact any m (t.all k l x y hx hy old m mx my)
    · have ek : k = i := by omega
      subst ek
      rw [ha] at hx; cases hx
      by_cases el : l = j
      · subst el
        rw [hb] at hy; cases hy
        exact new m mx my
      · have := sB.at (show j < l by omega) hb hy
        exact absurd ⟨mx, my⟩ (apart (Ed.trans lt this) m)
  · by_cases old : k < i ∨ l < j
    · exact any m (t.all k l x y hx hy old m mx my)
    · have el : l = j := by omega
      subst el
      rw [hb] at hy; cases hy
      by_cases ek : k = i
      · subst ek
        rw [ha] at hx; cases hx
        exact new m mx my
      · have := sA.at (show i < k by omega) ha hx
        exact absurd ⟨my, mx⟩ (apart (Ed.le_lt nlt this) m)
/-- what is left of all from the edge lo on, some first ones gone through -/
structure Lft (lo edge : Ed) (gone found : List Sg) : Prop where
  sep : Sep found
  mem : ∀ m : Qf, anyM m found ↔ (¬ m.pre.lt lo ∧ ¬ edge.lt m.post ∧ ¬ anyM m gone)
  beg : ¬ edge.lt lo
  ends : ∀ g ∈ gone, ¬ edge.lt g.hi
  frm : edge = lo ∨ ∃ g ∈ gone, edge = g.hi
  los : ∀ f ∈ found, f.lo = lo ∨ ∃ g ∈ gone, f.lo = g.hi
  his : ∀ f ∈ found, ∃ g ∈ gone, f.hi = g.lo
theorem Lft.nil (lo : Ed) : Lft lo lo [] [] := by
  refine ⟨List.Pairwise.nil, fun m => ⟨fun h => absurd h anyM_nil, fun ⟨h1, h2, _⟩ => absurd ((m.adj lo).mpr h1) h2⟩, Ed.irr _, fun g h => (nomatch h), .inl rfl, fun f h => (nomatch h), fun f h => (nomatch h)⟩
/-- the gap ahead of the next one, where there is one -/
structure Gap (edge lo : Ed) (found F : List Sg) : Prop where
  is : (edge.lt lo ∧ ∃ c : Sg, c.lo = edge ∧ c.hi = lo ∧ F = found ++ [c]) ∨ (¬ edge.lt lo ∧ F = found)
theorem Gap.any {edge lo : Ed} {found F : List Sg} (g : Gap edge lo found F) (m : Qf) : anyM m F ↔ anyM m found ∨ (edge.lt m.post ∧ ¬ lo.lt m.post) := by
  rcases g.is with ⟨h, c, e1, e2, rfl⟩ | ⟨h, rfl⟩
  · rw [anyM_app, anyM_one]
    unfold Sg.mem
    rw [e1, e2, m.adj edge]
  · exact ⟨.inl, fun k => k.elim id fun ⟨k1, k2⟩ => absurd (Ed.le_lt h k1) k2⟩
theorem Lft.step {lo edge : Ed} {gone found F : List Sg} {s : Sg} (t : Lft lo edge gone found) (hs : ¬ s.lo.lt edge) (g : Gap edge s.lo found F) : Lft lo s.hi (gone ++ [s]) F := by
  have eh : edge.lt s.hi := Ed.le_lt hs s.live
  refine ⟨?_, fun m => ?_, fun z => t.beg (Ed.trans eh z), fun c hc z => ?_, .inr ⟨s, by simp, rfl⟩, fun f hf => ?_, fun f hf => ?_⟩
  · rcases g.is with ⟨h, c, e1, e2, rfl⟩ | ⟨h, rfl⟩
    · refine List.pairwise_append.mpr ⟨t.sep, by simp, fun f hf c' hc => ?_⟩
      rw [List.mem_singleton.mp hc, e1]
      obtain ⟨k, hk, e⟩ := t.his f hf
      rw [e]
      exact Ed.lt_le k.live (t.ends k hk)
    · exact t.sep
  · rw [g.any, t.mem, anyM_app, anyM_one]
    by_cases h : edge.lt m.post
    · have hp := (m.adj edge).mp h
      have g1 : ¬ m.pre.lt lo := fun z => hp (Ed.lt_le z t.beg)
      have g2 : ¬ anyM m gone := fun ⟨k, hk, _, k2⟩ => k2 (Ed.le_lt (t.ends k hk) h)
      constructor
      · rintro (⟨_, z, _⟩ | ⟨_, z⟩)
        · exact absurd h z
        · exact ⟨g1, fun y => z (Ed.trans s.live y), fun y => y.elim g2 fun w => z ((m.adj _).mpr w.1)⟩
      · rintro ⟨_, z1, z2⟩
        refine .inr ⟨h, fun y => z2 (.inr ⟨(m.adj _).mp y, z1⟩)⟩
    · constructor
      · rintro (⟨z1, z2, z3⟩ | ⟨z, _⟩)
        · exact ⟨z1, fun y => h (Ed.trans eh y), fun y => y.elim z3 fun w => h (Ed.le_lt hs ((m.adj _).mpr w.1))⟩
        · exact absurd z h
      · rintro ⟨z1, z2, z3⟩
        exact .inl ⟨z1, h, fun y => z3 (.inl y)⟩
  · rcases List.mem_append.mp hc with hc | hc
    · exact t.ends c hc (Ed.trans eh z)
    · rw [List.mem_singleton.mp hc] at z; exact Ed.irr _ z
  · have old : f ∈ found → f.lo = lo ∨ ∃ c ∈ gone ++ [s], f.lo = c.hi := fun hf => (t.los f hf).imp id fun ⟨c, hc, e⟩ => ⟨c, by simp [hc], e⟩
    rcases g.is with ⟨h, c, e1, e2, rfl⟩ | ⟨h, rfl⟩
    · rcases List.mem_append.mp hf with hf | hf
      · exact old hf
      · rw [List.mem_singleton.mp hf, e1]
        exact t.frm.imp id fun ⟨c, hc, e⟩ => ⟨c, by simp [hc], e⟩
    · exact old hf
  · have old : f ∈ found → ∃ c ∈ gone ++ [s], f.hi = c.lo := fun hf => let ⟨c, hc, e⟩ := t.his f hf; ⟨c, by simp [hc], e⟩
    rcases g.is with ⟨h, c, e1, e2, rfl⟩ | ⟨h, rfl⟩
    · rcases List.mem_append.mp hf with hf | hf
      · exact old hf
      · exact ⟨s, by simp, by rw [List.mem_singleton.mp hf, e2]⟩
    · exact old hf
/-- .. up to the edge hi -/
theorem Lft.done {lo edge hi : Ed} {gone found F : List Sg} (t : Lft lo edge gone found) (he : ¬ hi.lt edge) (g : Gap edge hi found F) :
    Sep F ∧ (∀ m : Qf, anyM m F ↔ (¬ m.pre.lt lo ∧ ¬ hi.lt m.post ∧ ¬ anyM m gone)) ∧ (∀ f ∈ F, f.lo = lo ∨ ∃ g ∈ gone, f.lo = g.hi) ∧ (∀ f ∈ F, f.hi = hi ∨ ∃ g ∈ gone, f.hi = g.lo) := by
  refine ⟨?_, fun m => ?_, fun f hf => ?_, fun f hf => ?_⟩
  · rcases g.is with ⟨h, c, e1, e2, rfl⟩ | ⟨h, rfl⟩
    · refine List.pairwise_append.mpr ⟨t.sep, by simp, fun f hf c' hc => ?_⟩
      rw [List.mem_singleton.mp hc, e1]
      obtain ⟨k, hk, e⟩ := t.his f hf
      rw [e]
      exact Ed.lt_le k.live (t.ends k hk)
    · exact t.sep
  · rw [g.any, t.mem]
    by_cases h : edge.lt m.post
    · have hp := (m.adj edge).mp h
      have g1 : ¬ m.pre.lt lo := fun z => hp (Ed.lt_le z t.beg)
      have g2 : ¬ anyM m gone := fun ⟨k, hk, _, k2⟩ => k2 (Ed.le_lt (t.ends k hk) h)
      constructor
      · rintro (⟨_, z, _⟩ | ⟨_, z⟩)
        · exact absurd h z
        · exact ⟨g1, z, g2⟩
      · rintro ⟨_, z1, _⟩
        exact .inr ⟨h, z1⟩
    · constructor
      · rintro (⟨z1, z2, z3⟩ | ⟨z, _⟩)
        · exact ⟨z1, fun y => h (Ed.le_lt he y), z3⟩
        · exact absurd z h
      · rintro ⟨z1, z2, z3⟩
        exact .inl ⟨z1, h, z3⟩
  · rcases g.is with ⟨h, c, e1, e2, rfl⟩ | ⟨h, rfl⟩
    · rcases List.mem_append.mp hf with hf | hf
      · exact t.los f hf
      · rw [List.mem_singleton.mp hf, e1]; exact t.frm
    · exact t.los f hf
  · rcases g.is with ⟨h, c, e1, e2, rfl⟩ | ⟨h, rfl⟩
    · rcases List.mem_append.mp hf with hf | hf
      · exact .inr (t.his f hf)
      · rw [List.mem_singleton.mp hf, e2]; exact .inl rfl
    · exact .inr (t.his f hf)
end MI
end
section
set_option Elab.async false
set_option linter.all false
set_option autoImplicit false
set_option maxRecDepth 100000
set_option exponentiation.threshold 20000
set_option maxHeartbeats 4000000
open PySem L2
namespace MI
section
variable {h : Hq} {Φ : Rs D → Prop} {a b : Ed} {s t : Sg}
/-- by their begins -/
def Srt (l : List Sg) : Prop := l.Pairwise fun a b => ¬ b.lo.lt a.lo
theorem Srt.at {l : List Sg} (s : Srt l) {i j : Nat} (hj : j < l.length) (hij : i ≤ j) : ¬ l[j].lo.lt (l[i]'(by omega)).lo := by
  by_cases e : i = j
  · subst e; exact Ed.irr _
  · exact List.pairwise_iff_getElem.mp s i j (by omega) hj (by omega)
/-- rows, as a list or a tuple -/
inductive SeqD (h : Hq) : D → List D → Prop
  | tup (l : List D) : SeqD h (.tup l) l
  | lst (m : Nat) (l : List D) : lstAt h m = some l → SeqD h (.ref m) l
/-- what a loop over rows walks -/
structure SrcOf (h : Hq) (l : List D) (S : Src) : Prop where
  n : S.n = l.length
  get : ∀ i h', Gr h h' → S.get i h' = l[i]?
  fin : ∀ h', Gr h h' → S.fin l.length h' = true
theorem seqI_w {h h0 : Hq} {d : D} {l : List D} {Ξ : Rs Src → Prop} (g : Gr h h0) (q : SeqD h d l) (k : ∀ S, SrcOf h l S → Ξ (.ok S h0)) : W (sqF d h0) Ξ := by
  cases q with
  | tup =>
    simp only [↓w_ok, ↓kB_ok, ↓kI_ok, ↓w_K, ↓w_V, ↓w_vR, ↓w_Op, ↓kO1_ok, ↓kO2_ok, ↓w_Un, ↓w_bOf, ↓w_isB, ↓kBl_ok, ↓kBl_exc, ↓kIf_ok, ↓kIf_exc, ↓w_okB, ↓w_okD, ↓w_bAnd, ↓w_bOr, ↓w_bNot, ↓kNot_ok, ↓kNot_exc, ↓w_eAnd, ↓w_eOr, ↓w_eNot, ↓kNotV_ok, ↓w_eIf, ↓w_aNil, ↓w_aCons, ↓kA1_ok, ↓kA2_ok, ↓kA1_exc, ↓kA2_exc, ↓w_Tup, ↓w_Lst, ↓w_mkT, ↓w_mkL, ↓w_Dct, ↓w_Dct2, ↓w_SoSe, ↓w_Call, ↓w_goS, ↓w_Bi, ↓w_Isi, ↓w_Cut, ↓kC1_ok, ↓kC2_ok, ↓kC3_ok, ↓w_oNone, ↓w_oSome, ↓w_vO, ↓w_Chain, ↓kCh1_ok, ↓kCh2_ok, ↓kCh3_ok, ↓w_chA, ↓w_App, ↓w_Ins, ↓w_insG, ↓z_nx, ↓z_End, ↓z_Seq, ↓kT_nx, ↓kT_rt, ↓kT_bk, ↓kT_ct, ↓kT_exc, ↓z_If, ↓kIfS_ok, ↓kIfS_exc, ↓z_Ret, ↓kRet_ok, ↓kRet_exc, ↓z_Expr, ↓kNx_ok, ↓kNx_exc, ↓z_Asg, ↓kAs_ok, ↓kAs_exc, ↓z_tgO, t_N, t_T, t_nil, t_cons, t_G, t_gnil, t_gcons, t_bind, ↓z_Par, ↓kPar_ok, ↓z_Raise, ↓z_Break, ↓z_Cont, ↓z_For, ↓kSrc_ok, ↓w_Range, ↓w_rgF, ↓w_SeqI, ↓w_sqT, ↓w_Zip, ↓w_zpT, ↓w_Comp, ↓kCo_ok, ↓w_of, ↓kF_rt, ↓kF_nx, ↓kF_exc, ↓w_add, ↓w_sub, ↓w_pow10, ↓w_neg, ↓w_lt, ↓w_le, ↓w_gt, ↓w_ge, ↓w_ix0, ↓w_ix1, ↓w_ix2, ↓w_ix3, ↓w_eqI, ↓w_eqS, ↓w_eqT2, ↓w_abs, ↓w_lenT, ↓w_lenS, ↓w_max, ↓w_min, ↓w_intT, ↓w_intF, ↓w_isBool, ↓w_isTup, ↓w_tupT, ↓w_listT, ↓w_cutT, ↓brw_t, ↓brw_f, ↓brz_t, ↓brz_f, List.getElem?_cons_zero, List.getElem?_cons_succ, List.set_cons_zero, List.set_cons_succ, List.length_cons, List.length_nil, List.map_cons, List.map_nil, List.replicate, List.cons_append, List.nil_append, small, Nat.reduceAdd, Nat.reduceLeDiff, Nat.reduceEqDiff, Int.cast_ofNat_Int, Int.reduceBEq, BEq.rfl, ↓w_Yes, ↓w_bTru, ↓augF_ok, ↓z_Put, ↓putF_ok, ↓putG_ok, ↓w_isNn, ↓w_isNt, wipeF_nil, wipeF_cons, Int.reduceLE, Int.reduceLT, Int.reduceToNat, Int.reducePow, Int.reduceNeg, Int.reduceSub, Int.reduceAdd, Int.reduceMul, decide_true, decide_false, Bool.not_true, Bool.not_false, Bool.bne_false, Bool.bne_true, ↓w_aStar, ↓w_stT, ↓kSt_ok, ↓w_aDef, ↓kDf_ok, ↓w_Cnt, ↓w_Ext, ↓w_isBB, ↓w_isIB, ↓w_Enum, ↓w_enT]
    exact k _ ⟨rfl, fun i h' _ => srcT_get i h', fun h' _ => srcT_fin h'⟩
  | lst m =>
    rename_i e
    simp only [↓w_ok, ↓kB_ok, ↓kI_ok, ↓w_K, ↓w_V, ↓w_vR, ↓w_Op, ↓kO1_ok, ↓kO2_ok, ↓w_Un, ↓w_bOf, ↓w_isB, ↓kBl_ok, ↓kBl_exc, ↓kIf_ok, ↓kIf_exc, ↓w_okB, ↓w_okD, ↓w_bAnd, ↓w_bOr, ↓w_bNot, ↓kNot_ok, ↓kNot_exc, ↓w_eAnd, ↓w_eOr, ↓w_eNot, ↓kNotV_ok, ↓w_eIf, ↓w_aNil, ↓w_aCons, ↓kA1_ok, ↓kA2_ok, ↓kA1_exc, ↓kA2_exc, ↓w_Tup, ↓w_Lst, ↓w_mkT, ↓w_mkL, ↓w_Dct, ↓w_Dct2, ↓w_SoSe, ↓w_Call, ↓w_goS, ↓w_Bi, ↓w_Isi, ↓w_Cut, ↓kC1_ok, ↓kC2_ok, ↓kC3_ok, ↓w_oNone, ↓w_oSome, ↓w_vO, ↓w_Chain, ↓kCh1_ok, ↓kCh2_ok, ↓kCh3_ok, ↓w_chA, ↓w_App, ↓w_Ins, ↓w_insG, ↓z_nx, ↓z_End, ↓z_Seq, ↓kT_nx, ↓kT_rt, ↓kT_bk, ↓kT_ct, ↓kT_exc, ↓z_If, ↓kIfS_ok, ↓kIfS_exc, ↓z_Ret, ↓kRet_ok, ↓kRet_exc, ↓z_Expr, ↓kNx_ok, ↓kNx_exc, ↓z_Asg, ↓kAs_ok, ↓kAs_exc, ↓z_tgO, t_N, t_T, t_nil, t_cons, t_G, t_gnil, t_gcons, t_bind, ↓z_Par, ↓kPar_ok, ↓z_Raise, ↓z_Break, ↓z_Cont, ↓z_For, ↓kSrc_ok, ↓w_Range, ↓w_rgF, ↓w_SeqI, ↓w_sqT, ↓w_Zip, ↓w_zpT, ↓w_Comp, ↓kCo_ok, ↓w_of, ↓kF_rt, ↓kF_nx, ↓kF_exc, ↓w_add, ↓w_sub, ↓w_pow10, ↓w_neg, ↓w_lt, ↓w_le, ↓w_gt, ↓w_ge, ↓w_ix0, ↓w_ix1, ↓w_ix2, ↓w_ix3, ↓w_eqI, ↓w_eqS, ↓w_eqT2, ↓w_abs, ↓w_lenT, ↓w_lenS, ↓w_max, ↓w_min, ↓w_intT, ↓w_intF, ↓w_isBool, ↓w_isTup, ↓w_tupT, ↓w_listT, ↓w_cutT, ↓brw_t, ↓brw_f, ↓brz_t, ↓brz_f, List.getElem?_cons_zero, List.getElem?_cons_succ, List.set_cons_zero, List.set_cons_succ, List.length_cons, List.length_nil, List.map_cons, List.map_nil, List.replicate, List.cons_append, List.nil_append, small, Nat.reduceAdd, Nat.reduceLeDiff, Nat.reduceEqDiff, Int.cast_ofNat_Int, Int.reduceBEq, BEq.rfl, ↓w_Yes, ↓w_bTru, ↓augF_ok, ↓z_Put, ↓putF_ok, ↓putG_ok, ↓w_isNn, ↓w_isNt, wipeF_nil, wipeF_cons, Int.reduceLE, Int.reduceLT, Int.reduceToNat, Int.reducePow, Int.reduceNeg, Int.reduceSub, Int.reduceAdd, Int.reduceMul, decide_true, decide_false, Bool.not_true, Bool.not_false, Bool.bne_false, Bool.bne_true, ↓w_aStar, ↓w_stT, ↓kSt_ok, ↓w_aDef, ↓kDf_ok, ↓w_Cnt, ↓w_Ext, ↓w_isBB, ↓w_isIB, ↓w_Enum, ↓w_enT, w_sqL (g.lst e)]
    exact k _ ⟨rfl, fun i h' g => srcC_get e i h' g, fun h' g => srcC_fin e h' g⟩
theorem SeqD.gr {h h' : Hq} {d : D} {l : List D} (q : SeqD h d l) (g : Gr h h') : SeqD h' d l := by
  cases q with
  | tup => exact .tup _
  | lst m => rename_i e; exact .lst m _ (g.lst e)
end
end MI
end
section
set_option Elab.async false
set_option linter.all false
set_option autoImplicit false
set_option maxRecDepth 100000
set_option exponentiation.threshold 20000
set_option maxHeartbeats 4000000
open PySem L2
namespace MI
end MI
end
section
set_option Elab.async false
set_option linter.all false
set_option autoImplicit false
set_option maxRecDepth 100000
set_option exponentiation.threshold 20000
set_option maxHeartbeats 4000000
open PySem L2
namespace MI
section
variable {h : Hq} {Φ : Rs D → Prop} {s t : Sg} {d : D} {a : Sx} {fr : Fr} {Ψ : SR → Prop}
/-- within what is reckoned with -/
def SgOk (s : Sg) : Prop := mom s.lo.q ∧ mom s.hi.q
end
end MI
end
section
set_option Elab.async false
set_option linter.all false
set_option autoImplicit false
set_option maxRecDepth 100000
set_option exponentiation.threshold 20000
set_option maxHeartbeats 4000000
open PySem L2
namespace MI
section
variable {h : Hq} {p : Nat} {n many : Int} {Φ : Rs D → Prop}
/-- a comprehension over range(m) whose turns draw -/
theorem comp_draw {m j : Nat} {e : Sx} {fr : Fr} (J : Nat → List D → Hq → Prop) (hm : m ≤ 1000) (h0 : J 0 [] (h ++ [.lst []])) (hJ : ∀ i acc h', J i acc h' → acc.length = i ∧ lstAt h' h.length = some acc)
    (step : ∀ i acc h', i < m → J i acc h' → W (e (fr.set j (some (.int (i : Int)))) h') fun s => ∃ y h2, s = .ok y h2 ∧ lstAt h2 h.length = some acc ∧ J (i + 1) (acc ++ [y]) (h2.set h.length (.lst (acc ++ [y])))) (k : ∀ acc h', J m acc h' → Φ (.ok (.ref h.length) h')) :
    W (picks h.length (rgS m).get (rgS m).fin (tgN j) cYes e fr (rgS m).n 0 (h ++ [.lst []])) Φ := by
  have e0 : (rgS m).n = m := rfl
  rw [e0]
  refine picks_w (n := m) (I := J) (by omega) (fun i acc h' hI => ⟨by have := (hJ i acc h' hI).1; omega, (hJ i acc h' hI).2⟩) (fun i acc h' hi hI => ⟨.int (i : Int), _, by simp [rgS, hi], rfl, ?_⟩) (fun acc h' hI => ⟨by simp [rgS], k acc h' hI⟩) m 0 [] _ (by omega) h0
  exact ⟨true, h', rfl, fun _ => step i acc h' hi hI, fun z => (nomatch z)⟩
end
end MI
end
section
set_option Elab.async false
set_option linter.all false
set_option autoImplicit false
set_option maxRecDepth 100000
set_option exponentiation.threshold 20000
set_option maxHeartbeats 4000000
open PySem L2
namespace MI
theorem Gr.of {h h' : Hq} (l : h.length ≤ h'.length) (e : ∀ r, r < h.length → h'[r]? = h[r]?) : Gr h h' := by
  refine ⟨h'.drop h.length, ?_⟩
  apply List.ext_getElem?
  intro r
  by_cases hr : r < h.length
  · rw [List.getElem?_append_left hr, e r hr]
  · rw [List.getElem?_append_right (by omega), List.getElem?_drop]
    congr 1
    omega
theorem Gr.set {h h' : Hq} (g : Gr h h') {a : Nat} (ha : h.length ≤ a) (c : Cell) : Gr h (h'.set a c) := by
  refine Gr.of (by simpa using g.len) fun r hr => ?_
  rw [List.getElem?_set_ne (by omega)]
  obtain ⟨T, rfl⟩ := g
  rw [List.getElem?_append_left hr]
end MI
end
section
set_option Elab.async false
set_option linter.all false
set_option autoImplicit false
set_option maxRecDepth 100000
set_option exponentiation.threshold 20000
set_option maxHeartbeats 4000000
open PySem L2
namespace MI
end MI
end
section
set_option Elab.async false
set_option linter.all false
set_option autoImplicit false
set_option maxRecDepth 100000
set_option exponentiation.threshold 20000
set_option maxHeartbeats 4000000
open PySem L2
namespace MI
theorem med_lt {a b : Qp} (pa : 1 ≤ a.2) (pb : 1 ≤ b.2) (h : qlt a b) : qlt a (lowQ (a.1 + b.1) (a.2 + b.2)) ∧ qlt (lowQ (a.1 + b.1) (a.2 + b.2)) b := by
  have hg := gI_pos (o := a.1 + b.1) (u := a.2 + b.2) (by omega)
  have e1 := lowQ_x (x := a.1 + b.1) (y := a.2 + b.2)
  have e2 := lowQ_y (x := a.1 + b.1) (y := a.2 + b.2)
  unfold qlt at *
  generalize lowQ (a.1 + b.1) (a.2 + b.2) = q at *
  generalize gI (a.1 + b.1) (a.2 + b.2) = g at *
  constructor
  · refine Int.lt_of_mul_lt_mul_left (a := g) ?_ (by omega)
    have h1 : g * (a.1 * q.2) = a.1 * (a.2 + b.2) := by rw [← e2]; grind
    have h2 : g * (q.1 * a.2) = (a.1 + b.1) * a.2 := by rw [← e1]; grind
    rw [h1, h2]
    grind
  · refine Int.lt_of_mul_lt_mul_left (a := g) ?_ (by omega)
    have h1 : g * (q.1 * b.2) = (a.1 + b.1) * b.2 := by rw [← e1]; grind
    have h2 : g * (b.1 * q.2) = b.1 * (a.2 + b.2) := by rw [← e2]; grind
    rw [h1, h2]
    grind
theorem Ed.between {a e : Ed} (fa : Fq 3000 a.q) (fe : Fq 3000 e.q) (h : a.lt e) : ∃ m : Qf, a.lt m.post ∧ m.pre.lt e := by
  rcases h with h | ⟨h1, h2, h3⟩
  · have p := med_lt fa.pos fe.pos h
    have f : Fq 7000 (lowQ (a.q.1 + e.q.1) (a.q.2 + e.q.2)) := (lowQ_ok (by have := fa.pos; have := fe.pos; omega) (fa.b1.add fe.b1) (fa.b2.add fe.b2)).mono (by decide)
    exact ⟨⟨_, f⟩, .inl p.1, .inl p.2⟩
  · exact ⟨⟨a.q, a.ok⟩, .inr ⟨rfl, h2, rfl⟩, .inr ⟨h1, rfl, h3⟩⟩
theorem mem_iff (m : Qf) (s : Sg) : Sg.mem m s ↔ s.lo.lt m.post ∧ m.pre.lt s.hi := by
  unfold Sg.mem
  rw [m.adj s.lo, m.adj s.hi]
  exact ⟨fun h => ⟨h.1, Decidable.not_not.mp h.2⟩, fun h => ⟨h.1, fun k => k h.2⟩⟩
def Low (s : Sg) : Prop := Fq 3000 s.lo.q ∧ Fq 3000 s.hi.q
theorem early_low {a b : Ed} (fa : Fq 3000 a.q) (fb : Fq 3000 b.q) : Fq 3000 (earlyE a b).q := by
  unfold earlyE
  split
  · exact fb
  · exact fa
theorem first_le {f : Sg} {F : List Sg} (s : Sep (f :: F)) : ∀ g ∈ f :: F, ¬ g.lo.lt f.lo := by
  intro g hg
  rcases List.mem_cons.mp hg with rfl | hg
  · exact Ed.irr _
  · have := (List.pairwise_cons.mp s).1 g hg
    exact Ed.asy (Ed.trans f.live this)
/-- the first begins no earlier -/
theorem un_lo {f g : Sg} {F G : List Sg} (sG : Sep (g :: G)) (lf : Low f) (lg : Low g) (e : ∀ m, anyM m (f :: F) → anyM m (g :: G)) : ¬ f.lo.lt g.lo := by
  intro h
  obtain ⟨m, m1, m2⟩ := Ed.between lf.1 (early_low lf.2 lg.1) ((lt_early f.hi g.lo f.lo).mpr ⟨f.live, h⟩)
  obtain ⟨m3, m4⟩ := (lt_early f.hi g.lo m.pre).mp m2
  obtain ⟨s, hs, ms⟩ := e m ⟨f, by simp, (mem_iff m f).mpr ⟨m1, m3⟩⟩
  have := (m.adj s.lo).mp ((mem_iff m s).mp ms).1
  exact this (Ed.lt_le m4 (first_le sG s hs))
/-- nor ends earlier -/
theorem un_hi {f g : Sg} {F G : List Sg} (sF : Sep (f :: F)) (lF : ∀ s ∈ f :: F, Low s) (lg : Low g) (h0 : f.lo = g.lo) (e : ∀ m, anyM m (g :: G) → anyM m (f :: F)) : ¬ f.hi.lt g.hi := by
  intro h
  have lf := lF f (by simp)
  obtain ⟨x, fx, x1, x2, x3⟩ : ∃ x : Ed, Fq 3000 x.q ∧ f.hi.lt x ∧ (∀ c : Ed, c.lt x → c.lt g.hi) ∧ ∀ s ∈ F, ¬ s.lo.lt x := by
    cases F with
    | nil => exact ⟨g.hi, lg.2, h, fun _ k => k, fun s hs => (nomatch hs)⟩
    | cons f' F' =>
      have sp := (List.pairwise_cons.mp sF)
      refine ⟨earlyE g.hi f'.lo, early_low lg.2 (lF f' (by simp)).1, (lt_early _ _ _).mpr ⟨h, sp.1 f' (by simp)⟩, fun c k => ((lt_early _ _ _).mp k).1, fun s hs k => ?_⟩
      exact first_le sp.2 s hs ((lt_early _ _ _).mp k).2
  obtain ⟨m, m1, m2⟩ := Ed.between lf.2 fx x1
  have mg : Sg.mem m g := (mem_iff m g).mpr ⟨by rw [← h0]; exact Ed.trans f.live m1, x2 _ m2⟩
  obtain ⟨s, hs, ms⟩ := e m ⟨g, by simp, mg⟩
  obtain ⟨s1, s2⟩ := (mem_iff m s).mp ms
  rcases List.mem_cons.mp hs with rfl | hs
  · exact (m.adj s.hi).mp m1 s2
  · exact (m.adj s.lo).mp s1 (Ed.lt_le m2 (x3 s hs))
theorem sg_eq {f g : Sg} (h1 : f.lo = g.lo) (h2 : f.hi = g.hi) : f = g := by
  cases f; cases g
  dsimp only at h1 h2
  subst h1 h2
  rfl
theorem some_m {f : Sg} (lf : Low f) : ∃ m, Sg.mem m f := by
  obtain ⟨m, m1, m2⟩ := Ed.between lf.1 lf.2 f.live
  exact ⟨m, (mem_iff m f).mpr ⟨m1, m2⟩⟩
theorem tail_m {f : Sg} {F : List Sg} (s : Sep (f :: F)) (m : Qf) : anyM m F ↔ anyM m (f :: F) ∧ ¬ Sg.mem m f := by
  constructor
  · rintro ⟨g, hg, mg⟩
    refine ⟨⟨g, List.mem_cons_of_mem _ hg, mg⟩, fun mf => ?_⟩
    have h1 := (List.pairwise_cons.mp s).1 g hg
    have h2 := ((mem_iff m g).mp mg).1
    have h3 := ((mem_iff m f).mp mf).2
    exact (m.adj g.lo).mp h2 (Ed.trans h3 h1)
  · rintro ⟨⟨g, hg, mg⟩, nf⟩
    rcases List.mem_cons.mp hg with rfl | hg
    · exact absurd mg nf
    · exact ⟨g, hg, mg⟩
theorem un_eq : ∀ (F G : List Sg), Sep F → Sep G → (∀ s ∈ F, Low s) → (∀ s ∈ G, Low s) → (∀ m, anyM m F ↔ anyM m G) → F = G
  | [], [], _, _, _, _, _ => rfl
  | [], g :: G, _, _, _, lG, e => by
    obtain ⟨m, hm⟩ := some_m (lG g (by simp))
    exact absurd ((e m).mpr ⟨g, by simp, hm⟩) anyM_nil
  | f :: F, [], _, _, lF, _, e => by
    obtain ⟨m, hm⟩ := some_m (lF f (by simp))
    exact absurd ((e m).mp ⟨f, by simp, hm⟩) anyM_nil
  | f :: F, g :: G, sF, sG, lF, lG, e => by
    have lf := lF f (by simp)
    have lg := lG g (by simp)
    have h1 : f.lo = g.lo := Ed.eq_of (un_lo sG lf lg fun m => (e m).mp) (un_lo sF lg lf fun m => (e m).mpr)
    have h2 : f.hi = g.hi := Ed.eq_of (un_hi sF lF lg h1 fun m => (e m).mpr) (un_hi sG lG lf h1.symm fun m => (e m).mp)
    have h3 := sg_eq h1 h2
    subst h3
    have := un_eq F G (List.pairwise_cons.mp sF).2 (List.pairwise_cons.mp sG).2 (fun s hs => lF s (List.mem_cons_of_mem _ hs)) (fun s hs => lG s (List.mem_cons_of_mem _ hs)) fun m => by
      rw [tail_m sF m, tail_m sG m, e m]
    rw [this]
end MI
end
section
set_option Elab.async false
set_option linter.all false
set_option autoImplicit false
set_option maxRecDepth 100000
set_option exponentiation.threshold 20000
set_option maxHeartbeats 4000000
open PySem L2
namespace MI
abbrev Gw (s : Sg) : Prop := SgOk s ∧ Low s
end MI
end
section
set_option Elab.async false
set_option linter.all false
set_option autoImplicit false
set_option maxRecDepth 100000
set_option exponentiation.threshold 20000
set_option maxHeartbeats 4000000
open PySem L2
namespace MI
abbrev Pr := Sg × D
/-- pairs from an edge to an edge, the spell of each straight ahead of the next -/
def Run (a b : Ed) : List Pr → Prop
  | [] => a = b
  | p :: ps => p.1.lo = a ∧ Run p.1.hi b ps
theorem Run.app {a b c : Ed} : ∀ {ps qs : List Pr}, Run a b ps → Run b c qs → Run a c (ps ++ qs)
  | [], _, r, s => by cases r; exact s
  | p :: ps, _, r, s => ⟨r.1, Run.app r.2 s⟩
theorem Run.le {a b : Ed} : ∀ {ps : List Pr}, Run a b ps → ¬ b.lt a
  | [], r => by cases r; exact Ed.irr _
  | p :: ps, r => fun h => by
    have h1 := Run.le r.2
    have := p.1.live
    rw [r.1] at this
    exact h1 (Ed.trans h this)
theorem Run.ne {a b : Ed} {ps : List Pr} (r : Run a b ps) (h : a.lt b) : ps ≠ [] := fun e => by
  subst e; cases r; exact Ed.irr _ h
theorem Run.lo {a b : Ed} : ∀ {ps : List Pr}, Run a b ps → ∀ p ∈ ps, ¬ p.1.lo.lt a
  | [], _, p, h => nomatch h
  | q :: ps, r, p, h => by
    rcases List.mem_cons.mp h with rfl | h
    · rw [r.1]; exact Ed.irr _
    · have h1 := Run.lo r.2 p h
      have := q.1.live
      rw [r.1] at this
      exact fun z => h1 (Ed.trans z this)
theorem Run.hi {a b : Ed} : ∀ {ps : List Pr}, Run a b ps → ∀ p ∈ ps, ¬ b.lt p.1.hi
  | [], _, p, h => nomatch h
  | q :: ps, r, p, h => by
    rcases List.mem_cons.mp h with rfl | h
    · exact Run.le r.2
    · exact Run.hi r.2 p h
section
variable {κ : D → Nat} {m : Qf} {c : Nat}
/-- one answer at a moment -/
theorem Run.fn {a b : Ed} : ∀ {ps : List Pr}, Run a b ps → ∀ {p q : Pr}, p ∈ ps → q ∈ ps → Sg.mem m p.1 → Sg.mem m q.1 → p = q
  | [], _, p, q, hp, _, _, _ => nomatch hp
  | x :: ps, r, p, q, hp, hq, mp, mq => by
    have key : ∀ z ∈ ps, Sg.mem m x.1 → Sg.mem m z.1 → False := fun z hz h1 h2 => by
      have a1 := ((mem_iff m x.1).mp h1).2
      have a2 := ((mem_iff m z.1).mp h2).1
      have a3 := Run.lo r.2 z hz
      exact (m.adj _).mp a2 (Ed.lt_le a1 a3)
    rcases List.mem_cons.mp hp with rfl | hp'
    · rcases List.mem_cons.mp hq with rfl | hq'
      · rfl
      · exact (key q hq' mp mq).elim
    · rcases List.mem_cons.mp hq with rfl | hq'
      · exact (key p hp' mq mp).elim
      · exact Run.fn r.2 hp' hq' mp mq
end
/-- no two alike beside one another -/
def Canon (κ : D → Nat) (ps : List Pr) : Prop := ∀ (i : Nat) (p q : Pr), ps[i]? = some p → ps[i + 1]? = some q → κ p.2 ≠ κ q.2
theorem Canon.tail {κ : D → Nat} {p : Pr} {ps : List Pr} (k : Canon κ (p :: ps)) : Canon κ ps := fun i x y h1 h2 => k (i + 1) x y (by simpa using h1) (by simpa using h2)
end MI
end
section
set_option Elab.async false
set_option linter.all false
set_option autoImplicit false
set_option maxRecDepth 100000
set_option exponentiation.threshold 20000
set_option maxHeartbeats 4000000
open PySem L2
namespace MI
section
variable {h : Hq} {Φ : Rs D → Prop} {d : D}
theorem Ed.ext' {a b : Ed} (h1 : a.q = b.q) (h2 : a.s = b.s) : a = b := by
  cases a; cases b
  simp only at h1 h2
  subst h1 h2; rfl
instance : DecidableEq Ed := fun a b => if h : a.q = b.q ∧ a.s = b.s then isTrue (Ed.ext' h.1 h.2) else isFalse fun e => h (by subst e; exact ⟨rfl, rfl⟩)
/-- what answers are: known ones, == by their class -/
structure AnsOk (h : Hq) (κ : D → Nat) (A : D → Prop) : Prop where
  eq : ∀ x y, A x → A y → ∀ h', Gr h h' → ∀ (Φ : Rs D → Prop), W (dEqs false x y h') Φ = Φ (.ok (.bl (decide (κ x = κ y))) h')
theorem AnsOk.gr {κ : D → Nat} {A : D → Prop} {h h' : Hq} (a : AnsOk h κ A) (g : Gr h h') : AnsOk h' κ A := ⟨fun x y ax ay h2 g2 => a.eq x y ax ay h2 (g.trans g2)⟩
variable {κ : D → Nat} {A : D → Prop}
end
end MI
end
section
set_option Elab.async false
set_option linter.all false
set_option autoImplicit false
set_option maxRecDepth 100000
set_option exponentiation.threshold 20000
set_option maxHeartbeats 4000000
open PySem L2
namespace MI
end MI
end
section
set_option Elab.async false
set_option linter.all false
set_option autoImplicit false
set_option maxRecDepth 100000
set_option exponentiation.threshold 20000
set_option maxHeartbeats 4000000
open PySem L2
namespace MI
end MI
end
section
set_option Elab.async false
set_option linter.all false
set_option autoImplicit false
set_option maxRecDepth 100000
set_option exponentiation.threshold 20000
set_option maxHeartbeats 4000000
open PySem L2
namespace MI
structure IsSet (F : List Sg) (w : Qf → Prop) : Prop where
  sep : Sep F
  ok : ∀ s ∈ F, Gw s
  mem : ∀ m, anyM m F ↔ w m
theorem IsSet.eq {F G : List Sg} {v w : Qf → Prop} (a : IsSet F v) (b : IsSet G w) (e : ∀ m, v m ↔ w m) : F = G :=
  un_eq F G a.sep b.sep (fun s hs => (a.ok s hs).2) (fun s hs => (b.ok s hs).2) fun m => (a.mem m).trans ((e m).trans (b.mem m).symm)
theorem IsSet.nil {w : Qf → Prop} (h : ∀ m, ¬ w m) : IsSet [] w := ⟨List.Pairwise.nil, fun s hs => (nomatch hs), fun m => ⟨fun z => absurd z anyM_nil, fun z => absurd z (h m)⟩⟩
end MI
end
section
set_option Elab.async false
set_option linter.all false
set_option autoImplicit false
set_option maxRecDepth 100000
set_option exponentiation.threshold 20000
set_option maxHeartbeats 4000000
open PySem L2
namespace MI
section
variable {κ : D → Nat}
theorem Canon.cons {p : Pr} {ps : List Pr} (k : Canon κ ps) (h : ∀ q, ps[0]? = some q → κ p.2 ≠ κ q.2) : Canon κ (p :: ps) := by
  intro i x y h1 h2
  cases i with
  | zero =>
    simp at h1
    subst h1
    exact h y (by simpa using h2)
  | succ i => exact k i x y (by simpa using h1) (by simpa using h2)
end
structure AnsPy (h : Hq) (κ : D → Nat) (A : D → Prop) (π : D → PyData) : Prop where
  py : ∀ x, A x → ∀ h', Gr h h' → ∀ n, toPy h' (n + 20) x = some (π x)
  lay : ∀ x, A x → (π x).canLay0 = true
  dep : ∀ x, A x → (π x).depth ≤ 20
  eqv : ∀ x y, A x → A y → PyData.eqv (π x) (π y) = decide (κ x = κ y)
theorem AnsPy.gr {κ : D → Nat} {A : D → Prop} {π : D → PyData} {h h' : Hq} (a : AnsPy h κ A π) (g : Gr h h') : AnsPy h' κ A π := ⟨fun x ax h2 g2 n => a.py x ax h2 (g.trans g2) n, a.lay, a.dep, a.eqv⟩
end MI
end
section
set_option Elab.async false
set_option linter.all false
set_option autoImplicit false
set_option maxRecDepth 100000
set_option exponentiation.threshold 20000
set_option maxHeartbeats 4000000
open PySem L2
namespace MI
abbrev sA : D := .str "a"
abbrev sB : D := .str "b"
def plains : List D := [.int 0, .int 2, .tup [], .tup [sA], .tup [sA, sB], .tup [.tup [sA, sB]], sA, .non, .bl false, .bl true, .int 1, .tup [.int 0], .tup [.bl false]]
def dAB2 : List (L2.Key × D) := [(.inr "a", .int 2), (.inr "b", .int 0)]
def dBA2 : List (L2.Key × D) := [(.inr "b", .int 0), (.inr "a", .int 2)]
inductive Rpl (h : Hq) : D → Prop
  | pl {d : D} : d ∈ plains → Rpl h d
  | lst {m : Nat} : h[m]? = some (.lst [.int 2]) → Rpl h (.ref m)
  | ab {m : Nat} : h[m]? = some (.dct dAB2) → Rpl h (.ref m)
  | ba {m : Nat} : h[m]? = some (.dct dBA2) → Rpl h (.ref m)
section
variable {h : Hq}
theorem Rpl.gr {d : D} {h h' : Hq} (r : Rpl h d) (g : Gr h h') : Rpl h' d := by
  obtain ⟨t, rfl⟩ := g
  have key : ∀ {m : Nat} {c : Cell}, h[m]? = some c → (h ++ t)[m]? = some c := fun e => by
    rw [List.getElem?_append_left (List.getElem?_eq_some_iff.mp e).1]; exact e
  cases r with
  | pl hd => exact .pl hd
  | lst e => exact .lst (key e)
  | ab e => exact .ab (key e)
  | ba e => exact .ba (key e)
end
end MI
end
section
set_option Elab.async false
set_option linter.all false
set_option autoImplicit false
set_option maxRecDepth 100000
set_option exponentiation.threshold 20000
set_option maxHeartbeats 4000000
open PySem L2
namespace MI
end MI
end
section
set_option Elab.async false
set_option linter.all false
set_option autoImplicit false
set_option maxRecDepth 100000
set_option exponentiation.threshold 20000
set_option maxHeartbeats 4000000
open PySem L2
namespace MI
def isRp (c : Cell) : Prop := c = .lst [.int 2] ∨ c = .dct dAB2 ∨ c = .dct dBA2
def Kp (h h' : Hq) : Prop := ∀ (m : Nat) (c : Cell), isRp c → h[m]? = some c → h'[m]? = some c
theorem Kp.refl (h : Hq) : Kp h h := fun _ _ _ e => e
theorem Kp.trans {h h1 h2 : Hq} (a : Kp h h1) (b : Kp h1 h2) : Kp h h2 := fun m c r e => b m c r (a m c r e)
theorem Kp.gr {h h' : Hq} (g : Gr h h') : Kp h h' := fun m c _ e => by
  obtain ⟨t, rfl⟩ := g
  rw [List.getElem?_append_left (List.getElem?_eq_some_iff.mp e).1]; exact e
theorem Kp.step {h h' : Hq} {p : Nat} {n : Int} (P : PotAt h p n) (S : Step p h h') : Kp h h' := fun m c r e => by
  have hm : m ≠ p := fun z => by
    subst z
    obtain ⟨x, y, z, e1, _⟩ := P.ex
    have e2 := lstAt_some e1
    rw [e] at e2
    cases e2
    rcases r with r | r | r <;> cases r
  rw [S.old m hm (List.getElem?_eq_some_iff.mp e).1]; exact e
theorem Kp.set {h : Hq} {m : Nat} {l : List D} (e : lstAt h m = some l) (hl : l ≠ [.int 2]) (c : Cell) : Kp h (h.set m c) := fun k d r ek => by
  have hm : m ≠ k := fun z => by
    subst z
    rw [lstAt_some e] at ek
    cases ek
    rcases r with r | r | r
    · cases r; exact hl rfl
    · cases r
    · cases r
  rw [List.getElem?_set_ne hm]; exact ek
theorem Rpl.kp {d : D} {h h' : Hq} (r : Rpl h d) (g : Kp h h') : Rpl h' d := by
  cases r with
  | pl hd => exact .pl hd
  | lst e => exact .lst (g _ _ (.inl rfl) e)
  | ab e => exact .ab (g _ _ (.inr (.inl rfl)) e)
  | ba e => exact .ba (g _ _ (.inr (.inr rfl)) e)
def Ed15 (e : Ed) : Prop := Fq 150 e.q ∧ mom e.q
structure Rw (h : Hq) (a b : Ed) (ps : List Pr) : Prop where
  run : Run a b ps
  ed : ∀ p ∈ ps, Ed15 p.1.lo ∧ Ed15 p.1.hi
  an : ∀ p ∈ ps, Rpl h p.2
theorem Rw.kp {h h' : Hq} {a b : Ed} {ps : List Pr} (r : Rw h a b ps) (g : Kp h h') : Rw h' a b ps := ⟨r.run, r.ed, fun p hp => (r.an p hp).kp g⟩
end MI
end
section
set_option Elab.async false
set_option linter.all false
set_option autoImplicit false
set_option maxRecDepth 100000
set_option exponentiation.threshold 20000
set_option maxHeartbeats 4000000
open PySem L2
namespace MI
end MI
end
section
set_option Elab.async false
set_option linter.all false
set_option autoImplicit false
set_option maxRecDepth 100000
set_option exponentiation.threshold 20000
set_option maxHeartbeats 4000000
open PySem L2
namespace MI
section
variable {h : Hq} {Φ : Rs D → Prop} {a b : Qp} {B C : Nat}
theorem lowp_w {x y : Int} (hy : 0 < y) (b : Bd B y) (hB : B ≤ 8000) : W (S_lowest [.int x, .int y] h) Φ = Φ (.ok (dq (lowQ x y)) h) := by
  unfold W; rw [lowp_ok hy b hB]
variable {p : Nat} {n : Int}
end
end MI
end
section
set_option Elab.async false
set_option linter.all false
set_option autoImplicit false
set_option maxRecDepth 100000
set_option exponentiation.threshold 20000
set_option maxHeartbeats 4000000
open PySem L2
namespace MI
theorem lv_at {x y : Int} {q z : Qp} (hz : lv x y z = 0) : z.2 * lv x y q = y * (q.1 * z.2 - z.1 * q.2) := by
  unfold lv at *
  have : x * z.2 = - (y * z.1) := by omega
  grind
theorem lv_up {x y : Int} {q z : Qp} (hy : 0 < y) (pz : 1 ≤ z.2) (hz : lv x y z = 0) : (lv x y q < 0 ↔ qlt q z) ∧ (0 < lv x y q ↔ qlt z q) := by
  have e := lv_at (q := q) hz
  unfold qlt
  constructor
  · constructor
    · intro h
      have h1 : z.2 * lv x y q < 0 := Int.mul_neg_of_pos_of_neg (by omega) h
      rw [e] at h1
      have : q.1 * z.2 - z.1 * q.2 < 0 := by
        refine Int.not_le.mp fun hn => ?_
        have := Int.mul_nonneg (show 0 ≤ y by omega) hn
        omega
      omega
    · intro h
      have h1 : y * (q.1 * z.2 - z.1 * q.2) < 0 := Int.mul_neg_of_pos_of_neg hy (by omega)
      rw [← e] at h1
      refine Int.not_le.mp fun hn => ?_
      have := Int.mul_nonneg (show 0 ≤ z.2 by omega) hn
      omega
  · constructor
    · intro h
      have h1 : 0 < z.2 * lv x y q := Int.mul_pos (by omega) h
      rw [e] at h1
      have := Int.pos_of_mul_pos_right h1 hy
      omega
    · intro h
      have h1 : 0 < y * (q.1 * z.2 - z.1 * q.2) := Int.mul_pos hy (by omega)
      rw [← e] at h1
      exact Int.pos_of_mul_pos_right h1 (by omega)
theorem lv_neg {x y : Int} {q : Qp} : lv (-x) (-y) q = - lv x y q := by unfold lv; grind
theorem lv_dn {x y : Int} {q z : Qp} (hy : y < 0) (pz : 1 ≤ z.2) (hz : lv x y z = 0) : (lv x y q < 0 ↔ qlt z q) ∧ (0 < lv x y q ↔ qlt q z) := by
  have h0 : lv (-x) (-y) z = 0 := by rw [lv_neg, hz]; rfl
  have := lv_up (q := q) (show 0 < -y by omega) pz h0
  rw [lv_neg] at this
  exact ⟨⟨fun h => this.2.mp (by omega), fun h => by have := this.2.mpr h; omega⟩, ⟨fun h => this.1.mp (by omega), fun h => by have := this.1.mpr h; omega⟩⟩
inductive Half where
  | up (e : Ed)
  | dn (e : Ed)
  | all
  | non
def Half.holds : Half → Qf → Prop
  | .up e, m => e.lt m.post
  | .dn e, m => m.pre.lt e
  | .all, _ => True
  | .non, _ => False
def lft : Half → Sg → Option Sg
  | .up e, s => if h : (lateE s.lo e).lt s.hi then some ⟨lateE s.lo e, s.hi, h⟩ else none
  | .dn e, s => if h : s.lo.lt (earlyE s.hi e) then some ⟨s.lo, earlyE s.hi e, h⟩ else none
  | .all, s => some s
  | .non, _ => none
theorem lft_up {e : Ed} {s : Sg} : lft (.up e) s = if h : (lateE s.lo e).lt s.hi then some ⟨lateE s.lo e, s.hi, h⟩ else none := rfl
theorem lft_dn {e : Ed} {s : Sg} : lft (.dn e) s = if h : s.lo.lt (earlyE s.hi e) then some ⟨s.lo, earlyE s.hi e, h⟩ else none := rfl
theorem holds_up {e : Ed} {m : Qf} : Half.holds (.up e) m = e.lt m.post := rfl
theorem holds_dn {e : Ed} {m : Qf} : Half.holds (.dn e) m = m.pre.lt e := rfl
theorem lft_mem {k : Half} {s : Sg} {m : Qf} : (∃ t, lft k s = some t ∧ Sg.mem m t) ↔ Sg.mem m s ∧ k.holds m := by
  cases k with
  | all => exact ⟨fun ⟨t, e, h⟩ => by cases e; exact ⟨h, trivial⟩, fun h => ⟨s, rfl, h.1⟩⟩
  | non => exact ⟨fun ⟨t, e, h⟩ => (nomatch e), fun h => h.2.elim⟩
  | up e =>
    rw [lft_up, holds_up]
    constructor
    · rintro ⟨t, et, h⟩
      split at et
      · cases et
        obtain ⟨h1, h2⟩ := (mem_iff m _).mp h
        obtain ⟨h3, h4⟩ := (late_le _ _ _).mp h1
        exact ⟨(mem_iff m s).mpr ⟨h3, h2⟩, h4⟩
      · cases et
    · rintro ⟨h, h4⟩
      obtain ⟨h1, h2⟩ := (mem_iff m s).mp h
      have h5 := (late_le s.lo e m.post).mpr ⟨h1, h4⟩
      have lv : (lateE s.lo e).lt s.hi := Ed.le_lt ((m.adj _).mp h5) h2
      exact ⟨_, dif_pos lv, (mem_iff m _).mpr ⟨h5, h2⟩⟩
  | dn e =>
    rw [lft_dn, holds_dn]
    constructor
    · rintro ⟨t, et, h⟩
      split at et
      · cases et
        obtain ⟨h1, h2⟩ := (mem_iff m _).mp h
        obtain ⟨h3, h4⟩ := (lt_early _ _ _).mp h2
        exact ⟨(mem_iff m s).mpr ⟨h1, h3⟩, h4⟩
      · cases et
    · rintro ⟨h, h4⟩
      obtain ⟨h1, h2⟩ := (mem_iff m s).mp h
      have h5 := (lt_early s.hi e m.pre).mpr ⟨h2, h4⟩
      have lv : s.lo.lt (earlyE s.hi e) := Ed.le_lt ((m.adj _).mp h1) h5
      exact ⟨_, dif_pos lv, (mem_iff m _).mpr ⟨h1, h5⟩⟩
/-- its edges -/
theorem lft_ed {P : Ed → Prop} {k : Half} {s t : Sg} (e : lft k s = some t) (h1 : P s.lo) (h2 : P s.hi) (h3 : ∀ z, k = .up z ∨ k = .dn z → P z) : P t.lo ∧ P t.hi := by
  cases k with
  | all => cases e; exact ⟨h1, h2⟩
  | non => cases e
  | up z =>
    rw [lft_up] at e
    split at e
    · cases e
      refine ⟨?_, h2⟩
      show P (lateE s.lo z)
      unfold lateE; split
      · exact h3 z (.inl rfl)
      · exact h1
    · cases e
  | dn z =>
    rw [lft_dn] at e
    split at e
    · cases e
      refine ⟨h1, ?_⟩
      show P (earlyE s.hi z)
      unfold earlyE; split
      · exact h3 z (.inr rfl)
      · exact h2
    · cases e
theorem lft_in {k : Half} {s t : Sg} (e : lft k s = some t) : ¬ t.lo.lt s.lo ∧ ¬ s.hi.lt t.hi := by
  cases k with
  | all => cases e; exact ⟨Ed.irr _, Ed.irr _⟩
  | non => cases e
  | up z =>
    rw [lft_up] at e
    split at e
    · cases e
      refine ⟨?_, Ed.irr _⟩
      show ¬ (lateE s.lo z).lt s.lo
      unfold lateE; split
      · rename_i h; exact Ed.asy h
      · exact Ed.irr _
    · cases e
  | dn z =>
    rw [lft_dn] at e
    split at e
    · cases e
      refine ⟨Ed.irr _, ?_⟩
      show ¬ s.hi.lt (earlyE s.hi z)
      unfold earlyE; split
      · rename_i h; exact Ed.asy h
      · exact Ed.irr _
    · cases e
/-- a condition by its signs -/
inductive IsHalf (x y : Int) (ab : Bool) : Half → Prop
  | up (z : Ed) : 0 < y → z.q = lowQ (-x) y → z.s = ab → IsHalf x y ab (.up z)
  | dn (z : Ed) : y < 0 → z.q = lowQ x (-y) → z.s = (!ab) → IsHalf x y ab (.dn z)
  | all : y = 0 → 0 < x ∨ (x = 0 ∧ ab = false) → IsHalf x y ab .all
  | non : y = 0 → ¬ (0 < x ∨ (x = 0 ∧ ab = false)) → IsHalf x y ab .non
section
variable {x y : Int} {ab : Bool} {k : Half}
theorem up_zero {z : Qp} (hy : 0 < y) (e : z = lowQ (-x) y) : lv x y z = 0 := by
  have c := lowQ_cross (x := -x) hy
  rw [e]
  unfold lv
  generalize lowQ (-x) y = q at *
  grind
theorem dn_zero {z : Qp} (hy : y < 0) (e : z = lowQ x (-y)) : lv x y z = 0 := by
  have c := lowQ_cross (x := x) (show 0 < -y by omega)
  rw [e]
  unfold lv
  generalize lowQ x (-y) = q at *
  grind
theorem lv_eq0 {q z : Qp} {A B : Nat} (fq : Fq A q) (fz : Fq B z) (hy : y ≠ 0) (hz : lv x y z = 0) : lv x y q = 0 ↔ q = z := by
  constructor
  · intro h
    have pz := fz.pos
    rcases Int.lt_or_gt_of_ne hy with hy | hy
    · have := lv_dn (q := q) hy pz hz
      exact fq.ext fz (fun z => by have := this.2.mpr z; omega) fun z => by have := this.1.mpr z; omega
    · have := lv_up (q := q) hy pz hz
      exact fq.ext fz (fun z => by have := this.1.mpr z; omega) fun z => by have := this.2.mpr z; omega
  · intro h; rw [h]; exact hz
theorem IsHalf.holds (i : IsHalf x y ab k) (m : Qf) : hold x y ab m.q = true ↔ k.holds m := by
  unfold hold
  cases i with
  | up z hy e s =>
    have hz := up_zero hy e
    have u := lv_up (q := m.q) hy z.pos hz
    have v := lv_eq0 m.ok z.ok (by omega) hz
    show _ ↔ qlt z.q m.q ∨ (z.q = m.q ∧ z.s = false ∧ true = true)
    rw [Bool.or_eq_true, Bool.and_eq_true, decide_eq_true_eq, decide_eq_true_eq, u.2, v, s]
    cases ab <;> simp [eq_comm]
  | dn z hy e s =>
    have hz := dn_zero hy e
    have u := lv_dn (q := m.q) hy z.pos hz
    have v := lv_eq0 m.ok z.ok (by omega) hz
    show _ ↔ qlt m.q z.q ∨ (m.q = z.q ∧ false = false ∧ z.s = true)
    rw [Bool.or_eq_true, Bool.and_eq_true, decide_eq_true_eq, decide_eq_true_eq, u.2, v, s]
    cases ab <;> simp
  | all hy h =>
    subst hy
    have pm := m.ok.pos
    have e : lv x 0 m.q = x * m.q.2 := by unfold lv; omega
    rw [e]
    simp only [Half.holds, iff_true]
    rcases h with h | ⟨h, h2⟩
    · have := Int.mul_pos h (show 0 < m.q.2 by omega)
      simp [this]
    · subst h h2; simp
  | non hy h =>
    subst hy
    have pm := m.ok.pos
    have e : lv x 0 m.q = x * m.q.2 := by unfold lv; omega
    rw [e]
    simp only [Half.holds, iff_false]
    intro hh
    apply h
    rw [Bool.or_eq_true, Bool.and_eq_true, decide_eq_true_eq, decide_eq_true_eq] at hh
    rcases hh with hh | ⟨hh, h2⟩
    · exact .inl (Int.pos_of_mul_pos_left hh (by omega))
    · rcases Int.mul_eq_zero.mp hh with h3 | h3
      · exact .inr ⟨h3, by simpa using h2⟩
      · omega
end
end MI
end
section
set_option Elab.async false
set_option linter.all false
set_option autoImplicit false
set_option maxRecDepth 100000
set_option exponentiation.threshold 20000
set_option maxHeartbeats 4000000
open PySem L2
namespace MI
abbrev Cq := Cn × Half
structure CqOk (p : Cq) : Prop where
  ln : LnOk 150 p.1.1
  hf : IsHalf p.1.1.x p.1.1.y p.1.2 p.2
  rt : ∀ z, (p.2 = .up z ∨ p.2 = .dn z) → rootOf p.1.1 = some z.q ∧ Fq 301 z.q
end MI
end
section
set_option Elab.async false
set_option linter.all false
set_option autoImplicit false
set_option maxRecDepth 100000
set_option exponentiation.threshold 20000
set_option maxHeartbeats 4000000
open PySem L2
namespace MI
/-- an edge that is reckoned with -/
def E301 (e : Ed) : Prop := Fq 301 e.q
structure PI (ps : List Cq) (s : Sg) (i : Nat) (front back : List Pr) (rest : Sg) : Prop where
  fr : Run s.lo rest.lo front
  bk : Run rest.hi s.hi back
  fails : ∀ p ∈ front ++ back, ∃ (n : Nat) (c : Cq), p.2 = .int (n : Int) ∧ ps[n]? = some c ∧ ∀ m, Sg.mem m p.1 → ¬ c.2.holds m
  holds : ∀ c ∈ ps.take i, ∀ m, Sg.mem m rest → c.2.holds m
  ed : ∀ p ∈ front ++ back, E301 p.1.lo ∧ E301 p.1.hi
  er : E301 rest.lo ∧ E301 rest.hi
  lf : front.length ≤ i
  lb : back.length ≤ i
structure PartsOk (ps : List Cq) (s : Sg) (L : List Pr) : Prop where
  run : Run s.lo s.hi L
  each : ∀ p ∈ L, (p.2 = .non ∧ ∀ c ∈ ps, ∀ m, Sg.mem m p.1 → c.2.holds m) ∨ ∃ (n : Nat) (c : Cq), p.2 = .int (n : Int) ∧ ps[n]? = some c ∧ ∀ m, Sg.mem m p.1 → ¬ c.2.holds m
  ed : ∀ p ∈ L, E301 p.1.lo ∧ E301 p.1.hi
  len : L.length ≤ 2 * ps.length + 1
theorem PI.stop {ps : List Cq} {s rest : Sg} {i : Nat} {front back : List Pr} {c : Cq} (q : PI ps s i front back rest) (hc : ps[i]? = some c) (e : lft c.2 rest = none) : PartsOk ps s (front ++ ((rest, .int (i : Int)) :: back)) where
  run := q.fr.app ⟨rfl, q.bk⟩
  each p hp := by
    have no : ∀ m, Sg.mem m rest → ¬ c.2.holds m := fun m hm hh => by
      obtain ⟨t, et, _⟩ := lft_mem.mpr ⟨hm, hh⟩
      rw [e] at et; cases et
    rcases List.mem_append.mp hp with hp | hp
    · exact .inr (q.fails p (List.mem_append_left _ hp))
    · rcases List.mem_cons.mp hp with rfl | hp
      · exact .inr ⟨i, c, rfl, hc, no⟩
      · exact .inr (q.fails p (List.mem_append_right _ hp))
  ed p hp := by
    rcases List.mem_append.mp hp with hp | hp
    · exact q.ed p (List.mem_append_left _ hp)
    · rcases List.mem_cons.mp hp with rfl | hp
      · exact q.er
      · exact q.ed p (List.mem_append_right _ hp)
  len := by
    have h1 := q.lf
    have h2 := q.lb
    have h3 : i < ps.length := (List.getElem?_eq_some_iff.mp hc).1
    simp only [List.length_append, List.length_cons]
    omega
theorem PI.done {ps : List Cq} {s rest : Sg} {front back : List Pr} (q : PI ps s ps.length front back rest) : PartsOk ps s (front ++ ((rest, .non) :: back)) where
  run := q.fr.app ⟨rfl, q.bk⟩
  each p hp := by
    have hh := q.holds
    rw [List.take_of_length_le (Nat.le_refl _)] at hh
    rcases List.mem_append.mp hp with hp | hp
    · exact .inr (q.fails p (List.mem_append_left _ hp))
    · rcases List.mem_cons.mp hp with rfl | hp
      · exact .inl ⟨rfl, hh⟩
      · exact .inr (q.fails p (List.mem_append_right _ hp))
  ed p hp := by
    rcases List.mem_append.mp hp with hp | hp
    · exact q.ed p (List.mem_append_left _ hp)
    · rcases List.mem_cons.mp hp with rfl | hp
      · exact q.er
      · exact q.ed p (List.mem_append_right _ hp)
  len := by
    have h1 := q.lf
    have h2 := q.lb
    simp only [List.length_append, List.length_cons]
    omega
/-- what goes at the one end, at the other -/
def frontPart (rest u : Sg) (i : Nat) : List Pr := if h : rest.lo.lt u.lo then [(⟨rest.lo, u.lo, h⟩, .int (i : Int))] else []
def backPart (rest u : Sg) (i : Nat) : List Pr := if h : u.hi.lt rest.hi then [(⟨u.hi, rest.hi, h⟩, .int (i : Int))] else []
theorem PI.step {ps : List Cq} {s rest u : Sg} {i : Nat} {front back : List Pr} {c : Cq} (q : PI ps s i front back rest) (oc : CqOk c) (hc : ps[i]? = some c) (e : lft c.2 rest = some u) :
    PI ps s (i + 1) (front ++ frontPart rest u i) (backPart rest u i ++ back) u := by
  obtain ⟨n1, n2⟩ := lft_in e
  have eu : E301 u.lo ∧ E301 u.hi := lft_ed (P := E301) e q.er.1 q.er.2 fun z hz => (oc.rt z hz).2
  have rf : Run rest.lo u.lo (frontPart rest u i) := by
    unfold frontPart
    split
    · exact ⟨rfl, rfl⟩
    · rename_i h; exact Ed.eq_of h n1
  have rb : Run u.hi rest.hi (backPart rest u i) := by
    unfold backPart
    split
    · exact ⟨rfl, rfl⟩
    · rename_i h; exact Ed.eq_of h n2
  have out : ∀ m, Sg.mem m rest → ¬ Sg.mem m u → ¬ c.2.holds m := fun m hm hu hh => by
    obtain ⟨t, et, mt⟩ := lft_mem.mpr ⟨hm, hh⟩
    rw [e] at et; cases et
    exact hu mt
  have ff : ∀ p ∈ frontPart rest u i, (∃ (n : Nat) (c : Cq), p.2 = .int (n : Int) ∧ ps[n]? = some c ∧ ∀ m, Sg.mem m p.1 → ¬ c.2.holds m) ∧ E301 p.1.lo ∧ E301 p.1.hi := by
    intro p hp
    unfold frontPart at hp
    split at hp
    · rename_i h
      rw [List.mem_singleton.mp hp]
      refine ⟨⟨i, c, rfl, hc, fun m hm => ?_⟩, q.er.1, eu.1⟩
      obtain ⟨a1, a2⟩ := (mem_iff m _).mp hm
      refine out m ((mem_iff m rest).mpr ⟨a1, Ed.lt_le (Ed.trans a2 u.live) n2⟩) fun hu => ?_
      exact (m.adj u.lo).mp ((mem_iff m u).mp hu).1 a2
    · cases hp
  have bb : ∀ p ∈ backPart rest u i, (∃ (n : Nat) (c : Cq), p.2 = .int (n : Int) ∧ ps[n]? = some c ∧ ∀ m, Sg.mem m p.1 → ¬ c.2.holds m) ∧ E301 p.1.lo ∧ E301 p.1.hi := by
    intro p hp
    unfold backPart at hp
    split at hp
    · rename_i h
      rw [List.mem_singleton.mp hp]
      refine ⟨⟨i, c, rfl, hc, fun m hm => ?_⟩, eu.2, q.er.2⟩
      obtain ⟨a1, a2⟩ := (mem_iff m _).mp hm
      refine out m ((mem_iff m rest).mpr ⟨Ed.le_lt n1 (Ed.trans u.live a1), a2⟩) fun hu => ?_
      exact (m.adj u.hi).mp a1 ((mem_iff m u).mp hu).2
    · cases hp
  have lf1 : (frontPart rest u i).length ≤ 1 := by unfold frontPart; split <;> simp
  have lb1 : (backPart rest u i).length ≤ 1 := by unfold backPart; split <;> simp
  refine ⟨q.fr.app rf, rb.app q.bk, fun p hp => ?_, fun d hd m hm => ?_, fun p hp => ?_, eu, by have := q.lf; simp only [List.length_append]; omega, by have := q.lb; simp only [List.length_append]; omega⟩
  · rcases List.mem_append.mp hp with hp | hp
    · rcases List.mem_append.mp hp with hp | hp
      · exact q.fails p (List.mem_append_left _ hp)
      · exact (ff p hp).1
    · rcases List.mem_append.mp hp with hp | hp
      · exact (bb p hp).1
      · exact q.fails p (List.mem_append_right _ hp)
  · obtain ⟨m1, m2⟩ := lft_mem.mp ⟨u, e, hm⟩
    rw [List.take_succ, hc] at hd
    rcases List.mem_append.mp hd with hd | hd
    · exact q.holds d hd m m1
    · simp at hd
      rw [hd]; exact m2
  · rcases List.mem_append.mp hp with hp | hp
    · rcases List.mem_append.mp hp with hp | hp
      · exact q.ed p (List.mem_append_left _ hp)
      · exact (ff p hp).2
    · rcases List.mem_append.mp hp with hp | hp
      · exact (bb p hp).2
      · exact q.ed p (List.mem_append_right _ hp)
end MI
end
section
set_option Elab.async false
set_option linter.all false
set_option autoImplicit false
set_option maxRecDepth 100000
set_option exponentiation.threshold 20000
set_option maxHeartbeats 4000000
open PySem L2
namespace MI
end MI
end
section
set_option Elab.async false
set_option linter.all false
set_option autoImplicit false
set_option maxRecDepth 100000
set_option exponentiation.threshold 20000
set_option maxHeartbeats 4000000
open PySem L2
namespace MI
end MI
end
section
set_option Elab.async false
set_option linter.all false
set_option autoImplicit false
set_option maxRecDepth 100000
set_option exponentiation.threshold 20000
set_option maxHeartbeats 4000000
open PySem L2
namespace MI
section
variable {h : Hq} {Φ : Rs D → Prop}
def In9 (q : Zp) : Prop := -1000000000 ≤ q.1 ∧ q.1 ≤ 1000000000 ∧ -1000000000 ≤ q.2 ∧ q.2 ≤ 1000000000
theorem turnsL_w {c X : List Zp} {a b : Zp} (e : c = X ++ [a, b]) (hl : c.length ≤ 8) (hb : ∀ q ∈ c, In9 q) (k : Φ (.ok (.bl (tl a b 0 c)) h)) : W (S_turns_left [.tup (c.map dZ)] h) Φ := by
  have i2 : dIx (.tup (c.map dZ)) (.int (-2)) h = .ok (dZ a) h := v_ixT (by
    rw [e]; simp [atI, ixN]
    rw [if_pos (by omega), show (-2 + ((X.length : Int) + 2)).toNat = X.length by omega]
    simp)
  have i1 : dIx (.tup (c.map dZ)) (.int (-1)) h = .ok (dZ b) h := v_ixT (by
    rw [e]; simp [atI, ixN]
    rw [if_pos (by omega), show (-1 + ((X.length : Int) + 2)).toNat = X.length + 1 by omega]
    simp)
  have ia : In9 a := hb a (by rw [e]; simp)
  have ib : In9 b := hb b (by rw [e]; simp)
  unfold S_turns_left
  simp only [↓w_ok, ↓kB_ok, ↓kI_ok, ↓w_K, ↓w_V, ↓w_vR, ↓w_Op, ↓kO1_ok, ↓kO2_ok, ↓w_Un, ↓w_bOf, ↓w_isB, ↓kBl_ok, ↓kBl_exc, ↓kIf_ok, ↓kIf_exc, ↓w_okB, ↓w_okD, ↓w_bAnd, ↓w_bOr, ↓w_bNot, ↓kNot_ok, ↓kNot_exc, ↓w_eAnd, ↓w_eOr, ↓w_eNot, ↓kNotV_ok, ↓w_eIf, ↓w_aNil, ↓w_aCons, ↓kA1_ok, ↓kA2_ok, ↓kA1_exc, ↓kA2_exc, ↓w_Tup, ↓w_Lst, ↓w_mkT, ↓w_mkL, ↓w_Dct, ↓w_Dct2, ↓w_SoSe, ↓w_Call, ↓w_goS, ↓w_Bi, ↓w_Isi, ↓w_Cut, ↓kC1_ok, ↓kC2_ok, ↓kC3_ok, ↓w_oNone, ↓w_oSome, ↓w_vO, ↓w_Chain, ↓kCh1_ok, ↓kCh2_ok, ↓kCh3_ok, ↓w_chA, ↓w_App, ↓w_Ins, ↓w_insG, ↓z_nx, ↓z_End, ↓z_Seq, ↓kT_nx, ↓kT_rt, ↓kT_bk, ↓kT_ct, ↓kT_exc, ↓z_If, ↓kIfS_ok, ↓kIfS_exc, ↓z_Ret, ↓kRet_ok, ↓kRet_exc, ↓z_Expr, ↓kNx_ok, ↓kNx_exc, ↓z_Asg, ↓kAs_ok, ↓kAs_exc, ↓z_tgO, t_N, t_T, t_nil, t_cons, t_G, t_gnil, t_gcons, t_bind, ↓z_Par, ↓kPar_ok, ↓z_Raise, ↓z_Break, ↓z_Cont, ↓z_For, ↓kSrc_ok, ↓w_Range, ↓w_rgF, ↓w_SeqI, ↓w_sqT, ↓w_Zip, ↓w_zpT, ↓w_Comp, ↓kCo_ok, ↓w_of, ↓kF_rt, ↓kF_nx, ↓kF_exc, ↓w_add, ↓w_sub, ↓w_pow10, ↓w_neg, ↓w_lt, ↓w_le, ↓w_gt, ↓w_ge, ↓w_ix0, ↓w_ix1, ↓w_ix2, ↓w_ix3, ↓w_eqI, ↓w_eqS, ↓w_eqT2, ↓w_abs, ↓w_lenT, ↓w_lenS, ↓w_max, ↓w_min, ↓w_intT, ↓w_intF, ↓w_isBool, ↓w_isTup, ↓w_tupT, ↓w_listT, ↓w_cutT, ↓brw_t, ↓brw_f, ↓brz_t, ↓brz_f, List.getElem?_cons_zero, List.getElem?_cons_succ, List.set_cons_zero, List.set_cons_succ, List.length_cons, List.length_nil, List.map_cons, List.map_nil, List.replicate, List.cons_append, List.nil_append, small, Nat.reduceAdd, Nat.reduceLeDiff, Nat.reduceEqDiff, Int.cast_ofNat_Int, Int.reduceBEq, BEq.rfl, ↓w_Yes, ↓w_bTru, ↓augF_ok, ↓z_Put, ↓putF_ok, ↓putG_ok, ↓w_isNn, ↓w_isNt, wipeF_nil, wipeF_cons, Int.reduceLE, Int.reduceLT, Int.reduceToNat, Int.reducePow, Int.reduceNeg, Int.reduceSub, Int.reduceAdd, Int.reduceMul, decide_true, decide_false, Bool.not_true, Bool.not_false, Bool.bne_false, Bool.bne_true, ↓w_aStar, ↓w_stT, ↓kSt_ok, ↓w_aDef, ↓kDf_ok, ↓w_Cnt, ↓w_Ext, ↓w_isBB, ↓w_isIB, ↓w_Enum, ↓w_enT, i1, i2]
  refine turns_w (n := c.length) (I := fun i fr h' => h' = h ∧ ∃ (p q : Zp) (n : Nat) (x1 x2 x9 x10 x11 x12 x13 : Option D), tl p q n (c.drop i) = tl a b 0 c ∧ n ≤ i ∧ In9 p ∧ In9 q ∧ fr = [some (.tup (c.map dZ)), x1, x2, some (.int q.1), some (.int q.2), some (.int (q.1 - p.1)), some (.int (q.2 - p.2)), some (.bl (decide (0 < q.2 - p.2))), some (.int n), x9, x10, x11, x12, x13]) ?_ ?_ _ 0 _ _ (by simp [srcT]) ⟨rfl, a, b, 0, _, _, _, _, _, _, _, rfl, by omega, ia, ib, rfl⟩
  · rintro i fr h' hi ⟨rfl, p, q, n, x1, x2, x9, x10, x11, x12, x13, et, hn, ip, iq, rfl⟩
    have eg : c[i]? = some c[i] := List.getElem?_eq_getElem hi
    have ed : c.drop i = c[i] :: c.drop (i + 1) := List.drop_eq_getElem_cons hi
    have iz := hb _ (List.getElem_mem hi)
    refine ⟨dZ c[i], _, by rw [srcT_get, List.getElem?_map, eg]; rfl, rfl, ?_⟩
    rw [ed] at et
    generalize c[i] = z at *
    have bp : ∀ {u v : Int}, -1000000000 ≤ u → u ≤ 1000000000 → -1000000000 ≤ v → v ≤ 1000000000 → Bd 40 (u - v) := by
      intro u v a1 a2 a3 a4
      refine Bd.of ?_ ?_ <;> omega
    obtain ⟨p1, p2, p3, p4⟩ := ip
    have iq' := iq
    have iz' := iz
    obtain ⟨q1, q2, q3, q4⟩ := iq
    obtain ⟨z1, z2, z3, z4⟩ := iz
    have m1 := Bd.mk (bp q1 q2 p1 p2) (bp z3 z4 q3 q4)
    have m2 := Bd.mk (bp q3 q4 p3 p4) (bp z1 z2 q1 q2)
    have ec : crs p q z = (q.1 - p.1) * (z.2 - q.2) - (q.2 - p.2) * (z.1 - q.1) := by unfold crs; grind
    simp only [↓w_ok, ↓kB_ok, ↓kI_ok, ↓w_K, ↓w_V, ↓w_vR, ↓w_Op, ↓kO1_ok, ↓kO2_ok, ↓w_Un, ↓w_bOf, ↓w_isB, ↓kBl_ok, ↓kBl_exc, ↓kIf_ok, ↓kIf_exc, ↓w_okB, ↓w_okD, ↓w_bAnd, ↓w_bOr, ↓w_bNot, ↓kNot_ok, ↓kNot_exc, ↓w_eAnd, ↓w_eOr, ↓w_eNot, ↓kNotV_ok, ↓w_eIf, ↓w_aNil, ↓w_aCons, ↓kA1_ok, ↓kA2_ok, ↓kA1_exc, ↓kA2_exc, ↓w_Tup, ↓w_Lst, ↓w_mkT, ↓w_mkL, ↓w_Dct, ↓w_Dct2, ↓w_SoSe, ↓w_Call, ↓w_goS, ↓w_Bi, ↓w_Isi, ↓w_Cut, ↓kC1_ok, ↓kC2_ok, ↓kC3_ok, ↓w_oNone, ↓w_oSome, ↓w_vO, ↓w_Chain, ↓kCh1_ok, ↓kCh2_ok, ↓kCh3_ok, ↓w_chA, ↓w_App, ↓w_Ins, ↓w_insG, ↓z_nx, ↓z_End, ↓z_Seq, ↓kT_nx, ↓kT_rt, ↓kT_bk, ↓kT_ct, ↓kT_exc, ↓z_If, ↓kIfS_ok, ↓kIfS_exc, ↓z_Ret, ↓kRet_ok, ↓kRet_exc, ↓z_Expr, ↓kNx_ok, ↓kNx_exc, ↓z_Asg, ↓kAs_ok, ↓kAs_exc, ↓z_tgO, t_N, t_T, t_nil, t_cons, t_G, t_gnil, t_gcons, t_bind, ↓z_Par, ↓kPar_ok, ↓z_Raise, ↓z_Break, ↓z_Cont, ↓z_For, ↓kSrc_ok, ↓w_Range, ↓w_rgF, ↓w_SeqI, ↓w_sqT, ↓w_Zip, ↓w_zpT, ↓w_Comp, ↓kCo_ok, ↓w_of, ↓kF_rt, ↓kF_nx, ↓kF_exc, ↓w_add, ↓w_sub, ↓w_pow10, ↓w_neg, ↓w_lt, ↓w_le, ↓w_gt, ↓w_ge, ↓w_ix0, ↓w_ix1, ↓w_ix2, ↓w_ix3, ↓w_eqI, ↓w_eqS, ↓w_eqT2, ↓w_abs, ↓w_lenT, ↓w_lenS, ↓w_max, ↓w_min, ↓w_intT, ↓w_intF, ↓w_isBool, ↓w_isTup, ↓w_tupT, ↓w_listT, ↓w_cutT, ↓brw_t, ↓brw_f, ↓brz_t, ↓brz_f, List.getElem?_cons_zero, List.getElem?_cons_succ, List.set_cons_zero, List.set_cons_succ, List.length_cons, List.length_nil, List.map_cons, List.map_nil, List.replicate, List.cons_append, List.nil_append, small, Nat.reduceAdd, Nat.reduceLeDiff, Nat.reduceEqDiff, Int.cast_ofNat_Int, Int.reduceBEq, BEq.rfl, ↓w_Yes, ↓w_bTru, ↓augF_ok, ↓z_Put, ↓putF_ok, ↓putG_ok, ↓w_isNn, ↓w_isNt, wipeF_nil, wipeF_cons, Int.reduceLE, Int.reduceLT, Int.reduceToNat, Int.reducePow, Int.reduceNeg, Int.reduceSub, Int.reduceAdd, Int.reduceMul, decide_true, decide_false, Bool.not_true, Bool.not_false, Bool.bne_false, Bool.bne_true, ↓w_aStar, ↓w_stT, ↓kSt_ok, ↓w_aDef, ↓kDf_ok, ↓w_Cnt, ↓w_Ext, ↓w_isBB, ↓w_isIB, ↓w_Enum, ↓w_enT, w_mul m1, w_mul m2]
    rw [tl] at et
    refine brz (fun h1 => ?_) fun h1 => ?_
    · have h1' : crs p q z ≤ 0 := by have := of_decide_eq_true h1; omega
      rw [if_pos h1'] at et
      simp only [↓w_ok, ↓kB_ok, ↓kI_ok, ↓w_K, ↓w_V, ↓w_vR, ↓w_Op, ↓kO1_ok, ↓kO2_ok, ↓w_Un, ↓w_bOf, ↓w_isB, ↓kBl_ok, ↓kBl_exc, ↓kIf_ok, ↓kIf_exc, ↓w_okB, ↓w_okD, ↓w_bAnd, ↓w_bOr, ↓w_bNot, ↓kNot_ok, ↓kNot_exc, ↓w_eAnd, ↓w_eOr, ↓w_eNot, ↓kNotV_ok, ↓w_eIf, ↓w_aNil, ↓w_aCons, ↓kA1_ok, ↓kA2_ok, ↓kA1_exc, ↓kA2_exc, ↓w_Tup, ↓w_Lst, ↓w_mkT, ↓w_mkL, ↓w_Dct, ↓w_Dct2, ↓w_SoSe, ↓w_Call, ↓w_goS, ↓w_Bi, ↓w_Isi, ↓w_Cut, ↓kC1_ok, ↓kC2_ok, ↓kC3_ok, ↓w_oNone, ↓w_oSome, ↓w_vO, ↓w_Chain, ↓kCh1_ok, ↓kCh2_ok, ↓kCh3_ok, ↓w_chA, ↓w_App, ↓w_Ins, ↓w_insG, ↓z_nx, ↓z_End, ↓z_Seq, ↓kT_nx, ↓kT_rt, ↓kT_bk, ↓kT_ct, ↓kT_exc, ↓z_If, ↓kIfS_ok, ↓kIfS_exc, ↓z_Ret, ↓kRet_ok, ↓kRet_exc, ↓z_Expr, ↓kNx_ok, ↓kNx_exc, ↓z_Asg, ↓kAs_ok, ↓kAs_exc, ↓z_tgO, t_N, t_T, t_nil, t_cons, t_G, t_gnil, t_gcons, t_bind, ↓z_Par, ↓kPar_ok, ↓z_Raise, ↓z_Break, ↓z_Cont, ↓z_For, ↓kSrc_ok, ↓w_Range, ↓w_rgF, ↓w_SeqI, ↓w_sqT, ↓w_Zip, ↓w_zpT, ↓w_Comp, ↓kCo_ok, ↓w_of, ↓kF_rt, ↓kF_nx, ↓kF_exc, ↓w_add, ↓w_sub, ↓w_pow10, ↓w_neg, ↓w_lt, ↓w_le, ↓w_gt, ↓w_ge, ↓w_ix0, ↓w_ix1, ↓w_ix2, ↓w_ix3, ↓w_eqI, ↓w_eqS, ↓w_eqT2, ↓w_abs, ↓w_lenT, ↓w_lenS, ↓w_max, ↓w_min, ↓w_intT, ↓w_intF, ↓w_isBool, ↓w_isTup, ↓w_tupT, ↓w_listT, ↓w_cutT, ↓brw_t, ↓brw_f, ↓brz_t, ↓brz_f, List.getElem?_cons_zero, List.getElem?_cons_succ, List.set_cons_zero, List.set_cons_succ, List.length_cons, List.length_nil, List.map_cons, List.map_nil, List.replicate, List.cons_append, List.nil_append, small, Nat.reduceAdd, Nat.reduceLeDiff, Nat.reduceEqDiff, Int.cast_ofNat_Int, Int.reduceBEq, BEq.rfl, ↓w_Yes, ↓w_bTru, ↓augF_ok, ↓z_Put, ↓putF_ok, ↓putG_ok, ↓w_isNn, ↓w_isNt, wipeF_nil, wipeF_cons, Int.reduceLE, Int.reduceLT, Int.reduceToNat, Int.reducePow, Int.reduceNeg, Int.reduceSub, Int.reduceAdd, Int.reduceMul, decide_true, decide_false, Bool.not_true, Bool.not_false, Bool.bne_false, Bool.bne_true, ↓w_aStar, ↓w_stT, ↓kSt_ok, ↓w_aDef, ↓kDf_ok, ↓w_Cnt, ↓w_Ext, ↓w_isBB, ↓w_isIB, ↓w_Enum, ↓w_enT]
      rw [et]; exact k
    · have h1' : ¬ crs p q z ≤ 0 := by have := of_decide_eq_false h1; omega
      rw [if_neg h1'] at et
      simp only [↓w_ok, ↓kB_ok, ↓kI_ok, ↓w_K, ↓w_V, ↓w_vR, ↓w_Op, ↓kO1_ok, ↓kO2_ok, ↓w_Un, ↓w_bOf, ↓w_isB, ↓kBl_ok, ↓kBl_exc, ↓kIf_ok, ↓kIf_exc, ↓w_okB, ↓w_okD, ↓w_bAnd, ↓w_bOr, ↓w_bNot, ↓kNot_ok, ↓kNot_exc, ↓w_eAnd, ↓w_eOr, ↓w_eNot, ↓kNotV_ok, ↓w_eIf, ↓w_aNil, ↓w_aCons, ↓kA1_ok, ↓kA2_ok, ↓kA1_exc, ↓kA2_exc, ↓w_Tup, ↓w_Lst, ↓w_mkT, ↓w_mkL, ↓w_Dct, ↓w_Dct2, ↓w_SoSe, ↓w_Call, ↓w_goS, ↓w_Bi, ↓w_Isi, ↓w_Cut, ↓kC1_ok, ↓kC2_ok, ↓kC3_ok, ↓w_oNone, ↓w_oSome, ↓w_vO, ↓w_Chain, ↓kCh1_ok, ↓kCh2_ok, ↓kCh3_ok, ↓w_chA, ↓w_App, ↓w_Ins, ↓w_insG, ↓z_nx, ↓z_End, ↓z_Seq, ↓kT_nx, ↓kT_rt, ↓kT_bk, ↓kT_ct, ↓kT_exc, ↓z_If, ↓kIfS_ok, ↓kIfS_exc, ↓z_Ret, ↓kRet_ok, ↓kRet_exc, ↓z_Expr, ↓kNx_ok, ↓kNx_exc, ↓z_Asg, ↓kAs_ok, ↓kAs_exc, ↓z_tgO, t_N, t_T, t_nil, t_cons, t_G, t_gnil, t_gcons, t_bind, ↓z_Par, ↓kPar_ok, ↓z_Raise, ↓z_Break, ↓z_Cont, ↓z_For, ↓kSrc_ok, ↓w_Range, ↓w_rgF, ↓w_SeqI, ↓w_sqT, ↓w_Zip, ↓w_zpT, ↓w_Comp, ↓kCo_ok, ↓w_of, ↓kF_rt, ↓kF_nx, ↓kF_exc, ↓w_add, ↓w_sub, ↓w_pow10, ↓w_neg, ↓w_lt, ↓w_le, ↓w_gt, ↓w_ge, ↓w_ix0, ↓w_ix1, ↓w_ix2, ↓w_ix3, ↓w_eqI, ↓w_eqS, ↓w_eqT2, ↓w_abs, ↓w_lenT, ↓w_lenS, ↓w_max, ↓w_min, ↓w_intT, ↓w_intF, ↓w_isBool, ↓w_isTup, ↓w_tupT, ↓w_listT, ↓w_cutT, ↓brw_t, ↓brw_f, ↓brz_t, ↓brz_f, List.getElem?_cons_zero, List.getElem?_cons_succ, List.set_cons_zero, List.set_cons_succ, List.length_cons, List.length_nil, List.map_cons, List.map_nil, List.replicate, List.cons_append, List.nil_append, small, Nat.reduceAdd, Nat.reduceLeDiff, Nat.reduceEqDiff, Int.cast_ofNat_Int, Int.reduceBEq, BEq.rfl, ↓w_Yes, ↓w_bTru, ↓augF_ok, ↓z_Put, ↓putF_ok, ↓putG_ok, ↓w_isNn, ↓w_isNt, wipeF_nil, wipeF_cons, Int.reduceLE, Int.reduceLT, Int.reduceToNat, Int.reducePow, Int.reduceNeg, Int.reduceSub, Int.reduceAdd, Int.reduceMul, decide_true, decide_false, Bool.not_true, Bool.not_false, Bool.bne_false, Bool.bne_true, ↓w_aStar, ↓w_stT, ↓kSt_ok, ↓w_aDef, ↓kDf_ok, ↓w_Cnt, ↓w_Ext, ↓w_isBB, ↓w_isIB, ↓w_Enum, ↓w_enT]
      refine brw (fun h2 => ?_) fun h2 => ?_
      · have g2 := of_decide_eq_true h2
        simp only [↓w_ok, ↓kB_ok, ↓kI_ok, ↓w_K, ↓w_V, ↓w_vR, ↓w_Op, ↓kO1_ok, ↓kO2_ok, ↓w_Un, ↓w_bOf, ↓w_isB, ↓kBl_ok, ↓kBl_exc, ↓kIf_ok, ↓kIf_exc, ↓w_okB, ↓w_okD, ↓w_bAnd, ↓w_bOr, ↓w_bNot, ↓kNot_ok, ↓kNot_exc, ↓w_eAnd, ↓w_eOr, ↓w_eNot, ↓kNotV_ok, ↓w_eIf, ↓w_aNil, ↓w_aCons, ↓kA1_ok, ↓kA2_ok, ↓kA1_exc, ↓kA2_exc, ↓w_Tup, ↓w_Lst, ↓w_mkT, ↓w_mkL, ↓w_Dct, ↓w_Dct2, ↓w_SoSe, ↓w_Call, ↓w_goS, ↓w_Bi, ↓w_Isi, ↓w_Cut, ↓kC1_ok, ↓kC2_ok, ↓kC3_ok, ↓w_oNone, ↓w_oSome, ↓w_vO, ↓w_Chain, ↓kCh1_ok, ↓kCh2_ok, ↓kCh3_ok, ↓w_chA, ↓w_App, ↓w_Ins, ↓w_insG, ↓z_nx, ↓z_End, ↓z_Seq, ↓kT_nx, ↓kT_rt, ↓kT_bk, ↓kT_ct, ↓kT_exc, ↓z_If, ↓kIfS_ok, ↓kIfS_exc, ↓z_Ret, ↓kRet_ok, ↓kRet_exc, ↓z_Expr, ↓kNx_ok, ↓kNx_exc, ↓z_Asg, ↓kAs_ok, ↓kAs_exc, ↓z_tgO, t_N, t_T, t_nil, t_cons, t_G, t_gnil, t_gcons, t_bind, ↓z_Par, ↓kPar_ok, ↓z_Raise, ↓z_Break, ↓z_Cont, ↓z_For, ↓kSrc_ok, ↓w_Range, ↓w_rgF, ↓w_SeqI, ↓w_sqT, ↓w_Zip, ↓w_zpT, ↓w_Comp, ↓kCo_ok, ↓w_of, ↓kF_rt, ↓kF_nx, ↓kF_exc, ↓w_add, ↓w_sub, ↓w_pow10, ↓w_neg, ↓w_lt, ↓w_le, ↓w_gt, ↓w_ge, ↓w_ix0, ↓w_ix1, ↓w_ix2, ↓w_ix3, ↓w_eqI, ↓w_eqS, ↓w_eqT2, ↓w_abs, ↓w_lenT, ↓w_lenS, ↓w_max, ↓w_min, ↓w_intT, ↓w_intF, ↓w_isBool, ↓w_isTup, ↓w_tupT, ↓w_listT, ↓w_cutT, ↓brw_t, ↓brw_f, ↓brz_t, ↓brz_f, List.getElem?_cons_zero, List.getElem?_cons_succ, List.set_cons_zero, List.set_cons_succ, List.length_cons, List.length_nil, List.map_cons, List.map_nil, List.replicate, List.cons_append, List.nil_append, small, Nat.reduceAdd, Nat.reduceLeDiff, Nat.reduceEqDiff, Int.cast_ofNat_Int, Int.reduceBEq, BEq.rfl, ↓w_Yes, ↓w_bTru, ↓augF_ok, ↓z_Put, ↓putF_ok, ↓putG_ok, ↓w_isNn, ↓w_isNt, wipeF_nil, wipeF_cons, Int.reduceLE, Int.reduceLT, Int.reduceToNat, Int.reducePow, Int.reduceNeg, Int.reduceSub, Int.reduceAdd, Int.reduceMul, decide_true, decide_false, Bool.not_true, Bool.not_false, Bool.bne_false, Bool.bne_true, ↓w_aStar, ↓w_stT, ↓kSt_ok, ↓w_aDef, ↓kDf_ok, ↓w_Cnt, ↓w_Ext, ↓w_isBB, ↓w_isIB, ↓w_Enum, ↓w_enT]
        refine brz (fun h3 => ?_) fun h3 => ?_
        · have g3 : ¬ 0 < q.2 - p.2 := by simpa using h3
          have c3 : q.2 < z.2 ∧ ¬ p.2 < q.2 := by omega
          rw [if_pos c3] at et
          simp only [↓w_ok, ↓kB_ok, ↓kI_ok, ↓w_K, ↓w_V, ↓w_vR, ↓w_Op, ↓kO1_ok, ↓kO2_ok, ↓w_Un, ↓w_bOf, ↓w_isB, ↓kBl_ok, ↓kBl_exc, ↓kIf_ok, ↓kIf_exc, ↓w_okB, ↓w_okD, ↓w_bAnd, ↓w_bOr, ↓w_bNot, ↓kNot_ok, ↓kNot_exc, ↓w_eAnd, ↓w_eOr, ↓w_eNot, ↓kNotV_ok, ↓w_eIf, ↓w_aNil, ↓w_aCons, ↓kA1_ok, ↓kA2_ok, ↓kA1_exc, ↓kA2_exc, ↓w_Tup, ↓w_Lst, ↓w_mkT, ↓w_mkL, ↓w_Dct, ↓w_Dct2, ↓w_SoSe, ↓w_Call, ↓w_goS, ↓w_Bi, ↓w_Isi, ↓w_Cut, ↓kC1_ok, ↓kC2_ok, ↓kC3_ok, ↓w_oNone, ↓w_oSome, ↓w_vO, ↓w_Chain, ↓kCh1_ok, ↓kCh2_ok, ↓kCh3_ok, ↓w_chA, ↓w_App, ↓w_Ins, ↓w_insG, ↓z_nx, ↓z_End, ↓z_Seq, ↓kT_nx, ↓kT_rt, ↓kT_bk, ↓kT_ct, ↓kT_exc, ↓z_If, ↓kIfS_ok, ↓kIfS_exc, ↓z_Ret, ↓kRet_ok, ↓kRet_exc, ↓z_Expr, ↓kNx_ok, ↓kNx_exc, ↓z_Asg, ↓kAs_ok, ↓kAs_exc, ↓z_tgO, t_N, t_T, t_nil, t_cons, t_G, t_gnil, t_gcons, t_bind, ↓z_Par, ↓kPar_ok, ↓z_Raise, ↓z_Break, ↓z_Cont, ↓z_For, ↓kSrc_ok, ↓w_Range, ↓w_rgF, ↓w_SeqI, ↓w_sqT, ↓w_Zip, ↓w_zpT, ↓w_Comp, ↓kCo_ok, ↓w_of, ↓kF_rt, ↓kF_nx, ↓kF_exc, ↓w_add, ↓w_sub, ↓w_pow10, ↓w_neg, ↓w_lt, ↓w_le, ↓w_gt, ↓w_ge, ↓w_ix0, ↓w_ix1, ↓w_ix2, ↓w_ix3, ↓w_eqI, ↓w_eqS, ↓w_eqT2, ↓w_abs, ↓w_lenT, ↓w_lenS, ↓w_max, ↓w_min, ↓w_intT, ↓w_intF, ↓w_isBool, ↓w_isTup, ↓w_tupT, ↓w_listT, ↓w_cutT, ↓brw_t, ↓brw_f, ↓brz_t, ↓brz_f, List.getElem?_cons_zero, List.getElem?_cons_succ, List.set_cons_zero, List.set_cons_succ, List.length_cons, List.length_nil, List.map_cons, List.map_nil, List.replicate, List.cons_append, List.nil_append, small, Nat.reduceAdd, Nat.reduceLeDiff, Nat.reduceEqDiff, Int.cast_ofNat_Int, Int.reduceBEq, BEq.rfl, ↓w_Yes, ↓w_bTru, ↓augF_ok, ↓z_Put, ↓putF_ok, ↓putG_ok, ↓w_isNn, ↓w_isNt, wipeF_nil, wipeF_cons, Int.reduceLE, Int.reduceLT, Int.reduceToNat, Int.reducePow, Int.reduceNeg, Int.reduceSub, Int.reduceAdd, Int.reduceMul, decide_true, decide_false, Bool.not_true, Bool.not_false, Bool.bne_false, Bool.bne_true, ↓w_aStar, ↓w_stT, ↓kSt_ok, ↓w_aDef, ↓kDf_ok, ↓w_Cnt, ↓w_Ext, ↓w_isBB, ↓w_isIB, ↓w_Enum, ↓w_enT]
          exact ⟨rfl, q, z, n + 1, _, _, _, _, _, _, _, et, by omega, iq', iz', rfl⟩
        · have g3 : 0 < q.2 - p.2 := by simpa using h3
          have c3 : ¬ (q.2 < z.2 ∧ ¬ p.2 < q.2) := by omega
          rw [if_neg c3] at et
          simp only [↓w_ok, ↓kB_ok, ↓kI_ok, ↓w_K, ↓w_V, ↓w_vR, ↓w_Op, ↓kO1_ok, ↓kO2_ok, ↓w_Un, ↓w_bOf, ↓w_isB, ↓kBl_ok, ↓kBl_exc, ↓kIf_ok, ↓kIf_exc, ↓w_okB, ↓w_okD, ↓w_bAnd, ↓w_bOr, ↓w_bNot, ↓kNot_ok, ↓kNot_exc, ↓w_eAnd, ↓w_eOr, ↓w_eNot, ↓kNotV_ok, ↓w_eIf, ↓w_aNil, ↓w_aCons, ↓kA1_ok, ↓kA2_ok, ↓kA1_exc, ↓kA2_exc, ↓w_Tup, ↓w_Lst, ↓w_mkT, ↓w_mkL, ↓w_Dct, ↓w_Dct2, ↓w_SoSe, ↓w_Call, ↓w_goS, ↓w_Bi, ↓w_Isi, ↓w_Cut, ↓kC1_ok, ↓kC2_ok, ↓kC3_ok, ↓w_oNone, ↓w_oSome, ↓w_vO, ↓w_Chain, ↓kCh1_ok, ↓kCh2_ok, ↓kCh3_ok, ↓w_chA, ↓w_App, ↓w_Ins, ↓w_insG, ↓z_nx, ↓z_End, ↓z_Seq, ↓kT_nx, ↓kT_rt, ↓kT_bk, ↓kT_ct, ↓kT_exc, ↓z_If, ↓kIfS_ok, ↓kIfS_exc, ↓z_Ret, ↓kRet_ok, ↓kRet_exc, ↓z_Expr, ↓kNx_ok, ↓kNx_exc, ↓z_Asg, ↓kAs_ok, ↓kAs_exc, ↓z_tgO, t_N, t_T, t_nil, t_cons, t_G, t_gnil, t_gcons, t_bind, ↓z_Par, ↓kPar_ok, ↓z_Raise, ↓z_Break, ↓z_Cont, ↓z_For, ↓kSrc_ok, ↓w_Range, ↓w_rgF, ↓w_SeqI, ↓w_sqT, ↓w_Zip, ↓w_zpT, ↓w_Comp, ↓kCo_ok, ↓w_of, ↓kF_rt, ↓kF_nx, ↓kF_exc, ↓w_add, ↓w_sub, ↓w_pow10, ↓w_neg, ↓w_lt, ↓w_le, ↓w_gt, ↓w_ge, ↓w_ix0, ↓w_ix1, ↓w_ix2, ↓w_ix3, ↓w_eqI, ↓w_eqS, ↓w_eqT2, ↓w_abs, ↓w_lenT, ↓w_lenS, ↓w_max, ↓w_min, ↓w_intT, ↓w_intF, ↓w_isBool, ↓w_isTup, ↓w_tupT, ↓w_listT, ↓w_cutT, ↓brw_t, ↓brw_f, ↓brz_t, ↓brz_f, List.getElem?_cons_zero, List.getElem?_cons_succ, List.set_cons_zero, List.set_cons_succ, List.length_cons, List.length_nil, List.map_cons, List.map_nil, List.replicate, List.cons_append, List.nil_append, small, Nat.reduceAdd, Nat.reduceLeDiff, Nat.reduceEqDiff, Int.cast_ofNat_Int, Int.reduceBEq, BEq.rfl, ↓w_Yes, ↓w_bTru, ↓augF_ok, ↓z_Put, ↓putF_ok, ↓putG_ok, ↓w_isNn, ↓w_isNt, wipeF_nil, wipeF_cons, Int.reduceLE, Int.reduceLT, Int.reduceToNat, Int.reducePow, Int.reduceNeg, Int.reduceSub, Int.reduceAdd, Int.reduceMul, decide_true, decide_false, Bool.not_true, Bool.not_false, Bool.bne_false, Bool.bne_true, ↓w_aStar, ↓w_stT, ↓kSt_ok, ↓w_aDef, ↓kDf_ok, ↓w_Cnt, ↓w_Ext, ↓w_isBB, ↓w_isIB, ↓w_Enum, ↓w_enT]
          exact ⟨rfl, q, z, n, _, _, _, _, _, _, _, et, by omega, iq', iz', rfl⟩
      · have g2 := of_decide_eq_false h2
        have c3 : ¬ (q.2 < z.2 ∧ ¬ p.2 < q.2) := by omega
        rw [if_neg c3] at et
        simp only [↓w_ok, ↓kB_ok, ↓kI_ok, ↓w_K, ↓w_V, ↓w_vR, ↓w_Op, ↓kO1_ok, ↓kO2_ok, ↓w_Un, ↓w_bOf, ↓w_isB, ↓kBl_ok, ↓kBl_exc, ↓kIf_ok, ↓kIf_exc, ↓w_okB, ↓w_okD, ↓w_bAnd, ↓w_bOr, ↓w_bNot, ↓kNot_ok, ↓kNot_exc, ↓w_eAnd, ↓w_eOr, ↓w_eNot, ↓kNotV_ok, ↓w_eIf, ↓w_aNil, ↓w_aCons, ↓kA1_ok, ↓kA2_ok, ↓kA1_exc, ↓kA2_exc, ↓w_Tup, ↓w_Lst, ↓w_mkT, ↓w_mkL, ↓w_Dct, ↓w_Dct2, ↓w_SoSe, ↓w_Call, ↓w_goS, ↓w_Bi, ↓w_Isi, ↓w_Cut, ↓kC1_ok, ↓kC2_ok, ↓kC3_ok, ↓w_oNone, ↓w_oSome, ↓w_vO, ↓w_Chain, ↓kCh1_ok, ↓kCh2_ok, ↓kCh3_ok, ↓w_chA, ↓w_App, ↓w_Ins, ↓w_insG, ↓z_nx, ↓z_End, ↓z_Seq, ↓kT_nx, ↓kT_rt, ↓kT_bk, ↓kT_ct, ↓kT_exc, ↓z_If, ↓kIfS_ok, ↓kIfS_exc, ↓z_Ret, ↓kRet_ok, ↓kRet_exc, ↓z_Expr, ↓kNx_ok, ↓kNx_exc, ↓z_Asg, ↓kAs_ok, ↓kAs_exc, ↓z_tgO, t_N, t_T, t_nil, t_cons, t_G, t_gnil, t_gcons, t_bind, ↓z_Par, ↓kPar_ok, ↓z_Raise, ↓z_Break, ↓z_Cont, ↓z_For, ↓kSrc_ok, ↓w_Range, ↓w_rgF, ↓w_SeqI, ↓w_sqT, ↓w_Zip, ↓w_zpT, ↓w_Comp, ↓kCo_ok, ↓w_of, ↓kF_rt, ↓kF_nx, ↓kF_exc, ↓w_add, ↓w_sub, ↓w_pow10, ↓w_neg, ↓w_lt, ↓w_le, ↓w_gt, ↓w_ge, ↓w_ix0, ↓w_ix1, ↓w_ix2, ↓w_ix3, ↓w_eqI, ↓w_eqS, ↓w_eqT2, ↓w_abs, ↓w_lenT, ↓w_lenS, ↓w_max, ↓w_min, ↓w_intT, ↓w_intF, ↓w_isBool, ↓w_isTup, ↓w_tupT, ↓w_listT, ↓w_cutT, ↓brw_t, ↓brw_f, ↓brz_t, ↓brz_f, List.getElem?_cons_zero, List.getElem?_cons_succ, List.set_cons_zero, List.set_cons_succ, List.length_cons, List.length_nil, List.map_cons, List.map_nil, List.replicate, List.cons_append, List.nil_append, small, Nat.reduceAdd, Nat.reduceLeDiff, Nat.reduceEqDiff, Int.cast_ofNat_Int, Int.reduceBEq, BEq.rfl, ↓w_Yes, ↓w_bTru, ↓augF_ok, ↓z_Put, ↓putF_ok, ↓putG_ok, ↓w_isNn, ↓w_isNt, wipeF_nil, wipeF_cons, Int.reduceLE, Int.reduceLT, Int.reduceToNat, Int.reducePow, Int.reduceNeg, Int.reduceSub, Int.reduceAdd, Int.reduceMul, decide_true, decide_false, Bool.not_true, Bool.not_false, Bool.bne_false, Bool.bne_true, ↓w_aStar, ↓w_stT, ↓kSt_ok, ↓w_aDef, ↓kDf_ok, ↓w_Cnt, ↓w_Ext, ↓w_isBB, ↓w_isIB, ↓w_Enum, ↓w_enT]
        exact ⟨rfl, q, z, n, _, _, _, _, _, _, _, et, by omega, iq', iz', rfl⟩
  · rintro fr h' ⟨rfl, p, q, n, x1, x2, x9, x10, x11, x12, x13, et, hn, ip, iq, rfl⟩
    refine ⟨by have := srcT_fin (l := c.map dZ) h'; simpa using this, ?_⟩
    rw [List.drop_length] at et
    simp only [↓w_ok, ↓kB_ok, ↓kI_ok, ↓w_K, ↓w_V, ↓w_vR, ↓w_Op, ↓kO1_ok, ↓kO2_ok, ↓w_Un, ↓w_bOf, ↓w_isB, ↓kBl_ok, ↓kBl_exc, ↓kIf_ok, ↓kIf_exc, ↓w_okB, ↓w_okD, ↓w_bAnd, ↓w_bOr, ↓w_bNot, ↓kNot_ok, ↓kNot_exc, ↓w_eAnd, ↓w_eOr, ↓w_eNot, ↓kNotV_ok, ↓w_eIf, ↓w_aNil, ↓w_aCons, ↓kA1_ok, ↓kA2_ok, ↓kA1_exc, ↓kA2_exc, ↓w_Tup, ↓w_Lst, ↓w_mkT, ↓w_mkL, ↓w_Dct, ↓w_Dct2, ↓w_SoSe, ↓w_Call, ↓w_goS, ↓w_Bi, ↓w_Isi, ↓w_Cut, ↓kC1_ok, ↓kC2_ok, ↓kC3_ok, ↓w_oNone, ↓w_oSome, ↓w_vO, ↓w_Chain, ↓kCh1_ok, ↓kCh2_ok, ↓kCh3_ok, ↓w_chA, ↓w_App, ↓w_Ins, ↓w_insG, ↓z_nx, ↓z_End, ↓z_Seq, ↓kT_nx, ↓kT_rt, ↓kT_bk, ↓kT_ct, ↓kT_exc, ↓z_If, ↓kIfS_ok, ↓kIfS_exc, ↓z_Ret, ↓kRet_ok, ↓kRet_exc, ↓z_Expr, ↓kNx_ok, ↓kNx_exc, ↓z_Asg, ↓kAs_ok, ↓kAs_exc, ↓z_tgO, t_N, t_T, t_nil, t_cons, t_G, t_gnil, t_gcons, t_bind, ↓z_Par, ↓kPar_ok, ↓z_Raise, ↓z_Break, ↓z_Cont, ↓z_For, ↓kSrc_ok, ↓w_Range, ↓w_rgF, ↓w_SeqI, ↓w_sqT, ↓w_Zip, ↓w_zpT, ↓w_Comp, ↓kCo_ok, ↓w_of, ↓kF_rt, ↓kF_nx, ↓kF_exc, ↓w_add, ↓w_sub, ↓w_pow10, ↓w_neg, ↓w_lt, ↓w_le, ↓w_gt, ↓w_ge, ↓w_ix0, ↓w_ix1, ↓w_ix2, ↓w_ix3, ↓w_eqI, ↓w_eqS, ↓w_eqT2, ↓w_abs, ↓w_lenT, ↓w_lenS, ↓w_max, ↓w_min, ↓w_intT, ↓w_intF, ↓w_isBool, ↓w_isTup, ↓w_tupT, ↓w_listT, ↓w_cutT, ↓brw_t, ↓brw_f, ↓brz_t, ↓brz_f, List.getElem?_cons_zero, List.getElem?_cons_succ, List.set_cons_zero, List.set_cons_succ, List.length_cons, List.length_nil, List.map_cons, List.map_nil, List.replicate, List.cons_append, List.nil_append, small, Nat.reduceAdd, Nat.reduceLeDiff, Nat.reduceEqDiff, Int.cast_ofNat_Int, Int.reduceBEq, BEq.rfl, ↓w_Yes, ↓w_bTru, ↓augF_ok, ↓z_Put, ↓putF_ok, ↓putG_ok, ↓w_isNn, ↓w_isNt, wipeF_nil, wipeF_cons, Int.reduceLE, Int.reduceLT, Int.reduceToNat, Int.reducePow, Int.reduceNeg, Int.reduceSub, Int.reduceAdd, Int.reduceMul, decide_true, decide_false, Bool.not_true, Bool.not_false, Bool.bne_false, Bool.bne_true, ↓w_aStar, ↓w_stT, ↓kSt_ok, ↓w_aDef, ↓kDf_ok, ↓w_Cnt, ↓w_Ext, ↓w_isBB, ↓w_isIB, ↓w_Enum, ↓w_enT]
    have e2 : tl p q n [] = ((n : Int) == 1) := by
      rw [tl, Bool.eq_iff_iff, beq_iff_eq, beq_iff_eq]; omega
    rw [← e2, et]; exact k
end
end MI
end
section
set_option Elab.async false
set_option linter.all false
set_option autoImplicit false
set_option maxRecDepth 100000
set_option exponentiation.threshold 20000
set_option maxHeartbeats 4000000
open PySem L2
namespace MI
section
variable {h : Hq} {Φ : Rs D → Prop}
theorem isi_w {i : Int} : W (gIsi "int" (.int i) h) Φ = Φ (.ok (.bl true) h) := rfl
theorem neZ {p q : Zp} (n : p ≠ q) : (!(p.1 == q.1 && p.2 == q.2)) = true := by
  rw [Bool.not_eq_true', Bool.eq_false_iff]
  intro e
  rw [Bool.and_eq_true, beq_iff_eq, beq_iff_eq] at e
  exact n (Prod.ext e.1 e.2)
theorem corners_w {c : List Zp} (hb : ∀ q ∈ c, In9 q) (hl : c.length ≤ 8) (k : Φ (.ok (.bl true) h)) : W (S_are_corners [.tup (c.map dZ)] h) Φ := by
  unfold S_are_corners
  simp only [↓w_ok, ↓kB_ok, ↓kI_ok, ↓w_K, ↓w_V, ↓w_vR, ↓w_Op, ↓kO1_ok, ↓kO2_ok, ↓w_Un, ↓w_bOf, ↓w_isB, ↓kBl_ok, ↓kBl_exc, ↓kIf_ok, ↓kIf_exc, ↓w_okB, ↓w_okD, ↓w_bAnd, ↓w_bOr, ↓w_bNot, ↓kNot_ok, ↓kNot_exc, ↓w_eAnd, ↓w_eOr, ↓w_eNot, ↓kNotV_ok, ↓w_eIf, ↓w_aNil, ↓w_aCons, ↓kA1_ok, ↓kA2_ok, ↓kA1_exc, ↓kA2_exc, ↓w_Tup, ↓w_Lst, ↓w_mkT, ↓w_mkL, ↓w_Dct, ↓w_Dct2, ↓w_SoSe, ↓w_Call, ↓w_goS, ↓w_Bi, ↓w_Isi, ↓w_Cut, ↓kC1_ok, ↓kC2_ok, ↓kC3_ok, ↓w_oNone, ↓w_oSome, ↓w_vO, ↓w_Chain, ↓kCh1_ok, ↓kCh2_ok, ↓kCh3_ok, ↓w_chA, ↓w_App, ↓w_Ins, ↓w_insG, ↓z_nx, ↓z_End, ↓z_Seq, ↓kT_nx, ↓kT_rt, ↓kT_bk, ↓kT_ct, ↓kT_exc, ↓z_If, ↓kIfS_ok, ↓kIfS_exc, ↓z_Ret, ↓kRet_ok, ↓kRet_exc, ↓z_Expr, ↓kNx_ok, ↓kNx_exc, ↓z_Asg, ↓kAs_ok, ↓kAs_exc, ↓z_tgO, t_N, t_T, t_nil, t_cons, t_G, t_gnil, t_gcons, t_bind, ↓z_Par, ↓kPar_ok, ↓z_Raise, ↓z_Break, ↓z_Cont, ↓z_For, ↓kSrc_ok, ↓w_Range, ↓w_rgF, ↓w_SeqI, ↓w_sqT, ↓w_Zip, ↓w_zpT, ↓w_Comp, ↓kCo_ok, ↓w_of, ↓kF_rt, ↓kF_nx, ↓kF_exc, ↓w_add, ↓w_sub, ↓w_pow10, ↓w_neg, ↓w_lt, ↓w_le, ↓w_gt, ↓w_ge, ↓w_ix0, ↓w_ix1, ↓w_ix2, ↓w_ix3, ↓w_eqI, ↓w_eqS, ↓w_eqT2, ↓w_abs, ↓w_lenT, ↓w_lenS, ↓w_max, ↓w_min, ↓w_intT, ↓w_intF, ↓w_isBool, ↓w_isTup, ↓w_tupT, ↓w_listT, ↓w_cutT, ↓brw_t, ↓brw_f, ↓brz_t, ↓brz_f, List.getElem?_cons_zero, List.getElem?_cons_succ, List.set_cons_zero, List.set_cons_succ, List.length_cons, List.length_nil, List.map_cons, List.map_nil, List.replicate, List.cons_append, List.nil_append, small, Nat.reduceAdd, Nat.reduceLeDiff, Nat.reduceEqDiff, Int.cast_ofNat_Int, Int.reduceBEq, BEq.rfl, ↓w_Yes, ↓w_bTru, ↓augF_ok, ↓z_Put, ↓putF_ok, ↓putG_ok, ↓w_isNn, ↓w_isNt, wipeF_nil, wipeF_cons, Int.reduceLE, Int.reduceLT, Int.reduceToNat, Int.reducePow, Int.reduceNeg, Int.reduceSub, Int.reduceAdd, Int.reduceMul, decide_true, decide_false, Bool.not_true, Bool.not_false, Bool.bne_false, Bool.bne_true, ↓w_aStar, ↓w_stT, ↓kSt_ok, ↓w_aDef, ↓kDf_ok, ↓w_Cnt, ↓w_Ext, ↓w_isBB, ↓w_isIB, ↓w_Enum, ↓w_enT]
  refine turns_w (n := c.length) (I := fun i fr h' => h' = h ∧ ∃ (x1 x2 x3 : Option D), fr = [some (.tup (c.map dZ)), x1, x2, x3]) ?_ ?_ _ 0 _ _ (by simp [srcT]) ⟨rfl, _, _, _, rfl⟩
  · rintro i fr h' hi ⟨rfl, x1, x2, x3, rfl⟩
    have eg : c[i]? = some c[i] := List.getElem?_eq_getElem hi
    have iz := hb _ (List.getElem_mem hi)
    refine ⟨dZ c[i], _, by rw [srcT_get, List.getElem?_map, eg]; rfl, rfl, ?_⟩
    generalize c[i] = z at *
    obtain ⟨z1, z2, z3, z4⟩ := iz
    have d1 : decide ((-1000000000 : Int) ≤ z.1) = true := decide_eq_true z1
    have d2 : decide (z.1 ≤ (1000000000 : Int)) = true := decide_eq_true z2
    have d3 : decide ((-1000000000 : Int) ≤ z.2) = true := decide_eq_true z3
    have d4 : decide (z.2 ≤ (1000000000 : Int)) = true := decide_eq_true z4
    simp only [↓w_ok, ↓kB_ok, ↓kI_ok, ↓w_K, ↓w_V, ↓w_vR, ↓w_Op, ↓kO1_ok, ↓kO2_ok, ↓w_Un, ↓w_bOf, ↓w_isB, ↓kBl_ok, ↓kBl_exc, ↓kIf_ok, ↓kIf_exc, ↓w_okB, ↓w_okD, ↓w_bAnd, ↓w_bOr, ↓w_bNot, ↓kNot_ok, ↓kNot_exc, ↓w_eAnd, ↓w_eOr, ↓w_eNot, ↓kNotV_ok, ↓w_eIf, ↓w_aNil, ↓w_aCons, ↓kA1_ok, ↓kA2_ok, ↓kA1_exc, ↓kA2_exc, ↓w_Tup, ↓w_Lst, ↓w_mkT, ↓w_mkL, ↓w_Dct, ↓w_Dct2, ↓w_SoSe, ↓w_Call, ↓w_goS, ↓w_Bi, ↓w_Isi, ↓w_Cut, ↓kC1_ok, ↓kC2_ok, ↓kC3_ok, ↓w_oNone, ↓w_oSome, ↓w_vO, ↓w_Chain, ↓kCh1_ok, ↓kCh2_ok, ↓kCh3_ok, ↓w_chA, ↓w_App, ↓w_Ins, ↓w_insG, ↓z_nx, ↓z_End, ↓z_Seq, ↓kT_nx, ↓kT_rt, ↓kT_bk, ↓kT_ct, ↓kT_exc, ↓z_If, ↓kIfS_ok, ↓kIfS_exc, ↓z_Ret, ↓kRet_ok, ↓kRet_exc, ↓z_Expr, ↓kNx_ok, ↓kNx_exc, ↓z_Asg, ↓kAs_ok, ↓kAs_exc, ↓z_tgO, t_N, t_T, t_nil, t_cons, t_G, t_gnil, t_gcons, t_bind, ↓z_Par, ↓kPar_ok, ↓z_Raise, ↓z_Break, ↓z_Cont, ↓z_For, ↓kSrc_ok, ↓w_Range, ↓w_rgF, ↓w_SeqI, ↓w_sqT, ↓w_Zip, ↓w_zpT, ↓w_Comp, ↓kCo_ok, ↓w_of, ↓kF_rt, ↓kF_nx, ↓kF_exc, ↓w_add, ↓w_sub, ↓w_pow10, ↓w_neg, ↓w_lt, ↓w_le, ↓w_gt, ↓w_ge, ↓w_ix0, ↓w_ix1, ↓w_ix2, ↓w_ix3, ↓w_eqI, ↓w_eqS, ↓w_eqT2, ↓w_abs, ↓w_lenT, ↓w_lenS, ↓w_max, ↓w_min, ↓w_intT, ↓w_intF, ↓w_isBool, ↓w_isTup, ↓w_tupT, ↓w_listT, ↓w_cutT, ↓brw_t, ↓brw_f, ↓brz_t, ↓brz_f, List.getElem?_cons_zero, List.getElem?_cons_succ, List.set_cons_zero, List.set_cons_succ, List.length_cons, List.length_nil, List.map_cons, List.map_nil, List.replicate, List.cons_append, List.nil_append, small, Nat.reduceAdd, Nat.reduceLeDiff, Nat.reduceEqDiff, Int.cast_ofNat_Int, Int.reduceBEq, BEq.rfl, ↓w_Yes, ↓w_bTru, ↓augF_ok, ↓z_Put, ↓putF_ok, ↓putG_ok, ↓w_isNn, ↓w_isNt, wipeF_nil, wipeF_cons, Int.reduceLE, Int.reduceLT, Int.reduceToNat, Int.reducePow, Int.reduceNeg, Int.reduceSub, Int.reduceAdd, Int.reduceMul, decide_true, decide_false, Bool.not_true, Bool.not_false, Bool.bne_false, Bool.bne_true, ↓w_aStar, ↓w_stT, ↓kSt_ok, ↓w_aDef, ↓kDf_ok, ↓w_Cnt, ↓w_Ext, ↓w_isBB, ↓w_isIB, ↓w_Enum, ↓w_enT, isi_w, d1, d2, d3, d4]
    exact ⟨rfl, _, _, _, rfl⟩
  · rintro fr h' ⟨rfl, x1, x2, x3, rfl⟩
    refine ⟨by have := srcT_fin (l := c.map dZ) h'; simpa using this, ?_⟩
    simp only [↓w_ok, ↓kB_ok, ↓kI_ok, ↓w_K, ↓w_V, ↓w_vR, ↓w_Op, ↓kO1_ok, ↓kO2_ok, ↓w_Un, ↓w_bOf, ↓w_isB, ↓kBl_ok, ↓kBl_exc, ↓kIf_ok, ↓kIf_exc, ↓w_okB, ↓w_okD, ↓w_bAnd, ↓w_bOr, ↓w_bNot, ↓kNot_ok, ↓kNot_exc, ↓w_eAnd, ↓w_eOr, ↓w_eNot, ↓kNotV_ok, ↓w_eIf, ↓w_aNil, ↓w_aCons, ↓kA1_ok, ↓kA2_ok, ↓kA1_exc, ↓kA2_exc, ↓w_Tup, ↓w_Lst, ↓w_mkT, ↓w_mkL, ↓w_Dct, ↓w_Dct2, ↓w_SoSe, ↓w_Call, ↓w_goS, ↓w_Bi, ↓w_Isi, ↓w_Cut, ↓kC1_ok, ↓kC2_ok, ↓kC3_ok, ↓w_oNone, ↓w_oSome, ↓w_vO, ↓w_Chain, ↓kCh1_ok, ↓kCh2_ok, ↓kCh3_ok, ↓w_chA, ↓w_App, ↓w_Ins, ↓w_insG, ↓z_nx, ↓z_End, ↓z_Seq, ↓kT_nx, ↓kT_rt, ↓kT_bk, ↓kT_ct, ↓kT_exc, ↓z_If, ↓kIfS_ok, ↓kIfS_exc, ↓z_Ret, ↓kRet_ok, ↓kRet_exc, ↓z_Expr, ↓kNx_ok, ↓kNx_exc, ↓z_Asg, ↓kAs_ok, ↓kAs_exc, ↓z_tgO, t_N, t_T, t_nil, t_cons, t_G, t_gnil, t_gcons, t_bind, ↓z_Par, ↓kPar_ok, ↓z_Raise, ↓z_Break, ↓z_Cont, ↓z_For, ↓kSrc_ok, ↓w_Range, ↓w_rgF, ↓w_SeqI, ↓w_sqT, ↓w_Zip, ↓w_zpT, ↓w_Comp, ↓kCo_ok, ↓w_of, ↓kF_rt, ↓kF_nx, ↓kF_exc, ↓w_add, ↓w_sub, ↓w_pow10, ↓w_neg, ↓w_lt, ↓w_le, ↓w_gt, ↓w_ge, ↓w_ix0, ↓w_ix1, ↓w_ix2, ↓w_ix3, ↓w_eqI, ↓w_eqS, ↓w_eqT2, ↓w_abs, ↓w_lenT, ↓w_lenS, ↓w_max, ↓w_min, ↓w_intT, ↓w_intF, ↓w_isBool, ↓w_isTup, ↓w_tupT, ↓w_listT, ↓w_cutT, ↓brw_t, ↓brw_f, ↓brz_t, ↓brz_f, List.getElem?_cons_zero, List.getElem?_cons_succ, List.set_cons_zero, List.set_cons_succ, List.length_cons, List.length_nil, List.map_cons, List.map_nil, List.replicate, List.cons_append, List.nil_append, small, Nat.reduceAdd, Nat.reduceLeDiff, Nat.reduceEqDiff, Int.cast_ofNat_Int, Int.reduceBEq, BEq.rfl, ↓w_Yes, ↓w_bTru, ↓augF_ok, ↓z_Put, ↓putF_ok, ↓putG_ok, ↓w_isNn, ↓w_isNt, wipeF_nil, wipeF_cons, Int.reduceLE, Int.reduceLT, Int.reduceToNat, Int.reducePow, Int.reduceNeg, Int.reduceSub, Int.reduceAdd, Int.reduceMul, decide_true, decide_false, Bool.not_true, Bool.not_false, Bool.bne_false, Bool.bne_true, ↓w_aStar, ↓w_stT, ↓kSt_ok, ↓w_aDef, ↓kDf_ok, ↓w_Cnt, ↓w_Ext, ↓w_isBB, ↓w_isIB, ↓w_Enum, ↓w_enT]
    exact k
theorem isring_w {c : List Zp} (r : Rn c) (hb : ∀ q ∈ c, In9 q) (k : Φ (.ok (.bl true) h)) : W (S_is_ring [.tup (c.map dZ)] h) Φ := by
  have l1 : 0 < c.length := List.length_pos_iff.2 r.ne
  have l8 := r.le
  unfold S_is_ring
  have d1 : decide ((1 : Int) ≤ (c.length : Int)) = true := decide_eq_true (by omega)
  have d2 : decide ((c.length : Int) ≤ (8 : Int)) = true := decide_eq_true (by omega)
  simp only [↓w_ok, ↓kB_ok, ↓kI_ok, ↓w_K, ↓w_V, ↓w_vR, ↓w_Op, ↓kO1_ok, ↓kO2_ok, ↓w_Un, ↓w_bOf, ↓w_isB, ↓kBl_ok, ↓kBl_exc, ↓kIf_ok, ↓kIf_exc, ↓w_okB, ↓w_okD, ↓w_bAnd, ↓w_bOr, ↓w_bNot, ↓kNot_ok, ↓kNot_exc, ↓w_eAnd, ↓w_eOr, ↓w_eNot, ↓kNotV_ok, ↓w_eIf, ↓w_aNil, ↓w_aCons, ↓kA1_ok, ↓kA2_ok, ↓kA1_exc, ↓kA2_exc, ↓w_Tup, ↓w_Lst, ↓w_mkT, ↓w_mkL, ↓w_Dct, ↓w_Dct2, ↓w_SoSe, ↓w_Call, ↓w_goS, ↓w_Bi, ↓w_Isi, ↓w_Cut, ↓kC1_ok, ↓kC2_ok, ↓kC3_ok, ↓w_oNone, ↓w_oSome, ↓w_vO, ↓w_Chain, ↓kCh1_ok, ↓kCh2_ok, ↓kCh3_ok, ↓w_chA, ↓w_App, ↓w_Ins, ↓w_insG, ↓z_nx, ↓z_End, ↓z_Seq, ↓kT_nx, ↓kT_rt, ↓kT_bk, ↓kT_ct, ↓kT_exc, ↓z_If, ↓kIfS_ok, ↓kIfS_exc, ↓z_Ret, ↓kRet_ok, ↓kRet_exc, ↓z_Expr, ↓kNx_ok, ↓kNx_exc, ↓z_Asg, ↓kAs_ok, ↓kAs_exc, ↓z_tgO, t_N, t_T, t_nil, t_cons, t_G, t_gnil, t_gcons, t_bind, ↓z_Par, ↓kPar_ok, ↓z_Raise, ↓z_Break, ↓z_Cont, ↓z_For, ↓kSrc_ok, ↓w_Range, ↓w_rgF, ↓w_SeqI, ↓w_sqT, ↓w_Zip, ↓w_zpT, ↓w_Comp, ↓kCo_ok, ↓w_of, ↓kF_rt, ↓kF_nx, ↓kF_exc, ↓w_add, ↓w_sub, ↓w_pow10, ↓w_neg, ↓w_lt, ↓w_le, ↓w_gt, ↓w_ge, ↓w_ix0, ↓w_ix1, ↓w_ix2, ↓w_ix3, ↓w_eqI, ↓w_eqS, ↓w_eqT2, ↓w_abs, ↓w_lenT, ↓w_lenS, ↓w_max, ↓w_min, ↓w_intT, ↓w_intF, ↓w_isBool, ↓w_isTup, ↓w_tupT, ↓w_listT, ↓w_cutT, ↓brw_t, ↓brw_f, ↓brz_t, ↓brz_f, List.getElem?_cons_zero, List.getElem?_cons_succ, List.set_cons_zero, List.set_cons_succ, List.length_cons, List.length_nil, List.map_cons, List.map_nil, List.replicate, List.cons_append, List.nil_append, small, Nat.reduceAdd, Nat.reduceLeDiff, Nat.reduceEqDiff, Int.cast_ofNat_Int, Int.reduceBEq, BEq.rfl, ↓w_Yes, ↓w_bTru, ↓augF_ok, ↓z_Put, ↓putF_ok, ↓putG_ok, ↓w_isNn, ↓w_isNt, wipeF_nil, wipeF_cons, Int.reduceLE, Int.reduceLT, Int.reduceToNat, Int.reducePow, Int.reduceNeg, Int.reduceSub, Int.reduceAdd, Int.reduceMul, decide_true, decide_false, Bool.not_true, Bool.not_false, Bool.bne_false, Bool.bne_true, ↓w_aStar, ↓w_stT, ↓kSt_ok, ↓w_aDef, ↓kDf_ok, ↓w_Cnt, ↓w_Ext, ↓w_isBB, ↓w_isIB, ↓w_Enum, ↓w_enT, List.length_map, d1, d2]
  refine corners_w hb l8 ?_
  simp only [↓w_ok, ↓kB_ok, ↓kI_ok, ↓w_K, ↓w_V, ↓w_vR, ↓w_Op, ↓kO1_ok, ↓kO2_ok, ↓w_Un, ↓w_bOf, ↓w_isB, ↓kBl_ok, ↓kBl_exc, ↓kIf_ok, ↓kIf_exc, ↓w_okB, ↓w_okD, ↓w_bAnd, ↓w_bOr, ↓w_bNot, ↓kNot_ok, ↓kNot_exc, ↓w_eAnd, ↓w_eOr, ↓w_eNot, ↓kNotV_ok, ↓w_eIf, ↓w_aNil, ↓w_aCons, ↓kA1_ok, ↓kA2_ok, ↓kA1_exc, ↓kA2_exc, ↓w_Tup, ↓w_Lst, ↓w_mkT, ↓w_mkL, ↓w_Dct, ↓w_Dct2, ↓w_SoSe, ↓w_Call, ↓w_goS, ↓w_Bi, ↓w_Isi, ↓w_Cut, ↓kC1_ok, ↓kC2_ok, ↓kC3_ok, ↓w_oNone, ↓w_oSome, ↓w_vO, ↓w_Chain, ↓kCh1_ok, ↓kCh2_ok, ↓kCh3_ok, ↓w_chA, ↓w_App, ↓w_Ins, ↓w_insG, ↓z_nx, ↓z_End, ↓z_Seq, ↓kT_nx, ↓kT_rt, ↓kT_bk, ↓kT_ct, ↓kT_exc, ↓z_If, ↓kIfS_ok, ↓kIfS_exc, ↓z_Ret, ↓kRet_ok, ↓kRet_exc, ↓z_Expr, ↓kNx_ok, ↓kNx_exc, ↓z_Asg, ↓kAs_ok, ↓kAs_exc, ↓z_tgO, t_N, t_T, t_nil, t_cons, t_G, t_gnil, t_gcons, t_bind, ↓z_Par, ↓kPar_ok, ↓z_Raise, ↓z_Break, ↓z_Cont, ↓z_For, ↓kSrc_ok, ↓w_Range, ↓w_rgF, ↓w_SeqI, ↓w_sqT, ↓w_Zip, ↓w_zpT, ↓w_Comp, ↓kCo_ok, ↓w_of, ↓kF_rt, ↓kF_nx, ↓kF_exc, ↓w_add, ↓w_sub, ↓w_pow10, ↓w_neg, ↓w_lt, ↓w_le, ↓w_gt, ↓w_ge, ↓w_ix0, ↓w_ix1, ↓w_ix2, ↓w_ix3, ↓w_eqI, ↓w_eqS, ↓w_eqT2, ↓w_abs, ↓w_lenT, ↓w_lenS, ↓w_max, ↓w_min, ↓w_intT, ↓w_intF, ↓w_isBool, ↓w_isTup, ↓w_tupT, ↓w_listT, ↓w_cutT, ↓brw_t, ↓brw_f, ↓brz_t, ↓brz_f, List.getElem?_cons_zero, List.getElem?_cons_succ, List.set_cons_zero, List.set_cons_succ, List.length_cons, List.length_nil, List.map_cons, List.map_nil, List.replicate, List.cons_append, List.nil_append, small, Nat.reduceAdd, Nat.reduceLeDiff, Nat.reduceEqDiff, Int.cast_ofNat_Int, Int.reduceBEq, BEq.rfl, ↓w_Yes, ↓w_bTru, ↓augF_ok, ↓z_Put, ↓putF_ok, ↓putG_ok, ↓w_isNn, ↓w_isNt, wipeF_nil, wipeF_cons, Int.reduceLE, Int.reduceLT, Int.reduceToNat, Int.reducePow, Int.reduceNeg, Int.reduceSub, Int.reduceAdd, Int.reduceMul, decide_true, decide_false, Bool.not_true, Bool.not_false, Bool.bne_false, Bool.bne_true, ↓w_aStar, ↓w_stT, ↓kSt_ok, ↓w_aDef, ↓kDf_ok, ↓w_Cnt, ↓w_Ext, ↓w_isBB, ↓w_isIB, ↓w_Enum, ↓w_enT, List.length_map]
  refine brzP (fun h1 => ?_) fun h1 => ?_
  · match c, r, hb, h1, l1 with
    | [p], r, hb, h1, _ =>
      simp only [↓w_ok, ↓kB_ok, ↓kI_ok, ↓w_K, ↓w_V, ↓w_vR, ↓w_Op, ↓kO1_ok, ↓kO2_ok, ↓w_Un, ↓w_bOf, ↓w_isB, ↓kBl_ok, ↓kBl_exc, ↓kIf_ok, ↓kIf_exc, ↓w_okB, ↓w_okD, ↓w_bAnd, ↓w_bOr, ↓w_bNot, ↓kNot_ok, ↓kNot_exc, ↓w_eAnd, ↓w_eOr, ↓w_eNot, ↓kNotV_ok, ↓w_eIf, ↓w_aNil, ↓w_aCons, ↓kA1_ok, ↓kA2_ok, ↓kA1_exc, ↓kA2_exc, ↓w_Tup, ↓w_Lst, ↓w_mkT, ↓w_mkL, ↓w_Dct, ↓w_Dct2, ↓w_SoSe, ↓w_Call, ↓w_goS, ↓w_Bi, ↓w_Isi, ↓w_Cut, ↓kC1_ok, ↓kC2_ok, ↓kC3_ok, ↓w_oNone, ↓w_oSome, ↓w_vO, ↓w_Chain, ↓kCh1_ok, ↓kCh2_ok, ↓kCh3_ok, ↓w_chA, ↓w_App, ↓w_Ins, ↓w_insG, ↓z_nx, ↓z_End, ↓z_Seq, ↓kT_nx, ↓kT_rt, ↓kT_bk, ↓kT_ct, ↓kT_exc, ↓z_If, ↓kIfS_ok, ↓kIfS_exc, ↓z_Ret, ↓kRet_ok, ↓kRet_exc, ↓z_Expr, ↓kNx_ok, ↓kNx_exc, ↓z_Asg, ↓kAs_ok, ↓kAs_exc, ↓z_tgO, t_N, t_T, t_nil, t_cons, t_G, t_gnil, t_gcons, t_bind, ↓z_Par, ↓kPar_ok, ↓z_Raise, ↓z_Break, ↓z_Cont, ↓z_For, ↓kSrc_ok, ↓w_Range, ↓w_rgF, ↓w_SeqI, ↓w_sqT, ↓w_Zip, ↓w_zpT, ↓w_Comp, ↓kCo_ok, ↓w_of, ↓kF_rt, ↓kF_nx, ↓kF_exc, ↓w_add, ↓w_sub, ↓w_pow10, ↓w_neg, ↓w_lt, ↓w_le, ↓w_gt, ↓w_ge, ↓w_ix0, ↓w_ix1, ↓w_ix2, ↓w_ix3, ↓w_eqI, ↓w_eqS, ↓w_eqT2, ↓w_abs, ↓w_lenT, ↓w_lenS, ↓w_max, ↓w_min, ↓w_intT, ↓w_intF, ↓w_isBool, ↓w_isTup, ↓w_tupT, ↓w_listT, ↓w_cutT, ↓brw_t, ↓brw_f, ↓brz_t, ↓brz_f, List.getElem?_cons_zero, List.getElem?_cons_succ, List.set_cons_zero, List.set_cons_succ, List.length_cons, List.length_nil, List.map_cons, List.map_nil, List.replicate, List.cons_append, List.nil_append, small, Nat.reduceAdd, Nat.reduceLeDiff, Nat.reduceEqDiff, Int.cast_ofNat_Int, Int.reduceBEq, BEq.rfl, ↓w_Yes, ↓w_bTru, ↓augF_ok, ↓z_Put, ↓putF_ok, ↓putG_ok, ↓w_isNn, ↓w_isNt, wipeF_nil, wipeF_cons, Int.reduceLE, Int.reduceLT, Int.reduceToNat, Int.reducePow, Int.reduceNeg, Int.reduceSub, Int.reduceAdd, Int.reduceMul, decide_true, decide_false, Bool.not_true, Bool.not_false, Bool.bne_false, Bool.bne_true, ↓w_aStar, ↓w_stT, ↓kSt_ok, ↓w_aDef, ↓kDf_ok, ↓w_Cnt, ↓w_Ext, ↓w_isBB, ↓w_isIB, ↓w_Enum, ↓w_enT, List.length_map]
      exact k
    | [p, q], r, hb, h1, _ =>
      have n : p ≠ q := by have := r.nd; simpa using this
      have i0 : dIx (.tup ([p, q].map dZ)) (.int 0) h = .ok (dZ p) h := rfl
      have i1 : dIx (.tup ([p, q].map dZ)) (.int 1) h = .ok (dZ q) h := rfl
      simp only [↓w_ok, ↓kB_ok, ↓kI_ok, ↓w_K, ↓w_V, ↓w_vR, ↓w_Op, ↓kO1_ok, ↓kO2_ok, ↓w_Un, ↓w_bOf, ↓w_isB, ↓kBl_ok, ↓kBl_exc, ↓kIf_ok, ↓kIf_exc, ↓w_okB, ↓w_okD, ↓w_bAnd, ↓w_bOr, ↓w_bNot, ↓kNot_ok, ↓kNot_exc, ↓w_eAnd, ↓w_eOr, ↓w_eNot, ↓kNotV_ok, ↓w_eIf, ↓w_aNil, ↓w_aCons, ↓kA1_ok, ↓kA2_ok, ↓kA1_exc, ↓kA2_exc, ↓w_Tup, ↓w_Lst, ↓w_mkT, ↓w_mkL, ↓w_Dct, ↓w_Dct2, ↓w_SoSe, ↓w_Call, ↓w_goS, ↓w_Bi, ↓w_Isi, ↓w_Cut, ↓kC1_ok, ↓kC2_ok, ↓kC3_ok, ↓w_oNone, ↓w_oSome, ↓w_vO, ↓w_Chain, ↓kCh1_ok, ↓kCh2_ok, ↓kCh3_ok, ↓w_chA, ↓w_App, ↓w_Ins, ↓w_insG, ↓z_nx, ↓z_End, ↓z_Seq, ↓kT_nx, ↓kT_rt, ↓kT_bk, ↓kT_ct, ↓kT_exc, ↓z_If, ↓kIfS_ok, ↓kIfS_exc, ↓z_Ret, ↓kRet_ok, ↓kRet_exc, ↓z_Expr, ↓kNx_ok, ↓kNx_exc, ↓z_Asg, ↓kAs_ok, ↓kAs_exc, ↓z_tgO, t_N, t_T, t_nil, t_cons, t_G, t_gnil, t_gcons, t_bind, ↓z_Par, ↓kPar_ok, ↓z_Raise, ↓z_Break, ↓z_Cont, ↓z_For, ↓kSrc_ok, ↓w_Range, ↓w_rgF, ↓w_SeqI, ↓w_sqT, ↓w_Zip, ↓w_zpT, ↓w_Comp, ↓kCo_ok, ↓w_of, ↓kF_rt, ↓kF_nx, ↓kF_exc, ↓w_add, ↓w_sub, ↓w_pow10, ↓w_neg, ↓w_lt, ↓w_le, ↓w_gt, ↓w_ge, ↓w_ix0, ↓w_ix1, ↓w_ix2, ↓w_ix3, ↓w_eqI, ↓w_eqS, ↓w_eqT2, ↓w_abs, ↓w_lenT, ↓w_lenS, ↓w_max, ↓w_min, ↓w_intT, ↓w_intF, ↓w_isBool, ↓w_isTup, ↓w_tupT, ↓w_listT, ↓w_cutT, ↓brw_t, ↓brw_f, ↓brz_t, ↓brz_f, List.getElem?_cons_zero, List.getElem?_cons_succ, List.set_cons_zero, List.set_cons_succ, List.length_cons, List.length_nil, List.map_cons, List.map_nil, List.replicate, List.cons_append, List.nil_append, small, Nat.reduceAdd, Nat.reduceLeDiff, Nat.reduceEqDiff, Int.cast_ofNat_Int, Int.reduceBEq, BEq.rfl, ↓w_Yes, ↓w_bTru, ↓augF_ok, ↓z_Put, ↓putF_ok, ↓putG_ok, ↓w_isNn, ↓w_isNt, wipeF_nil, wipeF_cons, Int.reduceLE, Int.reduceLT, Int.reduceToNat, Int.reducePow, Int.reduceNeg, Int.reduceSub, Int.reduceAdd, Int.reduceMul, decide_true, decide_false, Bool.not_true, Bool.not_false, Bool.bne_false, Bool.bne_true, ↓w_aStar, ↓w_stT, ↓kSt_ok, ↓w_aDef, ↓kDf_ok, ↓w_Cnt, ↓w_Ext, ↓w_isBB, ↓w_isIB, ↓w_Enum, ↓w_enT, List.length_map, i0, i1]
      rw [neZ n]
      exact k
    | _ :: _ :: _ :: _, _, _, h1, _ => simp at h1; omega
  · obtain ⟨X, a, b, e, ht⟩ := (r.rg (by omega)).tl
    simp only [↓w_ok, ↓kB_ok, ↓kI_ok, ↓w_K, ↓w_V, ↓w_vR, ↓w_Op, ↓kO1_ok, ↓kO2_ok, ↓w_Un, ↓w_bOf, ↓w_isB, ↓kBl_ok, ↓kBl_exc, ↓kIf_ok, ↓kIf_exc, ↓w_okB, ↓w_okD, ↓w_bAnd, ↓w_bOr, ↓w_bNot, ↓kNot_ok, ↓kNot_exc, ↓w_eAnd, ↓w_eOr, ↓w_eNot, ↓kNotV_ok, ↓w_eIf, ↓w_aNil, ↓w_aCons, ↓kA1_ok, ↓kA2_ok, ↓kA1_exc, ↓kA2_exc, ↓w_Tup, ↓w_Lst, ↓w_mkT, ↓w_mkL, ↓w_Dct, ↓w_Dct2, ↓w_SoSe, ↓w_Call, ↓w_goS, ↓w_Bi, ↓w_Isi, ↓w_Cut, ↓kC1_ok, ↓kC2_ok, ↓kC3_ok, ↓w_oNone, ↓w_oSome, ↓w_vO, ↓w_Chain, ↓kCh1_ok, ↓kCh2_ok, ↓kCh3_ok, ↓w_chA, ↓w_App, ↓w_Ins, ↓w_insG, ↓z_nx, ↓z_End, ↓z_Seq, ↓kT_nx, ↓kT_rt, ↓kT_bk, ↓kT_ct, ↓kT_exc, ↓z_If, ↓kIfS_ok, ↓kIfS_exc, ↓z_Ret, ↓kRet_ok, ↓kRet_exc, ↓z_Expr, ↓kNx_ok, ↓kNx_exc, ↓z_Asg, ↓kAs_ok, ↓kAs_exc, ↓z_tgO, t_N, t_T, t_nil, t_cons, t_G, t_gnil, t_gcons, t_bind, ↓z_Par, ↓kPar_ok, ↓z_Raise, ↓z_Break, ↓z_Cont, ↓z_For, ↓kSrc_ok, ↓w_Range, ↓w_rgF, ↓w_SeqI, ↓w_sqT, ↓w_Zip, ↓w_zpT, ↓w_Comp, ↓kCo_ok, ↓w_of, ↓kF_rt, ↓kF_nx, ↓kF_exc, ↓w_add, ↓w_sub, ↓w_pow10, ↓w_neg, ↓w_lt, ↓w_le, ↓w_gt, ↓w_ge, ↓w_ix0, ↓w_ix1, ↓w_ix2, ↓w_ix3, ↓w_eqI, ↓w_eqS, ↓w_eqT2, ↓w_abs, ↓w_lenT, ↓w_lenS, ↓w_max, ↓w_min, ↓w_intT, ↓w_intF, ↓w_isBool, ↓w_isTup, ↓w_tupT, ↓w_listT, ↓w_cutT, ↓brw_t, ↓brw_f, ↓brz_t, ↓brz_f, List.getElem?_cons_zero, List.getElem?_cons_succ, List.set_cons_zero, List.set_cons_succ, List.length_cons, List.length_nil, List.map_cons, List.map_nil, List.replicate, List.cons_append, List.nil_append, small, Nat.reduceAdd, Nat.reduceLeDiff, Nat.reduceEqDiff, Int.cast_ofNat_Int, Int.reduceBEq, BEq.rfl, ↓w_Yes, ↓w_bTru, ↓augF_ok, ↓z_Put, ↓putF_ok, ↓putG_ok, ↓w_isNn, ↓w_isNt, wipeF_nil, wipeF_cons, Int.reduceLE, Int.reduceLT, Int.reduceToNat, Int.reducePow, Int.reduceNeg, Int.reduceSub, Int.reduceAdd, Int.reduceMul, decide_true, decide_false, Bool.not_true, Bool.not_false, Bool.bne_false, Bool.bne_true, ↓w_aStar, ↓w_stT, ↓kSt_ok, ↓w_aDef, ↓kDf_ok, ↓w_Cnt, ↓w_Ext, ↓w_isBB, ↓w_isIB, ↓w_Enum, ↓w_enT]
    refine turnsL_w e l8 hb ?_
    rw [ht]
    simp only [↓w_ok, ↓kB_ok, ↓kI_ok, ↓w_K, ↓w_V, ↓w_vR, ↓w_Op, ↓kO1_ok, ↓kO2_ok, ↓w_Un, ↓w_bOf, ↓w_isB, ↓kBl_ok, ↓kBl_exc, ↓kIf_ok, ↓kIf_exc, ↓w_okB, ↓w_okD, ↓w_bAnd, ↓w_bOr, ↓w_bNot, ↓kNot_ok, ↓kNot_exc, ↓w_eAnd, ↓w_eOr, ↓w_eNot, ↓kNotV_ok, ↓w_eIf, ↓w_aNil, ↓w_aCons, ↓kA1_ok, ↓kA2_ok, ↓kA1_exc, ↓kA2_exc, ↓w_Tup, ↓w_Lst, ↓w_mkT, ↓w_mkL, ↓w_Dct, ↓w_Dct2, ↓w_SoSe, ↓w_Call, ↓w_goS, ↓w_Bi, ↓w_Isi, ↓w_Cut, ↓kC1_ok, ↓kC2_ok, ↓kC3_ok, ↓w_oNone, ↓w_oSome, ↓w_vO, ↓w_Chain, ↓kCh1_ok, ↓kCh2_ok, ↓kCh3_ok, ↓w_chA, ↓w_App, ↓w_Ins, ↓w_insG, ↓z_nx, ↓z_End, ↓z_Seq, ↓kT_nx, ↓kT_rt, ↓kT_bk, ↓kT_ct, ↓kT_exc, ↓z_If, ↓kIfS_ok, ↓kIfS_exc, ↓z_Ret, ↓kRet_ok, ↓kRet_exc, ↓z_Expr, ↓kNx_ok, ↓kNx_exc, ↓z_Asg, ↓kAs_ok, ↓kAs_exc, ↓z_tgO, t_N, t_T, t_nil, t_cons, t_G, t_gnil, t_gcons, t_bind, ↓z_Par, ↓kPar_ok, ↓z_Raise, ↓z_Break, ↓z_Cont, ↓z_For, ↓kSrc_ok, ↓w_Range, ↓w_rgF, ↓w_SeqI, ↓w_sqT, ↓w_Zip, ↓w_zpT, ↓w_Comp, ↓kCo_ok, ↓w_of, ↓kF_rt, ↓kF_nx, ↓kF_exc, ↓w_add, ↓w_sub, ↓w_pow10, ↓w_neg, ↓w_lt, ↓w_le, ↓w_gt, ↓w_ge, ↓w_ix0, ↓w_ix1, ↓w_ix2, ↓w_ix3, ↓w_eqI, ↓w_eqS, ↓w_eqT2, ↓w_abs, ↓w_lenT, ↓w_lenS, ↓w_max, ↓w_min, ↓w_intT, ↓w_intF, ↓w_isBool, ↓w_isTup, ↓w_tupT, ↓w_listT, ↓w_cutT, ↓brw_t, ↓brw_f, ↓brz_t, ↓brz_f, List.getElem?_cons_zero, List.getElem?_cons_succ, List.set_cons_zero, List.set_cons_succ, List.length_cons, List.length_nil, List.map_cons, List.map_nil, List.replicate, List.cons_append, List.nil_append, small, Nat.reduceAdd, Nat.reduceLeDiff, Nat.reduceEqDiff, Int.cast_ofNat_Int, Int.reduceBEq, BEq.rfl, ↓w_Yes, ↓w_bTru, ↓augF_ok, ↓z_Put, ↓putF_ok, ↓putG_ok, ↓w_isNn, ↓w_isNt, wipeF_nil, wipeF_cons, Int.reduceLE, Int.reduceLT, Int.reduceToNat, Int.reducePow, Int.reduceNeg, Int.reduceSub, Int.reduceAdd, Int.reduceMul, decide_true, decide_false, Bool.not_true, Bool.not_false, Bool.bne_false, Bool.bne_true, ↓w_aStar, ↓w_stT, ↓kSt_ok, ↓w_aDef, ↓kDf_ok, ↓w_Cnt, ↓w_Ext, ↓w_isBB, ↓w_isIB, ↓w_Enum, ↓w_enT]
    exact k
end
end MI
end
section
set_option Elab.async false
set_option linter.all false
set_option autoImplicit false
set_option maxRecDepth 100000
set_option exponentiation.threshold 20000
set_option maxHeartbeats 4000000
open PySem L2
namespace MI
section
variable {h : Hq} {Φ : Rs D → Prop}
theorem In9.sub {u v : Int} (a1 : -1000000000 ≤ u) (a2 : u ≤ 1000000000) (a3 : -1000000000 ≤ v) (a4 : v ≤ 1000000000) : Bd 40 (u - v) := by
  refine Bd.of ?_ ?_ <;> omega
theorem cross_w {p q z : Zp} (ip : In9 p) (iq : In9 q) (iz : In9 z) (k : Φ (.ok (.int (crs p q z)) h)) : W (S__law_cross [dZ p, dZ q, dZ z] h) Φ := by
  obtain ⟨p1, p2, p3, p4⟩ := ip
  obtain ⟨q1, q2, q3, q4⟩ := iq
  obtain ⟨z1, z2, z3, z4⟩ := iz
  have m1 := Bd.mk (In9.sub q1 q2 p1 p2) (In9.sub z3 z4 p3 p4)
  have m2 := Bd.mk (In9.sub q3 q4 p3 p4) (In9.sub z1 z2 p1 p2)
  have i0 : ∀ (q : Zp) (h : Hq), dIx (dZ q) (.int 0) h = .ok (.int q.1) h := fun _ _ => rfl
  have i1 : ∀ (q : Zp) (h : Hq), dIx (dZ q) (.int 1) h = .ok (.int q.2) h := fun _ _ => rfl
  unfold S__law_cross
  simp only [↓w_ok, ↓kB_ok, ↓kI_ok, ↓w_K, ↓w_V, ↓w_vR, ↓w_Op, ↓kO1_ok, ↓kO2_ok, ↓w_Un, ↓w_bOf, ↓w_isB, ↓kBl_ok, ↓kBl_exc, ↓kIf_ok, ↓kIf_exc, ↓w_okB, ↓w_okD, ↓w_bAnd, ↓w_bOr, ↓w_bNot, ↓kNot_ok, ↓kNot_exc, ↓w_eAnd, ↓w_eOr, ↓w_eNot, ↓kNotV_ok, ↓w_eIf, ↓w_aNil, ↓w_aCons, ↓kA1_ok, ↓kA2_ok, ↓kA1_exc, ↓kA2_exc, ↓w_Tup, ↓w_Lst, ↓w_mkT, ↓w_mkL, ↓w_Dct, ↓w_Dct2, ↓w_SoSe, ↓w_Call, ↓w_goS, ↓w_Bi, ↓w_Isi, ↓w_Cut, ↓kC1_ok, ↓kC2_ok, ↓kC3_ok, ↓w_oNone, ↓w_oSome, ↓w_vO, ↓w_Chain, ↓kCh1_ok, ↓kCh2_ok, ↓kCh3_ok, ↓w_chA, ↓w_App, ↓w_Ins, ↓w_insG, ↓z_nx, ↓z_End, ↓z_Seq, ↓kT_nx, ↓kT_rt, ↓kT_bk, ↓kT_ct, ↓kT_exc, ↓z_If, ↓kIfS_ok, ↓kIfS_exc, ↓z_Ret, ↓kRet_ok, ↓kRet_exc, ↓z_Expr, ↓kNx_ok, ↓kNx_exc, ↓z_Asg, ↓kAs_ok, ↓kAs_exc, ↓z_tgO, t_N, t_T, t_nil, t_cons, t_G, t_gnil, t_gcons, t_bind, ↓z_Par, ↓kPar_ok, ↓z_Raise, ↓z_Break, ↓z_Cont, ↓z_For, ↓kSrc_ok, ↓w_Range, ↓w_rgF, ↓w_SeqI, ↓w_sqT, ↓w_Zip, ↓w_zpT, ↓w_Comp, ↓kCo_ok, ↓w_of, ↓kF_rt, ↓kF_nx, ↓kF_exc, ↓w_add, ↓w_sub, ↓w_pow10, ↓w_neg, ↓w_lt, ↓w_le, ↓w_gt, ↓w_ge, ↓w_ix0, ↓w_ix1, ↓w_ix2, ↓w_ix3, ↓w_eqI, ↓w_eqS, ↓w_eqT2, ↓w_abs, ↓w_lenT, ↓w_lenS, ↓w_max, ↓w_min, ↓w_intT, ↓w_intF, ↓w_isBool, ↓w_isTup, ↓w_tupT, ↓w_listT, ↓w_cutT, ↓brw_t, ↓brw_f, ↓brz_t, ↓brz_f, List.getElem?_cons_zero, List.getElem?_cons_succ, List.set_cons_zero, List.set_cons_succ, List.length_cons, List.length_nil, List.map_cons, List.map_nil, List.replicate, List.cons_append, List.nil_append, small, Nat.reduceAdd, Nat.reduceLeDiff, Nat.reduceEqDiff, Int.cast_ofNat_Int, Int.reduceBEq, BEq.rfl, ↓w_Yes, ↓w_bTru, ↓augF_ok, ↓z_Put, ↓putF_ok, ↓putG_ok, ↓w_isNn, ↓w_isNt, wipeF_nil, wipeF_cons, Int.reduceLE, Int.reduceLT, Int.reduceToNat, Int.reducePow, Int.reduceNeg, Int.reduceSub, Int.reduceAdd, Int.reduceMul, decide_true, decide_false, Bool.not_true, Bool.not_false, Bool.bne_false, Bool.bne_true, ↓w_aStar, ↓w_stT, ↓kSt_ok, ↓w_aDef, ↓kDf_ok, ↓w_Cnt, ↓w_Ext, ↓w_isBB, ↓w_isIB, ↓w_Enum, ↓w_enT, i0, i1, w_mul m1, w_mul m2]
  exact k
theorem popW_suf (p : Zp) : ∀ st : List Zp, popW p st <:+ st
  | [] => by simp [popW]
  | [t] => by simp [popW]
  | t :: s :: r => by
    rw [popW]
    split
    · exact (popW_suf p (s :: r)).trans (List.suffix_cons _ _)
    · exact List.suffix_refl _
theorem half_sub (l : List Zp) : ∀ x ∈ half l, x ∈ l := by
  intro x
  unfold half
  suffices g : ∀ (l st : List Zp), x ∈ l.foldl (fun st p => p :: popW p st) st → x ∈ l ∨ x ∈ st from fun h => (g l [] h).resolve_right (by simp)
  intro l
  induction l with
  | nil => intro st h; exact .inr h
  | cons p l ih =>
    intro st h
    rcases ih _ h with h | h
    · exact .inl (by simp [h])
    · rcases List.mem_cons.1 h with h | h
      · exact .inl (by simp [h])
      · exact .inr ((popW_suf p st).subset h)
end
end MI
end
section
set_option Elab.async false
set_option linter.all false
set_option autoImplicit false
set_option maxRecDepth 100000
set_option exponentiation.threshold 20000
set_option maxHeartbeats 4000000
open PySem L2
namespace MI
section
variable {h : Hq} {Φ : Rs D → Prop}
theorem pop_v {fo : Sx} {fr : Fr} {m : Nat} {l : List D} {d : D} (ef : fo fr h = .ok (.ref m) h) (e : lstAt h m = some (l ++ [d])) : ePop fo fr h = .ok d (h.set m (.lst l)) := by
  unfold ePop
  rw [ef]
  simp [Rs.bind, e]
theorem pop_w {fo : Sx} {fr : Fr} {m : Nat} {l : List D} {d : D} (ef : fo fr h = .ok (.ref m) h) (e : lstAt h m = some (l ++ [d])) : W (ePop fo fr h) Φ = Φ (.ok d (h.set m (.lst l))) := by
  unfold W; rw [pop_v ef e]
theorem half_len (l : List Zp) : (half l).length ≤ l.length := by
  unfold half
  suffices g : ∀ (l st : List Zp), (l.foldl (fun st p => p :: popW p st) st).length ≤ l.length + st.length from by simpa using g l []
  intro l
  induction l with
  | nil => intro st; simp
  | cons p l ih =>
    intro st
    have := ih (p :: popW p st)
    have := (popW_suf p st).length_le
    simp at *; omega
theorem half_w {m : Nat} {l : List Zp} (e : lstAt h m = some (l.map dZ)) (hb : ∀ q ∈ l, In9 q) (hl : l.length ≤ 8) (k : ∀ m1 h1, Gr h h1 → h.length ≤ m1 → lstAt h1 m1 = some ((half l).reverse.map dZ) → Φ (.ok (.ref m1) h1)) : W (S__law_half_hull [.ref m] h) Φ := by
  unfold S__law_half_hull
  simp only [↓w_ok, ↓kB_ok, ↓kI_ok, ↓w_K, ↓w_V, ↓w_vR, ↓w_Op, ↓kO1_ok, ↓kO2_ok, ↓w_Un, ↓w_bOf, ↓w_isB, ↓kBl_ok, ↓kBl_exc, ↓kIf_ok, ↓kIf_exc, ↓w_okB, ↓w_okD, ↓w_bAnd, ↓w_bOr, ↓w_bNot, ↓kNot_ok, ↓kNot_exc, ↓w_eAnd, ↓w_eOr, ↓w_eNot, ↓kNotV_ok, ↓w_eIf, ↓w_aNil, ↓w_aCons, ↓kA1_ok, ↓kA2_ok, ↓kA1_exc, ↓kA2_exc, ↓w_Tup, ↓w_Lst, ↓w_mkT, ↓w_mkL, ↓w_Dct, ↓w_Dct2, ↓w_SoSe, ↓w_Call, ↓w_goS, ↓w_Bi, ↓w_Isi, ↓w_Cut, ↓kC1_ok, ↓kC2_ok, ↓kC3_ok, ↓w_oNone, ↓w_oSome, ↓w_vO, ↓w_Chain, ↓kCh1_ok, ↓kCh2_ok, ↓kCh3_ok, ↓w_chA, ↓w_App, ↓w_Ins, ↓w_insG, ↓z_nx, ↓z_End, ↓z_Seq, ↓kT_nx, ↓kT_rt, ↓kT_bk, ↓kT_ct, ↓kT_exc, ↓z_If, ↓kIfS_ok, ↓kIfS_exc, ↓z_Ret, ↓kRet_ok, ↓kRet_exc, ↓z_Expr, ↓kNx_ok, ↓kNx_exc, ↓z_Asg, ↓kAs_ok, ↓kAs_exc, ↓z_tgO, t_N, t_T, t_nil, t_cons, t_G, t_gnil, t_gcons, t_bind, ↓z_Par, ↓kPar_ok, ↓z_Raise, ↓z_Break, ↓z_Cont, ↓z_For, ↓kSrc_ok, ↓w_Range, ↓w_rgF, ↓w_SeqI, ↓w_sqT, ↓w_Zip, ↓w_zpT, ↓w_Comp, ↓kCo_ok, ↓w_of, ↓kF_rt, ↓kF_nx, ↓kF_exc, ↓w_add, ↓w_sub, ↓w_pow10, ↓w_neg, ↓w_lt, ↓w_le, ↓w_gt, ↓w_ge, ↓w_ix0, ↓w_ix1, ↓w_ix2, ↓w_ix3, ↓w_eqI, ↓w_eqS, ↓w_eqT2, ↓w_abs, ↓w_lenT, ↓w_lenS, ↓w_max, ↓w_min, ↓w_intT, ↓w_intF, ↓w_isBool, ↓w_isTup, ↓w_tupT, ↓w_listT, ↓w_cutT, ↓brw_t, ↓brw_f, ↓brz_t, ↓brz_f, List.getElem?_cons_zero, List.getElem?_cons_succ, List.set_cons_zero, List.set_cons_succ, List.length_cons, List.length_nil, List.map_cons, List.map_nil, List.replicate, List.cons_append, List.nil_append, small, Nat.reduceAdd, Nat.reduceLeDiff, Nat.reduceEqDiff, Int.cast_ofNat_Int, Int.reduceBEq, BEq.rfl, ↓w_Yes, ↓w_bTru, ↓augF_ok, ↓z_Put, ↓putF_ok, ↓putG_ok, ↓w_isNn, ↓w_isNt, wipeF_nil, wipeF_cons, Int.reduceLE, Int.reduceLT, Int.reduceToNat, Int.reducePow, Int.reduceNeg, Int.reduceSub, Int.reduceAdd, Int.reduceMul, decide_true, decide_false, Bool.not_true, Bool.not_false, Bool.bne_false, Bool.bne_true, ↓w_aStar, ↓w_stT, ↓kSt_ok, ↓w_aDef, ↓kDf_ok, ↓w_Cnt, ↓w_Ext, ↓w_isBB, ↓w_isIB, ↓w_Enum, ↓w_enT]
  refine seqI_w (Gr.app h [.lst []]) (.lst _ _ e) fun S so => ?_
  simp only [↓w_ok, ↓kB_ok, ↓kI_ok, ↓w_K, ↓w_V, ↓w_vR, ↓w_Op, ↓kO1_ok, ↓kO2_ok, ↓w_Un, ↓w_bOf, ↓w_isB, ↓kBl_ok, ↓kBl_exc, ↓kIf_ok, ↓kIf_exc, ↓w_okB, ↓w_okD, ↓w_bAnd, ↓w_bOr, ↓w_bNot, ↓kNot_ok, ↓kNot_exc, ↓w_eAnd, ↓w_eOr, ↓w_eNot, ↓kNotV_ok, ↓w_eIf, ↓w_aNil, ↓w_aCons, ↓kA1_ok, ↓kA2_ok, ↓kA1_exc, ↓kA2_exc, ↓w_Tup, ↓w_Lst, ↓w_mkT, ↓w_mkL, ↓w_Dct, ↓w_Dct2, ↓w_SoSe, ↓w_Call, ↓w_goS, ↓w_Bi, ↓w_Isi, ↓w_Cut, ↓kC1_ok, ↓kC2_ok, ↓kC3_ok, ↓w_oNone, ↓w_oSome, ↓w_vO, ↓w_Chain, ↓kCh1_ok, ↓kCh2_ok, ↓kCh3_ok, ↓w_chA, ↓w_App, ↓w_Ins, ↓w_insG, ↓z_nx, ↓z_End, ↓z_Seq, ↓kT_nx, ↓kT_rt, ↓kT_bk, ↓kT_ct, ↓kT_exc, ↓z_If, ↓kIfS_ok, ↓kIfS_exc, ↓z_Ret, ↓kRet_ok, ↓kRet_exc, ↓z_Expr, ↓kNx_ok, ↓kNx_exc, ↓z_Asg, ↓kAs_ok, ↓kAs_exc, ↓z_tgO, t_N, t_T, t_nil, t_cons, t_G, t_gnil, t_gcons, t_bind, ↓z_Par, ↓kPar_ok, ↓z_Raise, ↓z_Break, ↓z_Cont, ↓z_For, ↓kSrc_ok, ↓w_Range, ↓w_rgF, ↓w_SeqI, ↓w_sqT, ↓w_Zip, ↓w_zpT, ↓w_Comp, ↓kCo_ok, ↓w_of, ↓kF_rt, ↓kF_nx, ↓kF_exc, ↓w_add, ↓w_sub, ↓w_pow10, ↓w_neg, ↓w_lt, ↓w_le, ↓w_gt, ↓w_ge, ↓w_ix0, ↓w_ix1, ↓w_ix2, ↓w_ix3, ↓w_eqI, ↓w_eqS, ↓w_eqT2, ↓w_abs, ↓w_lenT, ↓w_lenS, ↓w_max, ↓w_min, ↓w_intT, ↓w_intF, ↓w_isBool, ↓w_isTup, ↓w_tupT, ↓w_listT, ↓w_cutT, ↓brw_t, ↓brw_f, ↓brz_t, ↓brz_f, List.getElem?_cons_zero, List.getElem?_cons_succ, List.set_cons_zero, List.set_cons_succ, List.length_cons, List.length_nil, List.map_cons, List.map_nil, List.replicate, List.cons_append, List.nil_append, small, Nat.reduceAdd, Nat.reduceLeDiff, Nat.reduceEqDiff, Int.cast_ofNat_Int, Int.reduceBEq, BEq.rfl, ↓w_Yes, ↓w_bTru, ↓augF_ok, ↓z_Put, ↓putF_ok, ↓putG_ok, ↓w_isNn, ↓w_isNt, wipeF_nil, wipeF_cons, Int.reduceLE, Int.reduceLT, Int.reduceToNat, Int.reducePow, Int.reduceNeg, Int.reduceSub, Int.reduceAdd, Int.reduceMul, decide_true, decide_false, Bool.not_true, Bool.not_false, Bool.bne_false, Bool.bne_true, ↓w_aStar, ↓w_stT, ↓kSt_ok, ↓w_aDef, ↓kDf_ok, ↓w_Cnt, ↓w_Ext, ↓w_isBB, ↓w_isIB, ↓w_Enum, ↓w_enT]
  rw [so.n, List.length_map]
  refine turns_w (n := l.length) (I := fun i fr h' => ∃ (x : Option D), h' = h ++ [.lst ((half (l.take i)).reverse.map dZ)] ∧ fr = [some (.ref m), some (.ref h.length), x]) ?_ ?_ l.length 0 _ _ (by omega) ⟨none, by simp [half], rfl⟩
  · rintro i fr h' hi ⟨x, rfl, rfl⟩
    have gr : Gr h (h ++ [.lst ((half (l.take i)).reverse.map dZ)]) := ⟨_, rfl⟩
    have hg : S.get i (h ++ [.lst ((half (l.take i)).reverse.map dZ)]) = some (dZ l[i]) := by
      rw [so.get i _ gr, List.getElem?_map, List.getElem?_eq_getElem hi]; rfl
    have tk : l.take (i + 1) = l.take i ++ [l[i]] := by rw [List.take_succ, List.getElem?_eq_getElem hi]; rfl
    have iz := hb _ (List.getElem_mem hi)
    rw [tk, half_snoc]
    refine ⟨_, _, hg, rfl, ?_⟩
    generalize l[i] = z at *
    have sb : ∀ q ∈ half (l.take i), In9 q := fun q hq => hb q (List.mem_of_mem_take (half_sub _ q hq))
    have sl : (half (l.take i)).length ≤ 8 := by
      have := half_len (l.take i)
      simp at this
      omega
    generalize half (l.take i) = st0 at *
    simp only [↓w_ok, ↓kB_ok, ↓kI_ok, ↓w_K, ↓w_V, ↓w_vR, ↓w_Op, ↓kO1_ok, ↓kO2_ok, ↓w_Un, ↓w_bOf, ↓w_isB, ↓kBl_ok, ↓kBl_exc, ↓kIf_ok, ↓kIf_exc, ↓w_okB, ↓w_okD, ↓w_bAnd, ↓w_bOr, ↓w_bNot, ↓kNot_ok, ↓kNot_exc, ↓w_eAnd, ↓w_eOr, ↓w_eNot, ↓kNotV_ok, ↓w_eIf, ↓w_aNil, ↓w_aCons, ↓kA1_ok, ↓kA2_ok, ↓kA1_exc, ↓kA2_exc, ↓w_Tup, ↓w_Lst, ↓w_mkT, ↓w_mkL, ↓w_Dct, ↓w_Dct2, ↓w_SoSe, ↓w_Call, ↓w_goS, ↓w_Bi, ↓w_Isi, ↓w_Cut, ↓kC1_ok, ↓kC2_ok, ↓kC3_ok, ↓w_oNone, ↓w_oSome, ↓w_vO, ↓w_Chain, ↓kCh1_ok, ↓kCh2_ok, ↓kCh3_ok, ↓w_chA, ↓w_App, ↓w_Ins, ↓w_insG, ↓z_nx, ↓z_End, ↓z_Seq, ↓kT_nx, ↓kT_rt, ↓kT_bk, ↓kT_ct, ↓kT_exc, ↓z_If, ↓kIfS_ok, ↓kIfS_exc, ↓z_Ret, ↓kRet_ok, ↓kRet_exc, ↓z_Expr, ↓kNx_ok, ↓kNx_exc, ↓z_Asg, ↓kAs_ok, ↓kAs_exc, ↓z_tgO, t_N, t_T, t_nil, t_cons, t_G, t_gnil, t_gcons, t_bind, ↓z_Par, ↓kPar_ok, ↓z_Raise, ↓z_Break, ↓z_Cont, ↓z_For, ↓kSrc_ok, ↓w_Range, ↓w_rgF, ↓w_SeqI, ↓w_sqT, ↓w_Zip, ↓w_zpT, ↓w_Comp, ↓kCo_ok, ↓w_of, ↓kF_rt, ↓kF_nx, ↓kF_exc, ↓w_add, ↓w_sub, ↓w_pow10, ↓w_neg, ↓w_lt, ↓w_le, ↓w_gt, ↓w_ge, ↓w_ix0, ↓w_ix1, ↓w_ix2, ↓w_ix3, ↓w_eqI, ↓w_eqS, ↓w_eqT2, ↓w_abs, ↓w_lenT, ↓w_lenS, ↓w_max, ↓w_min, ↓w_intT, ↓w_intF, ↓w_isBool, ↓w_isTup, ↓w_tupT, ↓w_listT, ↓w_cutT, ↓brw_t, ↓brw_f, ↓brz_t, ↓brz_f, List.getElem?_cons_zero, List.getElem?_cons_succ, List.set_cons_zero, List.set_cons_succ, List.length_cons, List.length_nil, List.map_cons, List.map_nil, List.replicate, List.cons_append, List.nil_append, small, Nat.reduceAdd, Nat.reduceLeDiff, Nat.reduceEqDiff, Int.cast_ofNat_Int, Int.reduceBEq, BEq.rfl, ↓w_Yes, ↓w_bTru, ↓augF_ok, ↓z_Put, ↓putF_ok, ↓putG_ok, ↓w_isNn, ↓w_isNt, wipeF_nil, wipeF_cons, Int.reduceLE, Int.reduceLT, Int.reduceToNat, Int.reducePow, Int.reduceNeg, Int.reduceSub, Int.reduceAdd, Int.reduceMul, decide_true, decide_false, Bool.not_true, Bool.not_false, Bool.bne_false, Bool.bne_true, ↓w_aStar, ↓w_stT, ↓kSt_ok, ↓w_aDef, ↓kDf_ok, ↓w_Cnt, ↓w_Ext, ↓w_isBB, ↓w_isIB, ↓w_Enum, ↓w_enT]
    refine while_w (I := fun d fr h' => ∃ st : List Zp, d = st.length ∧ st <:+ st0 ∧ popW z st = popW z st0 ∧ h' = h ++ [.lst (st.reverse.map dZ)] ∧ fr = [some (.ref m), some (.ref h.length), some (dZ z)]) ?_ (m := st0.length) ⟨st0, rfl, List.suffix_refl _, rfl, rfl, rfl⟩
    rintro d fr h3 ⟨st, rfl, su, ep, rfl, rfl⟩
    have ls := lst_new h (st.reverse.map dZ)
    -- behind the loop: the point is put on
    have put : popW z st = st → ∀ Ψ, Ψ = (kT (sSeq (sExpr (eApp (eV 1) (eV 2))) sEnd) (kLoop (fun fr h' => ∃ x : Option D, h' = h ++ [Cell.lst (List.map dZ (z :: popW z st0).reverse)] ∧ fr = [some (.ref m), some (.ref h.length), x]) (kT (sSeq (sRet (eV 1)) sEnd) (kF Φ)))) → Ψ (.nx [some (.ref m), some (.ref h.length), some (dZ z)] (h ++ [.lst (st.reverse.map dZ)])) := by
      intro e0 Ψ eΨ
      subst eΨ
      have ln : (st.reverse.map dZ).length ≤ 8 := by
        have := su.length_le
        simp
        omega
      simp only [↓w_ok, ↓kB_ok, ↓kI_ok, ↓w_K, ↓w_V, ↓w_vR, ↓w_Op, ↓kO1_ok, ↓kO2_ok, ↓w_Un, ↓w_bOf, ↓w_isB, ↓kBl_ok, ↓kBl_exc, ↓kIf_ok, ↓kIf_exc, ↓w_okB, ↓w_okD, ↓w_bAnd, ↓w_bOr, ↓w_bNot, ↓kNot_ok, ↓kNot_exc, ↓w_eAnd, ↓w_eOr, ↓w_eNot, ↓kNotV_ok, ↓w_eIf, ↓w_aNil, ↓w_aCons, ↓kA1_ok, ↓kA2_ok, ↓kA1_exc, ↓kA2_exc, ↓w_Tup, ↓w_Lst, ↓w_mkT, ↓w_mkL, ↓w_Dct, ↓w_Dct2, ↓w_SoSe, ↓w_Call, ↓w_goS, ↓w_Bi, ↓w_Isi, ↓w_Cut, ↓kC1_ok, ↓kC2_ok, ↓kC3_ok, ↓w_oNone, ↓w_oSome, ↓w_vO, ↓w_Chain, ↓kCh1_ok, ↓kCh2_ok, ↓kCh3_ok, ↓w_chA, ↓w_App, ↓w_Ins, ↓w_insG, ↓z_nx, ↓z_End, ↓z_Seq, ↓kT_nx, ↓kT_rt, ↓kT_bk, ↓kT_ct, ↓kT_exc, ↓z_If, ↓kIfS_ok, ↓kIfS_exc, ↓z_Ret, ↓kRet_ok, ↓kRet_exc, ↓z_Expr, ↓kNx_ok, ↓kNx_exc, ↓z_Asg, ↓kAs_ok, ↓kAs_exc, ↓z_tgO, t_N, t_T, t_nil, t_cons, t_G, t_gnil, t_gcons, t_bind, ↓z_Par, ↓kPar_ok, ↓z_Raise, ↓z_Break, ↓z_Cont, ↓z_For, ↓kSrc_ok, ↓w_Range, ↓w_rgF, ↓w_SeqI, ↓w_sqT, ↓w_Zip, ↓w_zpT, ↓w_Comp, ↓kCo_ok, ↓w_of, ↓kF_rt, ↓kF_nx, ↓kF_exc, ↓w_add, ↓w_sub, ↓w_pow10, ↓w_neg, ↓w_lt, ↓w_le, ↓w_gt, ↓w_ge, ↓w_ix0, ↓w_ix1, ↓w_ix2, ↓w_ix3, ↓w_eqI, ↓w_eqS, ↓w_eqT2, ↓w_abs, ↓w_lenT, ↓w_lenS, ↓w_max, ↓w_min, ↓w_intT, ↓w_intF, ↓w_isBool, ↓w_isTup, ↓w_tupT, ↓w_listT, ↓w_cutT, ↓brw_t, ↓brw_f, ↓brz_t, ↓brz_f, List.getElem?_cons_zero, List.getElem?_cons_succ, List.set_cons_zero, List.set_cons_succ, List.length_cons, List.length_nil, List.map_cons, List.map_nil, List.replicate, List.cons_append, List.nil_append, small, Nat.reduceAdd, Nat.reduceLeDiff, Nat.reduceEqDiff, Int.cast_ofNat_Int, Int.reduceBEq, BEq.rfl, ↓w_Yes, ↓w_bTru, ↓augF_ok, ↓z_Put, ↓putF_ok, ↓putG_ok, ↓w_isNn, ↓w_isNt, wipeF_nil, wipeF_cons, Int.reduceLE, Int.reduceLT, Int.reduceToNat, Int.reducePow, Int.reduceNeg, Int.reduceSub, Int.reduceAdd, Int.reduceMul, decide_true, decide_false, Bool.not_true, Bool.not_false, Bool.bne_false, Bool.bne_true, ↓w_aStar, ↓w_stT, ↓kSt_ok, ↓w_aDef, ↓kDf_ok, ↓w_Cnt, ↓w_Ext, ↓w_isBB, ↓w_isIB, ↓w_Enum, ↓w_enT, w_apF ls, w_apG ls (show small ((st.reverse.map dZ).length + 1) = true from decide_eq_true (by omega))]
      refine ⟨_, ?_, rfl⟩
      rw [← ep, e0]
      simp
    have ln0 : st.length = (st.reverse.map dZ).length := by simp
    simp only [↓w_ok, ↓kB_ok, ↓kI_ok, ↓w_K, ↓w_V, ↓w_vR, ↓w_Op, ↓kO1_ok, ↓kO2_ok, ↓w_Un, ↓w_bOf, ↓w_isB, ↓kBl_ok, ↓kBl_exc, ↓kIf_ok, ↓kIf_exc, ↓w_okB, ↓w_okD, ↓w_bAnd, ↓w_bOr, ↓w_bNot, ↓kNot_ok, ↓kNot_exc, ↓w_eAnd, ↓w_eOr, ↓w_eNot, ↓kNotV_ok, ↓w_eIf, ↓w_aNil, ↓w_aCons, ↓kA1_ok, ↓kA2_ok, ↓kA1_exc, ↓kA2_exc, ↓w_Tup, ↓w_Lst, ↓w_mkT, ↓w_mkL, ↓w_Dct, ↓w_Dct2, ↓w_SoSe, ↓w_Call, ↓w_goS, ↓w_Bi, ↓w_Isi, ↓w_Cut, ↓kC1_ok, ↓kC2_ok, ↓kC3_ok, ↓w_oNone, ↓w_oSome, ↓w_vO, ↓w_Chain, ↓kCh1_ok, ↓kCh2_ok, ↓kCh3_ok, ↓w_chA, ↓w_App, ↓w_Ins, ↓w_insG, ↓z_nx, ↓z_End, ↓z_Seq, ↓kT_nx, ↓kT_rt, ↓kT_bk, ↓kT_ct, ↓kT_exc, ↓z_If, ↓kIfS_ok, ↓kIfS_exc, ↓z_Ret, ↓kRet_ok, ↓kRet_exc, ↓z_Expr, ↓kNx_ok, ↓kNx_exc, ↓z_Asg, ↓kAs_ok, ↓kAs_exc, ↓z_tgO, t_N, t_T, t_nil, t_cons, t_G, t_gnil, t_gcons, t_bind, ↓z_Par, ↓kPar_ok, ↓z_Raise, ↓z_Break, ↓z_Cont, ↓z_For, ↓kSrc_ok, ↓w_Range, ↓w_rgF, ↓w_SeqI, ↓w_sqT, ↓w_Zip, ↓w_zpT, ↓w_Comp, ↓kCo_ok, ↓w_of, ↓kF_rt, ↓kF_nx, ↓kF_exc, ↓w_add, ↓w_sub, ↓w_pow10, ↓w_neg, ↓w_lt, ↓w_le, ↓w_gt, ↓w_ge, ↓w_ix0, ↓w_ix1, ↓w_ix2, ↓w_ix3, ↓w_eqI, ↓w_eqS, ↓w_eqT2, ↓w_abs, ↓w_lenT, ↓w_lenS, ↓w_max, ↓w_min, ↓w_intT, ↓w_intF, ↓w_isBool, ↓w_isTup, ↓w_tupT, ↓w_listT, ↓w_cutT, ↓brw_t, ↓brw_f, ↓brz_t, ↓brz_f, List.getElem?_cons_zero, List.getElem?_cons_succ, List.set_cons_zero, List.set_cons_succ, List.length_cons, List.length_nil, List.map_cons, List.map_nil, List.replicate, List.cons_append, List.nil_append, small, Nat.reduceAdd, Nat.reduceLeDiff, Nat.reduceEqDiff, Int.cast_ofNat_Int, Int.reduceBEq, BEq.rfl, ↓w_Yes, ↓w_bTru, ↓augF_ok, ↓z_Put, ↓putF_ok, ↓putG_ok, ↓w_isNn, ↓w_isNt, wipeF_nil, wipeF_cons, Int.reduceLE, Int.reduceLT, Int.reduceToNat, Int.reducePow, Int.reduceNeg, Int.reduceSub, Int.reduceAdd, Int.reduceMul, decide_true, decide_false, Bool.not_true, Bool.not_false, Bool.bne_false, Bool.bne_true, ↓w_aStar, ↓w_stT, ↓kSt_ok, ↓w_aDef, ↓kDf_ok, ↓w_Cnt, ↓w_Ext, ↓w_isBB, ↓w_isIB, ↓w_Enum, ↓w_enT, w_lenL ls]
    refine brw (fun h1 => ?_) fun h1 => ?_
    · have h1' := of_decide_eq_true h1
      match st, su, ep, ls, put, h1', ln0 with
      | [], _, _, _, _, h1', _ => simp at h1'
      | [t], _, _, _, _, h1', _ => simp at h1'
      | t :: s :: r, su, ep, ls, put, _, _ =>
        have it : In9 t := sb t (su.subset (by simp))
        have is_ : In9 s := sb s (su.subset (by simp))
        have z2 : atI ((t :: s :: r).reverse.map dZ) (-2) = some (dZ s) := by
          simp [atI, ixN]
          rw [show (-2 + ((r.length : Int) + 2)).toNat = r.length by omega]
          rw [if_pos (by omega)]
          show ((List.map dZ r).reverse ++ [dZ s, dZ t])[r.length]? = _
          rw [List.getElem?_append_right (by simp)]; simp
        have z1 : atI ((t :: s :: r).reverse.map dZ) (-1) = some (dZ t) := by
          simp [atI, ixN]
          rw [show (-1 + ((r.length : Int) + 2)).toNat = r.length + 1 by omega]
          rw [if_pos (by omega)]
          show ((List.map dZ r).reverse ++ [dZ s, dZ t])[r.length + 1]? = _
          rw [List.getElem?_append_right (by simp)]; simp
        simp only [↓w_ok, ↓kB_ok, ↓kI_ok, ↓w_K, ↓w_V, ↓w_vR, ↓w_Op, ↓kO1_ok, ↓kO2_ok, ↓w_Un, ↓w_bOf, ↓w_isB, ↓kBl_ok, ↓kBl_exc, ↓kIf_ok, ↓kIf_exc, ↓w_okB, ↓w_okD, ↓w_bAnd, ↓w_bOr, ↓w_bNot, ↓kNot_ok, ↓kNot_exc, ↓w_eAnd, ↓w_eOr, ↓w_eNot, ↓kNotV_ok, ↓w_eIf, ↓w_aNil, ↓w_aCons, ↓kA1_ok, ↓kA2_ok, ↓kA1_exc, ↓kA2_exc, ↓w_Tup, ↓w_Lst, ↓w_mkT, ↓w_mkL, ↓w_Dct, ↓w_Dct2, ↓w_SoSe, ↓w_Call, ↓w_goS, ↓w_Bi, ↓w_Isi, ↓w_Cut, ↓kC1_ok, ↓kC2_ok, ↓kC3_ok, ↓w_oNone, ↓w_oSome, ↓w_vO, ↓w_Chain, ↓kCh1_ok, ↓kCh2_ok, ↓kCh3_ok, ↓w_chA, ↓w_App, ↓w_Ins, ↓w_insG, ↓z_nx, ↓z_End, ↓z_Seq, ↓kT_nx, ↓kT_rt, ↓kT_bk, ↓kT_ct, ↓kT_exc, ↓z_If, ↓kIfS_ok, ↓kIfS_exc, ↓z_Ret, ↓kRet_ok, ↓kRet_exc, ↓z_Expr, ↓kNx_ok, ↓kNx_exc, ↓z_Asg, ↓kAs_ok, ↓kAs_exc, ↓z_tgO, t_N, t_T, t_nil, t_cons, t_G, t_gnil, t_gcons, t_bind, ↓z_Par, ↓kPar_ok, ↓z_Raise, ↓z_Break, ↓z_Cont, ↓z_For, ↓kSrc_ok, ↓w_Range, ↓w_rgF, ↓w_SeqI, ↓w_sqT, ↓w_Zip, ↓w_zpT, ↓w_Comp, ↓kCo_ok, ↓w_of, ↓kF_rt, ↓kF_nx, ↓kF_exc, ↓w_add, ↓w_sub, ↓w_pow10, ↓w_neg, ↓w_lt, ↓w_le, ↓w_gt, ↓w_ge, ↓w_ix0, ↓w_ix1, ↓w_ix2, ↓w_ix3, ↓w_eqI, ↓w_eqS, ↓w_eqT2, ↓w_abs, ↓w_lenT, ↓w_lenS, ↓w_max, ↓w_min, ↓w_intT, ↓w_intF, ↓w_isBool, ↓w_isTup, ↓w_tupT, ↓w_listT, ↓w_cutT, ↓brw_t, ↓brw_f, ↓brz_t, ↓brz_f, List.getElem?_cons_zero, List.getElem?_cons_succ, List.set_cons_zero, List.set_cons_succ, List.length_cons, List.length_nil, List.map_cons, List.map_nil, List.replicate, List.cons_append, List.nil_append, small, Nat.reduceAdd, Nat.reduceLeDiff, Nat.reduceEqDiff, Int.cast_ofNat_Int, Int.reduceBEq, BEq.rfl, ↓w_Yes, ↓w_bTru, ↓augF_ok, ↓z_Put, ↓putF_ok, ↓putG_ok, ↓w_isNn, ↓w_isNt, wipeF_nil, wipeF_cons, Int.reduceLE, Int.reduceLT, Int.reduceToNat, Int.reducePow, Int.reduceNeg, Int.reduceSub, Int.reduceAdd, Int.reduceMul, decide_true, decide_false, Bool.not_true, Bool.not_false, Bool.bne_false, Bool.bne_true, ↓w_aStar, ↓w_stT, ↓kSt_ok, ↓w_aDef, ↓kDf_ok, ↓w_Cnt, ↓w_Ext, ↓w_isBB, ↓w_isIB, ↓w_Enum, ↓w_enT, w_ixL ls z2, w_ixL ls z1]
        refine cross_w is_ it iz ?_
        simp only [↓w_ok, ↓kB_ok, ↓kI_ok, ↓w_K, ↓w_V, ↓w_vR, ↓w_Op, ↓kO1_ok, ↓kO2_ok, ↓w_Un, ↓w_bOf, ↓w_isB, ↓kBl_ok, ↓kBl_exc, ↓kIf_ok, ↓kIf_exc, ↓w_okB, ↓w_okD, ↓w_bAnd, ↓w_bOr, ↓w_bNot, ↓kNot_ok, ↓kNot_exc, ↓w_eAnd, ↓w_eOr, ↓w_eNot, ↓kNotV_ok, ↓w_eIf, ↓w_aNil, ↓w_aCons, ↓kA1_ok, ↓kA2_ok, ↓kA1_exc, ↓kA2_exc, ↓w_Tup, ↓w_Lst, ↓w_mkT, ↓w_mkL, ↓w_Dct, ↓w_Dct2, ↓w_SoSe, ↓w_Call, ↓w_goS, ↓w_Bi, ↓w_Isi, ↓w_Cut, ↓kC1_ok, ↓kC2_ok, ↓kC3_ok, ↓w_oNone, ↓w_oSome, ↓w_vO, ↓w_Chain, ↓kCh1_ok, ↓kCh2_ok, ↓kCh3_ok, ↓w_chA, ↓w_App, ↓w_Ins, ↓w_insG, ↓z_nx, ↓z_End, ↓z_Seq, ↓kT_nx, ↓kT_rt, ↓kT_bk, ↓kT_ct, ↓kT_exc, ↓z_If, ↓kIfS_ok, ↓kIfS_exc, ↓z_Ret, ↓kRet_ok, ↓kRet_exc, ↓z_Expr, ↓kNx_ok, ↓kNx_exc, ↓z_Asg, ↓kAs_ok, ↓kAs_exc, ↓z_tgO, t_N, t_T, t_nil, t_cons, t_G, t_gnil, t_gcons, t_bind, ↓z_Par, ↓kPar_ok, ↓z_Raise, ↓z_Break, ↓z_Cont, ↓z_For, ↓kSrc_ok, ↓w_Range, ↓w_rgF, ↓w_SeqI, ↓w_sqT, ↓w_Zip, ↓w_zpT, ↓w_Comp, ↓kCo_ok, ↓w_of, ↓kF_rt, ↓kF_nx, ↓kF_exc, ↓w_add, ↓w_sub, ↓w_pow10, ↓w_neg, ↓w_lt, ↓w_le, ↓w_gt, ↓w_ge, ↓w_ix0, ↓w_ix1, ↓w_ix2, ↓w_ix3, ↓w_eqI, ↓w_eqS, ↓w_eqT2, ↓w_abs, ↓w_lenT, ↓w_lenS, ↓w_max, ↓w_min, ↓w_intT, ↓w_intF, ↓w_isBool, ↓w_isTup, ↓w_tupT, ↓w_listT, ↓w_cutT, ↓brw_t, ↓brw_f, ↓brz_t, ↓brz_f, List.getElem?_cons_zero, List.getElem?_cons_succ, List.set_cons_zero, List.set_cons_succ, List.length_cons, List.length_nil, List.map_cons, List.map_nil, List.replicate, List.cons_append, List.nil_append, small, Nat.reduceAdd, Nat.reduceLeDiff, Nat.reduceEqDiff, Int.cast_ofNat_Int, Int.reduceBEq, BEq.rfl, ↓w_Yes, ↓w_bTru, ↓augF_ok, ↓z_Put, ↓putF_ok, ↓putG_ok, ↓w_isNn, ↓w_isNt, wipeF_nil, wipeF_cons, Int.reduceLE, Int.reduceLT, Int.reduceToNat, Int.reducePow, Int.reduceNeg, Int.reduceSub, Int.reduceAdd, Int.reduceMul, decide_true, decide_false, Bool.not_true, Bool.not_false, Bool.bne_false, Bool.bne_true, ↓w_aStar, ↓w_stT, ↓kSt_ok, ↓w_aDef, ↓kDf_ok, ↓w_Cnt, ↓w_Ext, ↓w_isBB, ↓w_isIB, ↓w_Enum, ↓w_enT]
        refine ⟨fun hc => ?_, fun hc => ?_⟩
        · have hc' := of_decide_eq_true hc
          simp only [↓w_ok, ↓kB_ok, ↓kI_ok, ↓w_K, ↓w_V, ↓w_vR, ↓w_Op, ↓kO1_ok, ↓kO2_ok, ↓w_Un, ↓w_bOf, ↓w_isB, ↓kBl_ok, ↓kBl_exc, ↓kIf_ok, ↓kIf_exc, ↓w_okB, ↓w_okD, ↓w_bAnd, ↓w_bOr, ↓w_bNot, ↓kNot_ok, ↓kNot_exc, ↓w_eAnd, ↓w_eOr, ↓w_eNot, ↓kNotV_ok, ↓w_eIf, ↓w_aNil, ↓w_aCons, ↓kA1_ok, ↓kA2_ok, ↓kA1_exc, ↓kA2_exc, ↓w_Tup, ↓w_Lst, ↓w_mkT, ↓w_mkL, ↓w_Dct, ↓w_Dct2, ↓w_SoSe, ↓w_Call, ↓w_goS, ↓w_Bi, ↓w_Isi, ↓w_Cut, ↓kC1_ok, ↓kC2_ok, ↓kC3_ok, ↓w_oNone, ↓w_oSome, ↓w_vO, ↓w_Chain, ↓kCh1_ok, ↓kCh2_ok, ↓kCh3_ok, ↓w_chA, ↓w_App, ↓w_Ins, ↓w_insG, ↓z_nx, ↓z_End, ↓z_Seq, ↓kT_nx, ↓kT_rt, ↓kT_bk, ↓kT_ct, ↓kT_exc, ↓z_If, ↓kIfS_ok, ↓kIfS_exc, ↓z_Ret, ↓kRet_ok, ↓kRet_exc, ↓z_Expr, ↓kNx_ok, ↓kNx_exc, ↓z_Asg, ↓kAs_ok, ↓kAs_exc, ↓z_tgO, t_N, t_T, t_nil, t_cons, t_G, t_gnil, t_gcons, t_bind, ↓z_Par, ↓kPar_ok, ↓z_Raise, ↓z_Break, ↓z_Cont, ↓z_For, ↓kSrc_ok, ↓w_Range, ↓w_rgF, ↓w_SeqI, ↓w_sqT, ↓w_Zip, ↓w_zpT, ↓w_Comp, ↓kCo_ok, ↓w_of, ↓kF_rt, ↓kF_nx, ↓kF_exc, ↓w_add, ↓w_sub, ↓w_pow10, ↓w_neg, ↓w_lt, ↓w_le, ↓w_gt, ↓w_ge, ↓w_ix0, ↓w_ix1, ↓w_ix2, ↓w_ix3, ↓w_eqI, ↓w_eqS, ↓w_eqT2, ↓w_abs, ↓w_lenT, ↓w_lenS, ↓w_max, ↓w_min, ↓w_intT, ↓w_intF, ↓w_isBool, ↓w_isTup, ↓w_tupT, ↓w_listT, ↓w_cutT, ↓brw_t, ↓brw_f, ↓brz_t, ↓brz_f, List.getElem?_cons_zero, List.getElem?_cons_succ, List.set_cons_zero, List.set_cons_succ, List.length_cons, List.length_nil, List.map_cons, List.map_nil, List.replicate, List.cons_append, List.nil_append, small, Nat.reduceAdd, Nat.reduceLeDiff, Nat.reduceEqDiff, Int.cast_ofNat_Int, Int.reduceBEq, BEq.rfl, ↓w_Yes, ↓w_bTru, ↓augF_ok, ↓z_Put, ↓putF_ok, ↓putG_ok, ↓w_isNn, ↓w_isNt, wipeF_nil, wipeF_cons, Int.reduceLE, Int.reduceLT, Int.reduceToNat, Int.reducePow, Int.reduceNeg, Int.reduceSub, Int.reduceAdd, Int.reduceMul, decide_true, decide_false, Bool.not_true, Bool.not_false, Bool.bne_false, Bool.bne_true, ↓w_aStar, ↓w_stT, ↓kSt_ok, ↓w_aDef, ↓kDf_ok, ↓w_Cnt, ↓w_Ext, ↓w_isBB, ↓w_isIB, ↓w_Enum, ↓w_enT]
          rw [pop_w (l := (s :: r).reverse.map dZ) (d := dZ t) rfl (by rw [ls]; simp)]
          simp only [↓w_ok, ↓kB_ok, ↓kI_ok, ↓w_K, ↓w_V, ↓w_vR, ↓w_Op, ↓kO1_ok, ↓kO2_ok, ↓w_Un, ↓w_bOf, ↓w_isB, ↓kBl_ok, ↓kBl_exc, ↓kIf_ok, ↓kIf_exc, ↓w_okB, ↓w_okD, ↓w_bAnd, ↓w_bOr, ↓w_bNot, ↓kNot_ok, ↓kNot_exc, ↓w_eAnd, ↓w_eOr, ↓w_eNot, ↓kNotV_ok, ↓w_eIf, ↓w_aNil, ↓w_aCons, ↓kA1_ok, ↓kA2_ok, ↓kA1_exc, ↓kA2_exc, ↓w_Tup, ↓w_Lst, ↓w_mkT, ↓w_mkL, ↓w_Dct, ↓w_Dct2, ↓w_SoSe, ↓w_Call, ↓w_goS, ↓w_Bi, ↓w_Isi, ↓w_Cut, ↓kC1_ok, ↓kC2_ok, ↓kC3_ok, ↓w_oNone, ↓w_oSome, ↓w_vO, ↓w_Chain, ↓kCh1_ok, ↓kCh2_ok, ↓kCh3_ok, ↓w_chA, ↓w_App, ↓w_Ins, ↓w_insG, ↓z_nx, ↓z_End, ↓z_Seq, ↓kT_nx, ↓kT_rt, ↓kT_bk, ↓kT_ct, ↓kT_exc, ↓z_If, ↓kIfS_ok, ↓kIfS_exc, ↓z_Ret, ↓kRet_ok, ↓kRet_exc, ↓z_Expr, ↓kNx_ok, ↓kNx_exc, ↓z_Asg, ↓kAs_ok, ↓kAs_exc, ↓z_tgO, t_N, t_T, t_nil, t_cons, t_G, t_gnil, t_gcons, t_bind, ↓z_Par, ↓kPar_ok, ↓z_Raise, ↓z_Break, ↓z_Cont, ↓z_For, ↓kSrc_ok, ↓w_Range, ↓w_rgF, ↓w_SeqI, ↓w_sqT, ↓w_Zip, ↓w_zpT, ↓w_Comp, ↓kCo_ok, ↓w_of, ↓kF_rt, ↓kF_nx, ↓kF_exc, ↓w_add, ↓w_sub, ↓w_pow10, ↓w_neg, ↓w_lt, ↓w_le, ↓w_gt, ↓w_ge, ↓w_ix0, ↓w_ix1, ↓w_ix2, ↓w_ix3, ↓w_eqI, ↓w_eqS, ↓w_eqT2, ↓w_abs, ↓w_lenT, ↓w_lenS, ↓w_max, ↓w_min, ↓w_intT, ↓w_intF, ↓w_isBool, ↓w_isTup, ↓w_tupT, ↓w_listT, ↓w_cutT, ↓brw_t, ↓brw_f, ↓brz_t, ↓brz_f, List.getElem?_cons_zero, List.getElem?_cons_succ, List.set_cons_zero, List.set_cons_succ, List.length_cons, List.length_nil, List.map_cons, List.map_nil, List.replicate, List.cons_append, List.nil_append, small, Nat.reduceAdd, Nat.reduceLeDiff, Nat.reduceEqDiff, Int.cast_ofNat_Int, Int.reduceBEq, BEq.rfl, ↓w_Yes, ↓w_bTru, ↓augF_ok, ↓z_Put, ↓putF_ok, ↓putG_ok, ↓w_isNn, ↓w_isNt, wipeF_nil, wipeF_cons, Int.reduceLE, Int.reduceLT, Int.reduceToNat, Int.reducePow, Int.reduceNeg, Int.reduceSub, Int.reduceAdd, Int.reduceMul, decide_true, decide_false, Bool.not_true, Bool.not_false, Bool.bne_false, Bool.bne_true, ↓w_aStar, ↓w_stT, ↓kSt_ok, ↓w_aDef, ↓kDf_ok, ↓w_Cnt, ↓w_Ext, ↓w_isBB, ↓w_isIB, ↓w_Enum, ↓w_enT]
          refine ⟨_, ?_, s :: r, rfl, (List.suffix_cons _ _).trans su, ?_, ?_, rfl⟩
          · simp
          · rw [← ep, popW, if_pos hc']
          · simp
        · have hc' := of_decide_eq_false hc
          exact put (by rw [popW, if_neg hc']) _ rfl
    · have h1' := of_decide_eq_false h1
      simp only [↓w_ok, ↓kB_ok, ↓kI_ok, ↓w_K, ↓w_V, ↓w_vR, ↓w_Op, ↓kO1_ok, ↓kO2_ok, ↓w_Un, ↓w_bOf, ↓w_isB, ↓kBl_ok, ↓kBl_exc, ↓kIf_ok, ↓kIf_exc, ↓w_okB, ↓w_okD, ↓w_bAnd, ↓w_bOr, ↓w_bNot, ↓kNot_ok, ↓kNot_exc, ↓w_eAnd, ↓w_eOr, ↓w_eNot, ↓kNotV_ok, ↓w_eIf, ↓w_aNil, ↓w_aCons, ↓kA1_ok, ↓kA2_ok, ↓kA1_exc, ↓kA2_exc, ↓w_Tup, ↓w_Lst, ↓w_mkT, ↓w_mkL, ↓w_Dct, ↓w_Dct2, ↓w_SoSe, ↓w_Call, ↓w_goS, ↓w_Bi, ↓w_Isi, ↓w_Cut, ↓kC1_ok, ↓kC2_ok, ↓kC3_ok, ↓w_oNone, ↓w_oSome, ↓w_vO, ↓w_Chain, ↓kCh1_ok, ↓kCh2_ok, ↓kCh3_ok, ↓w_chA, ↓w_App, ↓w_Ins, ↓w_insG, ↓z_nx, ↓z_End, ↓z_Seq, ↓kT_nx, ↓kT_rt, ↓kT_bk, ↓kT_ct, ↓kT_exc, ↓z_If, ↓kIfS_ok, ↓kIfS_exc, ↓z_Ret, ↓kRet_ok, ↓kRet_exc, ↓z_Expr, ↓kNx_ok, ↓kNx_exc, ↓z_Asg, ↓kAs_ok, ↓kAs_exc, ↓z_tgO, t_N, t_T, t_nil, t_cons, t_G, t_gnil, t_gcons, t_bind, ↓z_Par, ↓kPar_ok, ↓z_Raise, ↓z_Break, ↓z_Cont, ↓z_For, ↓kSrc_ok, ↓w_Range, ↓w_rgF, ↓w_SeqI, ↓w_sqT, ↓w_Zip, ↓w_zpT, ↓w_Comp, ↓kCo_ok, ↓w_of, ↓kF_rt, ↓kF_nx, ↓kF_exc, ↓w_add, ↓w_sub, ↓w_pow10, ↓w_neg, ↓w_lt, ↓w_le, ↓w_gt, ↓w_ge, ↓w_ix0, ↓w_ix1, ↓w_ix2, ↓w_ix3, ↓w_eqI, ↓w_eqS, ↓w_eqT2, ↓w_abs, ↓w_lenT, ↓w_lenS, ↓w_max, ↓w_min, ↓w_intT, ↓w_intF, ↓w_isBool, ↓w_isTup, ↓w_tupT, ↓w_listT, ↓w_cutT, ↓brw_t, ↓brw_f, ↓brz_t, ↓brz_f, List.getElem?_cons_zero, List.getElem?_cons_succ, List.set_cons_zero, List.set_cons_succ, List.length_cons, List.length_nil, List.map_cons, List.map_nil, List.replicate, List.cons_append, List.nil_append, small, Nat.reduceAdd, Nat.reduceLeDiff, Nat.reduceEqDiff, Int.cast_ofNat_Int, Int.reduceBEq, BEq.rfl, ↓w_Yes, ↓w_bTru, ↓augF_ok, ↓z_Put, ↓putF_ok, ↓putG_ok, ↓w_isNn, ↓w_isNt, wipeF_nil, wipeF_cons, Int.reduceLE, Int.reduceLT, Int.reduceToNat, Int.reducePow, Int.reduceNeg, Int.reduceSub, Int.reduceAdd, Int.reduceMul, decide_true, decide_false, Bool.not_true, Bool.not_false, Bool.bne_false, Bool.bne_true, ↓w_aStar, ↓w_stT, ↓kSt_ok, ↓w_aDef, ↓kDf_ok, ↓w_Cnt, ↓w_Ext, ↓w_isBB, ↓w_isIB, ↓w_Enum, ↓w_enT]
      refine ⟨fun hc => absurd hc (by decide), fun _ => put ?_ _ rfl⟩
      match st, h1', ln0 with
      | [], _, _ => simp [popW]
      | [t], _, _ => simp [popW]
      | t :: s :: r, h1', ln0 => simp at h1'; omega
  · rintro fr h' ⟨x, rfl, rfl⟩
    rw [List.take_length]
    refine ⟨by have := so.fin (h ++ [.lst ((half l).reverse.map dZ)]) ⟨_, rfl⟩; simpa using this, ?_⟩
    simp only [↓w_ok, ↓kB_ok, ↓kI_ok, ↓w_K, ↓w_V, ↓w_vR, ↓w_Op, ↓kO1_ok, ↓kO2_ok, ↓w_Un, ↓w_bOf, ↓w_isB, ↓kBl_ok, ↓kBl_exc, ↓kIf_ok, ↓kIf_exc, ↓w_okB, ↓w_okD, ↓w_bAnd, ↓w_bOr, ↓w_bNot, ↓kNot_ok, ↓kNot_exc, ↓w_eAnd, ↓w_eOr, ↓w_eNot, ↓kNotV_ok, ↓w_eIf, ↓w_aNil, ↓w_aCons, ↓kA1_ok, ↓kA2_ok, ↓kA1_exc, ↓kA2_exc, ↓w_Tup, ↓w_Lst, ↓w_mkT, ↓w_mkL, ↓w_Dct, ↓w_Dct2, ↓w_SoSe, ↓w_Call, ↓w_goS, ↓w_Bi, ↓w_Isi, ↓w_Cut, ↓kC1_ok, ↓kC2_ok, ↓kC3_ok, ↓w_oNone, ↓w_oSome, ↓w_vO, ↓w_Chain, ↓kCh1_ok, ↓kCh2_ok, ↓kCh3_ok, ↓w_chA, ↓w_App, ↓w_Ins, ↓w_insG, ↓z_nx, ↓z_End, ↓z_Seq, ↓kT_nx, ↓kT_rt, ↓kT_bk, ↓kT_ct, ↓kT_exc, ↓z_If, ↓kIfS_ok, ↓kIfS_exc, ↓z_Ret, ↓kRet_ok, ↓kRet_exc, ↓z_Expr, ↓kNx_ok, ↓kNx_exc, ↓z_Asg, ↓kAs_ok, ↓kAs_exc, ↓z_tgO, t_N, t_T, t_nil, t_cons, t_G, t_gnil, t_gcons, t_bind, ↓z_Par, ↓kPar_ok, ↓z_Raise, ↓z_Break, ↓z_Cont, ↓z_For, ↓kSrc_ok, ↓w_Range, ↓w_rgF, ↓w_SeqI, ↓w_sqT, ↓w_Zip, ↓w_zpT, ↓w_Comp, ↓kCo_ok, ↓w_of, ↓kF_rt, ↓kF_nx, ↓kF_exc, ↓w_add, ↓w_sub, ↓w_pow10, ↓w_neg, ↓w_lt, ↓w_le, ↓w_gt, ↓w_ge, ↓w_ix0, ↓w_ix1, ↓w_ix2, ↓w_ix3, ↓w_eqI, ↓w_eqS, ↓w_eqT2, ↓w_abs, ↓w_lenT, ↓w_lenS, ↓w_max, ↓w_min, ↓w_intT, ↓w_intF, ↓w_isBool, ↓w_isTup, ↓w_tupT, ↓w_listT, ↓w_cutT, ↓brw_t, ↓brw_f, ↓brz_t, ↓brz_f, List.getElem?_cons_zero, List.getElem?_cons_succ, List.set_cons_zero, List.set_cons_succ, List.length_cons, List.length_nil, List.map_cons, List.map_nil, List.replicate, List.cons_append, List.nil_append, small, Nat.reduceAdd, Nat.reduceLeDiff, Nat.reduceEqDiff, Int.cast_ofNat_Int, Int.reduceBEq, BEq.rfl, ↓w_Yes, ↓w_bTru, ↓augF_ok, ↓z_Put, ↓putF_ok, ↓putG_ok, ↓w_isNn, ↓w_isNt, wipeF_nil, wipeF_cons, Int.reduceLE, Int.reduceLT, Int.reduceToNat, Int.reducePow, Int.reduceNeg, Int.reduceSub, Int.reduceAdd, Int.reduceMul, decide_true, decide_false, Bool.not_true, Bool.not_false, Bool.bne_false, Bool.bne_true, ↓w_aStar, ↓w_stT, ↓kSt_ok, ↓w_aDef, ↓kDf_ok, ↓w_Cnt, ↓w_Ext, ↓w_isBB, ↓w_isIB, ↓w_Enum, ↓w_enT]
    exact k _ _ ⟨_, rfl⟩ (Nat.le_refl _) (lst_new h _)
end
end MI
end
section
set_option Elab.async false
set_option linter.all false
set_option autoImplicit false
set_option maxRecDepth 100000
set_option exponentiation.threshold 20000
set_option maxHeartbeats 4000000
open PySem L2
namespace MI
theorem cut_hi {l : List D} {j : Nat} : cutD l none (some (j : Int)) = l.take j := by
  have e : HT.sIx l.length l.length (some (j : Int)) = min j l.length := HT.sIx_nat _ _ _
  unfold cutD
  rw [e, show HT.sIx l.length 0 none = 0 from rfl, List.drop_zero, Nat.sub_zero]
  rcases Nat.le_total j l.length with h | h
  · rw [Nat.min_eq_left h]
  · rw [Nat.min_eq_right h, List.take_of_length_le (Nat.le_refl _), List.take_of_length_le h]
theorem cut_lo {l : List D} {j : Nat} : cutD l (some (j : Int)) none = l.drop j := by
  have e : HT.sIx l.length 0 (some (j : Int)) = min j l.length := HT.sIx_nat _ _ _
  unfold cutD
  rw [e, show HT.sIx l.length l.length none = l.length from rfl]
  rcases Nat.le_total j l.length with h | h
  · rw [Nat.min_eq_left h]
    exact List.take_of_length_le (by simp)
  · rw [Nat.min_eq_right h, Nat.sub_self, List.take_zero, List.drop_of_length_le h]
theorem cut_dl {l : List D} : cutD l none (some (-1)) = l.dropLast := by
  have e : HT.sIx l.length l.length (some (-1)) = l.length - 1 := by
    unfold HT.sIx
    dsimp only
    rw [if_pos (by decide)]
    omega
  unfold cutD
  rw [e, show HT.sIx l.length 0 none = 0 from rfl, List.drop_zero, Nat.sub_zero, List.dropLast_eq_take]
theorem map_dropLast' {α β : Type} (f : α → β) (l : List α) : l.dropLast.map f = (l.map f).dropLast := by
  rw [List.dropLast_eq_take, List.dropLast_eq_take, List.map_take, List.length_map]
section
variable {h : Hq} {Φ : Rs D → Prop} {m p : Nat} {n : Int}
theorem w_soseG {qs : List Zp} (e : lstAt h m = some (qs.map dZ)) (hl : qs.length < 64) : W (gSoSe (.ref m) h) Φ = Φ (.ok (.ref h.length) (h ++ [.lst ((srtZ qs).map dZ)])) := by
  unfold W gSoSe
  simp only [e, prsD_dZ]
  rw [if_pos hl]
theorem w_backL {l : List D} (e : lstAt h m = some l) : W (dBack (.ref m) h) Φ = Φ (.ok (.ref h.length) (h ++ [.lst l.reverse])) := by
  unfold W dBack
  simp only [e]
theorem srt_len {qs c : List Zp} (hs : ∀ q ∈ qs, q ∈ c) : (srtZ qs).length ≤ c.length :=
  len_sub (up_nodup (srt_up qs)) fun x hx => hs x ((mem_srt qs).1 hx)
theorem srt_len' {qs : List Zp} : (srtZ qs).length ≤ qs.length := srt_len fun q h => h
theorem hull_w {qs : List Zp} (e : lstAt h m = some (qs.map dZ)) (hb : ∀ q ∈ qs, In9 q) (hl : qs.length < 64) (h8 : (srtZ qs).length ≤ 8) (k : ∀ m1 h1, Gr h h1 → h.length ≤ m1 → lstAt h1 m1 = some ((hull (srtZ qs)).map dZ) → Φ (.ok (.ref m1) h1)) : W (S__law_hull [.ref m] h) Φ := by
  unfold S__law_hull
  simp only [↓w_ok, ↓kB_ok, ↓kI_ok, ↓w_K, ↓w_V, ↓w_vR, ↓w_Op, ↓kO1_ok, ↓kO2_ok, ↓w_Un, ↓w_bOf, ↓w_isB, ↓kBl_ok, ↓kBl_exc, ↓kIf_ok, ↓kIf_exc, ↓w_okB, ↓w_okD, ↓w_bAnd, ↓w_bOr, ↓w_bNot, ↓kNot_ok, ↓kNot_exc, ↓w_eAnd, ↓w_eOr, ↓w_eNot, ↓kNotV_ok, ↓w_eIf, ↓w_aNil, ↓w_aCons, ↓kA1_ok, ↓kA2_ok, ↓kA1_exc, ↓kA2_exc, ↓w_Tup, ↓w_Lst, ↓w_mkT, ↓w_mkL, ↓w_Dct, ↓w_Dct2, ↓w_SoSe, ↓w_Call, ↓w_goS, ↓w_Bi, ↓w_Isi, ↓w_Cut, ↓kC1_ok, ↓kC2_ok, ↓kC3_ok, ↓w_oNone, ↓w_oSome, ↓w_vO, ↓w_Chain, ↓kCh1_ok, ↓kCh2_ok, ↓kCh3_ok, ↓w_chA, ↓w_App, ↓w_Ins, ↓w_insG, ↓z_nx, ↓z_End, ↓z_Seq, ↓kT_nx, ↓kT_rt, ↓kT_bk, ↓kT_ct, ↓kT_exc, ↓z_If, ↓kIfS_ok, ↓kIfS_exc, ↓z_Ret, ↓kRet_ok, ↓kRet_exc, ↓z_Expr, ↓kNx_ok, ↓kNx_exc, ↓z_Asg, ↓kAs_ok, ↓kAs_exc, ↓z_tgO, t_N, t_T, t_nil, t_cons, t_G, t_gnil, t_gcons, t_bind, ↓z_Par, ↓kPar_ok, ↓z_Raise, ↓z_Break, ↓z_Cont, ↓z_For, ↓kSrc_ok, ↓w_Range, ↓w_rgF, ↓w_SeqI, ↓w_sqT, ↓w_Zip, ↓w_zpT, ↓w_Comp, ↓kCo_ok, ↓w_of, ↓kF_rt, ↓kF_nx, ↓kF_exc, ↓w_add, ↓w_sub, ↓w_pow10, ↓w_neg, ↓w_lt, ↓w_le, ↓w_gt, ↓w_ge, ↓w_ix0, ↓w_ix1, ↓w_ix2, ↓w_ix3, ↓w_eqI, ↓w_eqS, ↓w_eqT2, ↓w_abs, ↓w_lenT, ↓w_lenS, ↓w_max, ↓w_min, ↓w_intT, ↓w_intF, ↓w_isBool, ↓w_isTup, ↓w_tupT, ↓w_listT, ↓w_cutT, ↓brw_t, ↓brw_f, ↓brz_t, ↓brz_f, List.getElem?_cons_zero, List.getElem?_cons_succ, List.set_cons_zero, List.set_cons_succ, List.length_cons, List.length_nil, List.map_cons, List.map_nil, List.replicate, List.cons_append, List.nil_append, small, Nat.reduceAdd, Nat.reduceLeDiff, Nat.reduceEqDiff, Int.cast_ofNat_Int, Int.reduceBEq, BEq.rfl, ↓w_Yes, ↓w_bTru, ↓augF_ok, ↓z_Put, ↓putF_ok, ↓putG_ok, ↓w_isNn, ↓w_isNt, wipeF_nil, wipeF_cons, Int.reduceLE, Int.reduceLT, Int.reduceToNat, Int.reducePow, Int.reduceNeg, Int.reduceSub, Int.reduceAdd, Int.reduceMul, decide_true, decide_false, Bool.not_true, Bool.not_false, Bool.bne_false, Bool.bne_true, ↓w_aStar, ↓w_stT, ↓kSt_ok, ↓w_aDef, ↓kDf_ok, ↓w_Cnt, ↓w_Ext, ↓w_isBB, ↓w_isIB, ↓w_Enum, ↓w_enT, w_soseG e hl]
  have bs : ∀ q ∈ srtZ qs, In9 q := fun q hq => hb q ((mem_srt qs).1 hq)
  generalize srtZ qs = s at *
  have l1 := lst_new h (s.map dZ)
  have g1 : Gr h (h ++ [.lst (s.map dZ)]) := Gr.app _ _
  have n1 : h.length < (h ++ [Cell.lst (s.map dZ)]).length := by simp
  generalize h ++ [Cell.lst (s.map dZ)] = ha at *
  simp only [↓w_ok, ↓kB_ok, ↓kI_ok, ↓w_K, ↓w_V, ↓w_vR, ↓w_Op, ↓kO1_ok, ↓kO2_ok, ↓w_Un, ↓w_bOf, ↓w_isB, ↓kBl_ok, ↓kBl_exc, ↓kIf_ok, ↓kIf_exc, ↓w_okB, ↓w_okD, ↓w_bAnd, ↓w_bOr, ↓w_bNot, ↓kNot_ok, ↓kNot_exc, ↓w_eAnd, ↓w_eOr, ↓w_eNot, ↓kNotV_ok, ↓w_eIf, ↓w_aNil, ↓w_aCons, ↓kA1_ok, ↓kA2_ok, ↓kA1_exc, ↓kA2_exc, ↓w_Tup, ↓w_Lst, ↓w_mkT, ↓w_mkL, ↓w_Dct, ↓w_Dct2, ↓w_SoSe, ↓w_Call, ↓w_goS, ↓w_Bi, ↓w_Isi, ↓w_Cut, ↓kC1_ok, ↓kC2_ok, ↓kC3_ok, ↓w_oNone, ↓w_oSome, ↓w_vO, ↓w_Chain, ↓kCh1_ok, ↓kCh2_ok, ↓kCh3_ok, ↓w_chA, ↓w_App, ↓w_Ins, ↓w_insG, ↓z_nx, ↓z_End, ↓z_Seq, ↓kT_nx, ↓kT_rt, ↓kT_bk, ↓kT_ct, ↓kT_exc, ↓z_If, ↓kIfS_ok, ↓kIfS_exc, ↓z_Ret, ↓kRet_ok, ↓kRet_exc, ↓z_Expr, ↓kNx_ok, ↓kNx_exc, ↓z_Asg, ↓kAs_ok, ↓kAs_exc, ↓z_tgO, t_N, t_T, t_nil, t_cons, t_G, t_gnil, t_gcons, t_bind, ↓z_Par, ↓kPar_ok, ↓z_Raise, ↓z_Break, ↓z_Cont, ↓z_For, ↓kSrc_ok, ↓w_Range, ↓w_rgF, ↓w_SeqI, ↓w_sqT, ↓w_Zip, ↓w_zpT, ↓w_Comp, ↓kCo_ok, ↓w_of, ↓kF_rt, ↓kF_nx, ↓kF_exc, ↓w_add, ↓w_sub, ↓w_pow10, ↓w_neg, ↓w_lt, ↓w_le, ↓w_gt, ↓w_ge, ↓w_ix0, ↓w_ix1, ↓w_ix2, ↓w_ix3, ↓w_eqI, ↓w_eqS, ↓w_eqT2, ↓w_abs, ↓w_lenT, ↓w_lenS, ↓w_max, ↓w_min, ↓w_intT, ↓w_intF, ↓w_isBool, ↓w_isTup, ↓w_tupT, ↓w_listT, ↓w_cutT, ↓brw_t, ↓brw_f, ↓brz_t, ↓brz_f, List.getElem?_cons_zero, List.getElem?_cons_succ, List.set_cons_zero, List.set_cons_succ, List.length_cons, List.length_nil, List.map_cons, List.map_nil, List.replicate, List.cons_append, List.nil_append, small, Nat.reduceAdd, Nat.reduceLeDiff, Nat.reduceEqDiff, Int.cast_ofNat_Int, Int.reduceBEq, BEq.rfl, ↓w_Yes, ↓w_bTru, ↓augF_ok, ↓z_Put, ↓putF_ok, ↓putG_ok, ↓w_isNn, ↓w_isNt, wipeF_nil, wipeF_cons, Int.reduceLE, Int.reduceLT, Int.reduceToNat, Int.reducePow, Int.reduceNeg, Int.reduceSub, Int.reduceAdd, Int.reduceMul, decide_true, decide_false, Bool.not_true, Bool.not_false, Bool.bne_false, Bool.bne_true, ↓w_aStar, ↓w_stT, ↓kSt_ok, ↓w_aDef, ↓kDf_ok, ↓w_Cnt, ↓w_Ext, ↓w_isBB, ↓w_isIB, ↓w_Enum, ↓w_enT, w_lenL l1, List.length_map]
  refine brzP (fun c => ?_) fun c => ?_
  · simp only [↓w_ok, ↓kB_ok, ↓kI_ok, ↓w_K, ↓w_V, ↓w_vR, ↓w_Op, ↓kO1_ok, ↓kO2_ok, ↓w_Un, ↓w_bOf, ↓w_isB, ↓kBl_ok, ↓kBl_exc, ↓kIf_ok, ↓kIf_exc, ↓w_okB, ↓w_okD, ↓w_bAnd, ↓w_bOr, ↓w_bNot, ↓kNot_ok, ↓kNot_exc, ↓w_eAnd, ↓w_eOr, ↓w_eNot, ↓kNotV_ok, ↓w_eIf, ↓w_aNil, ↓w_aCons, ↓kA1_ok, ↓kA2_ok, ↓kA1_exc, ↓kA2_exc, ↓w_Tup, ↓w_Lst, ↓w_mkT, ↓w_mkL, ↓w_Dct, ↓w_Dct2, ↓w_SoSe, ↓w_Call, ↓w_goS, ↓w_Bi, ↓w_Isi, ↓w_Cut, ↓kC1_ok, ↓kC2_ok, ↓kC3_ok, ↓w_oNone, ↓w_oSome, ↓w_vO, ↓w_Chain, ↓kCh1_ok, ↓kCh2_ok, ↓kCh3_ok, ↓w_chA, ↓w_App, ↓w_Ins, ↓w_insG, ↓z_nx, ↓z_End, ↓z_Seq, ↓kT_nx, ↓kT_rt, ↓kT_bk, ↓kT_ct, ↓kT_exc, ↓z_If, ↓kIfS_ok, ↓kIfS_exc, ↓z_Ret, ↓kRet_ok, ↓kRet_exc, ↓z_Expr, ↓kNx_ok, ↓kNx_exc, ↓z_Asg, ↓kAs_ok, ↓kAs_exc, ↓z_tgO, t_N, t_T, t_nil, t_cons, t_G, t_gnil, t_gcons, t_bind, ↓z_Par, ↓kPar_ok, ↓z_Raise, ↓z_Break, ↓z_Cont, ↓z_For, ↓kSrc_ok, ↓w_Range, ↓w_rgF, ↓w_SeqI, ↓w_sqT, ↓w_Zip, ↓w_zpT, ↓w_Comp, ↓kCo_ok, ↓w_of, ↓kF_rt, ↓kF_nx, ↓kF_exc, ↓w_add, ↓w_sub, ↓w_pow10, ↓w_neg, ↓w_lt, ↓w_le, ↓w_gt, ↓w_ge, ↓w_ix0, ↓w_ix1, ↓w_ix2, ↓w_ix3, ↓w_eqI, ↓w_eqS, ↓w_eqT2, ↓w_abs, ↓w_lenT, ↓w_lenS, ↓w_max, ↓w_min, ↓w_intT, ↓w_intF, ↓w_isBool, ↓w_isTup, ↓w_tupT, ↓w_listT, ↓w_cutT, ↓brw_t, ↓brw_f, ↓brz_t, ↓brz_f, List.getElem?_cons_zero, List.getElem?_cons_succ, List.set_cons_zero, List.set_cons_succ, List.length_cons, List.length_nil, List.map_cons, List.map_nil, List.replicate, List.cons_append, List.nil_append, small, Nat.reduceAdd, Nat.reduceLeDiff, Nat.reduceEqDiff, Int.cast_ofNat_Int, Int.reduceBEq, BEq.rfl, ↓w_Yes, ↓w_bTru, ↓augF_ok, ↓z_Put, ↓putF_ok, ↓putG_ok, ↓w_isNn, ↓w_isNt, wipeF_nil, wipeF_cons, Int.reduceLE, Int.reduceLT, Int.reduceToNat, Int.reducePow, Int.reduceNeg, Int.reduceSub, Int.reduceAdd, Int.reduceMul, decide_true, decide_false, Bool.not_true, Bool.not_false, Bool.bne_false, Bool.bne_true, ↓w_aStar, ↓w_stT, ↓kSt_ok, ↓w_aDef, ↓kDf_ok, ↓w_Cnt, ↓w_Ext, ↓w_isBB, ↓w_isIB, ↓w_Enum, ↓w_enT]
    refine k _ _ g1 (Nat.le_refl _) ?_
    rw [l1, hull, if_pos (by omega)]
  · simp only [↓w_ok, ↓kB_ok, ↓kI_ok, ↓w_K, ↓w_V, ↓w_vR, ↓w_Op, ↓kO1_ok, ↓kO2_ok, ↓w_Un, ↓w_bOf, ↓w_isB, ↓kBl_ok, ↓kBl_exc, ↓kIf_ok, ↓kIf_exc, ↓w_okB, ↓w_okD, ↓w_bAnd, ↓w_bOr, ↓w_bNot, ↓kNot_ok, ↓kNot_exc, ↓w_eAnd, ↓w_eOr, ↓w_eNot, ↓kNotV_ok, ↓w_eIf, ↓w_aNil, ↓w_aCons, ↓kA1_ok, ↓kA2_ok, ↓kA1_exc, ↓kA2_exc, ↓w_Tup, ↓w_Lst, ↓w_mkT, ↓w_mkL, ↓w_Dct, ↓w_Dct2, ↓w_SoSe, ↓w_Call, ↓w_goS, ↓w_Bi, ↓w_Isi, ↓w_Cut, ↓kC1_ok, ↓kC2_ok, ↓kC3_ok, ↓w_oNone, ↓w_oSome, ↓w_vO, ↓w_Chain, ↓kCh1_ok, ↓kCh2_ok, ↓kCh3_ok, ↓w_chA, ↓w_App, ↓w_Ins, ↓w_insG, ↓z_nx, ↓z_End, ↓z_Seq, ↓kT_nx, ↓kT_rt, ↓kT_bk, ↓kT_ct, ↓kT_exc, ↓z_If, ↓kIfS_ok, ↓kIfS_exc, ↓z_Ret, ↓kRet_ok, ↓kRet_exc, ↓z_Expr, ↓kNx_ok, ↓kNx_exc, ↓z_Asg, ↓kAs_ok, ↓kAs_exc, ↓z_tgO, t_N, t_T, t_nil, t_cons, t_G, t_gnil, t_gcons, t_bind, ↓z_Par, ↓kPar_ok, ↓z_Raise, ↓z_Break, ↓z_Cont, ↓z_For, ↓kSrc_ok, ↓w_Range, ↓w_rgF, ↓w_SeqI, ↓w_sqT, ↓w_Zip, ↓w_zpT, ↓w_Comp, ↓kCo_ok, ↓w_of, ↓kF_rt, ↓kF_nx, ↓kF_exc, ↓w_add, ↓w_sub, ↓w_pow10, ↓w_neg, ↓w_lt, ↓w_le, ↓w_gt, ↓w_ge, ↓w_ix0, ↓w_ix1, ↓w_ix2, ↓w_ix3, ↓w_eqI, ↓w_eqS, ↓w_eqT2, ↓w_abs, ↓w_lenT, ↓w_lenS, ↓w_max, ↓w_min, ↓w_intT, ↓w_intF, ↓w_isBool, ↓w_isTup, ↓w_tupT, ↓w_listT, ↓w_cutT, ↓brw_t, ↓brw_f, ↓brz_t, ↓brz_f, List.getElem?_cons_zero, List.getElem?_cons_succ, List.set_cons_zero, List.set_cons_succ, List.length_cons, List.length_nil, List.map_cons, List.map_nil, List.replicate, List.cons_append, List.nil_append, small, Nat.reduceAdd, Nat.reduceLeDiff, Nat.reduceEqDiff, Int.cast_ofNat_Int, Int.reduceBEq, BEq.rfl, ↓w_Yes, ↓w_bTru, ↓augF_ok, ↓z_Put, ↓putF_ok, ↓putG_ok, ↓w_isNn, ↓w_isNt, wipeF_nil, wipeF_cons, Int.reduceLE, Int.reduceLT, Int.reduceToNat, Int.reducePow, Int.reduceNeg, Int.reduceSub, Int.reduceAdd, Int.reduceMul, decide_true, decide_false, Bool.not_true, Bool.not_false, Bool.bne_false, Bool.bne_true, ↓w_aStar, ↓w_stT, ↓kSt_ok, ↓w_aDef, ↓kDf_ok, ↓w_Cnt, ↓w_Ext, ↓w_isBB, ↓w_isIB, ↓w_Enum, ↓w_enT]
    refine half_w l1 bs h8 fun m1 h1 g2 n2 l2 => ?_
    simp only [↓w_ok, ↓kB_ok, ↓kI_ok, ↓w_K, ↓w_V, ↓w_vR, ↓w_Op, ↓kO1_ok, ↓kO2_ok, ↓w_Un, ↓w_bOf, ↓w_isB, ↓kBl_ok, ↓kBl_exc, ↓kIf_ok, ↓kIf_exc, ↓w_okB, ↓w_okD, ↓w_bAnd, ↓w_bOr, ↓w_bNot, ↓kNot_ok, ↓kNot_exc, ↓w_eAnd, ↓w_eOr, ↓w_eNot, ↓kNotV_ok, ↓w_eIf, ↓w_aNil, ↓w_aCons, ↓kA1_ok, ↓kA2_ok, ↓kA1_exc, ↓kA2_exc, ↓w_Tup, ↓w_Lst, ↓w_mkT, ↓w_mkL, ↓w_Dct, ↓w_Dct2, ↓w_SoSe, ↓w_Call, ↓w_goS, ↓w_Bi, ↓w_Isi, ↓w_Cut, ↓kC1_ok, ↓kC2_ok, ↓kC3_ok, ↓w_oNone, ↓w_oSome, ↓w_vO, ↓w_Chain, ↓kCh1_ok, ↓kCh2_ok, ↓kCh3_ok, ↓w_chA, ↓w_App, ↓w_Ins, ↓w_insG, ↓z_nx, ↓z_End, ↓z_Seq, ↓kT_nx, ↓kT_rt, ↓kT_bk, ↓kT_ct, ↓kT_exc, ↓z_If, ↓kIfS_ok, ↓kIfS_exc, ↓z_Ret, ↓kRet_ok, ↓kRet_exc, ↓z_Expr, ↓kNx_ok, ↓kNx_exc, ↓z_Asg, ↓kAs_ok, ↓kAs_exc, ↓z_tgO, t_N, t_T, t_nil, t_cons, t_G, t_gnil, t_gcons, t_bind, ↓z_Par, ↓kPar_ok, ↓z_Raise, ↓z_Break, ↓z_Cont, ↓z_For, ↓kSrc_ok, ↓w_Range, ↓w_rgF, ↓w_SeqI, ↓w_sqT, ↓w_Zip, ↓w_zpT, ↓w_Comp, ↓kCo_ok, ↓w_of, ↓kF_rt, ↓kF_nx, ↓kF_exc, ↓w_add, ↓w_sub, ↓w_pow10, ↓w_neg, ↓w_lt, ↓w_le, ↓w_gt, ↓w_ge, ↓w_ix0, ↓w_ix1, ↓w_ix2, ↓w_ix3, ↓w_eqI, ↓w_eqS, ↓w_eqT2, ↓w_abs, ↓w_lenT, ↓w_lenS, ↓w_max, ↓w_min, ↓w_intT, ↓w_intF, ↓w_isBool, ↓w_isTup, ↓w_tupT, ↓w_listT, ↓w_cutT, ↓brw_t, ↓brw_f, ↓brz_t, ↓brz_f, List.getElem?_cons_zero, List.getElem?_cons_succ, List.set_cons_zero, List.set_cons_succ, List.length_cons, List.length_nil, List.map_cons, List.map_nil, List.replicate, List.cons_append, List.nil_append, small, Nat.reduceAdd, Nat.reduceLeDiff, Nat.reduceEqDiff, Int.cast_ofNat_Int, Int.reduceBEq, BEq.rfl, ↓w_Yes, ↓w_bTru, ↓augF_ok, ↓z_Put, ↓putF_ok, ↓putG_ok, ↓w_isNn, ↓w_isNt, wipeF_nil, wipeF_cons, Int.reduceLE, Int.reduceLT, Int.reduceToNat, Int.reducePow, Int.reduceNeg, Int.reduceSub, Int.reduceAdd, Int.reduceMul, decide_true, decide_false, Bool.not_true, Bool.not_false, Bool.bne_false, Bool.bne_true, ↓w_aStar, ↓w_stT, ↓kSt_ok, ↓w_aDef, ↓kDf_ok, ↓w_Cnt, ↓w_Ext, ↓w_isBB, ↓w_isIB, ↓w_Enum, ↓w_enT, w_cutL l2, cut_dl]
    have g3 := g2.trans (Gr.app h1 [.lst ((half s).reverse.map dZ).dropLast])
    have l3 := lst_new h1 ((half s).reverse.map dZ).dropLast
    have n3 : ha.length ≤ h1.length := g2.len
    generalize h1 ++ [Cell.lst ((half s).reverse.map dZ).dropLast] = h2 at *
    simp only [↓w_ok, ↓kB_ok, ↓kI_ok, ↓w_K, ↓w_V, ↓w_vR, ↓w_Op, ↓kO1_ok, ↓kO2_ok, ↓w_Un, ↓w_bOf, ↓w_isB, ↓kBl_ok, ↓kBl_exc, ↓kIf_ok, ↓kIf_exc, ↓w_okB, ↓w_okD, ↓w_bAnd, ↓w_bOr, ↓w_bNot, ↓kNot_ok, ↓kNot_exc, ↓w_eAnd, ↓w_eOr, ↓w_eNot, ↓kNotV_ok, ↓w_eIf, ↓w_aNil, ↓w_aCons, ↓kA1_ok, ↓kA2_ok, ↓kA1_exc, ↓kA2_exc, ↓w_Tup, ↓w_Lst, ↓w_mkT, ↓w_mkL, ↓w_Dct, ↓w_Dct2, ↓w_SoSe, ↓w_Call, ↓w_goS, ↓w_Bi, ↓w_Isi, ↓w_Cut, ↓kC1_ok, ↓kC2_ok, ↓kC3_ok, ↓w_oNone, ↓w_oSome, ↓w_vO, ↓w_Chain, ↓kCh1_ok, ↓kCh2_ok, ↓kCh3_ok, ↓w_chA, ↓w_App, ↓w_Ins, ↓w_insG, ↓z_nx, ↓z_End, ↓z_Seq, ↓kT_nx, ↓kT_rt, ↓kT_bk, ↓kT_ct, ↓kT_exc, ↓z_If, ↓kIfS_ok, ↓kIfS_exc, ↓z_Ret, ↓kRet_ok, ↓kRet_exc, ↓z_Expr, ↓kNx_ok, ↓kNx_exc, ↓z_Asg, ↓kAs_ok, ↓kAs_exc, ↓z_tgO, t_N, t_T, t_nil, t_cons, t_G, t_gnil, t_gcons, t_bind, ↓z_Par, ↓kPar_ok, ↓z_Raise, ↓z_Break, ↓z_Cont, ↓z_For, ↓kSrc_ok, ↓w_Range, ↓w_rgF, ↓w_SeqI, ↓w_sqT, ↓w_Zip, ↓w_zpT, ↓w_Comp, ↓kCo_ok, ↓w_of, ↓kF_rt, ↓kF_nx, ↓kF_exc, ↓w_add, ↓w_sub, ↓w_pow10, ↓w_neg, ↓w_lt, ↓w_le, ↓w_gt, ↓w_ge, ↓w_ix0, ↓w_ix1, ↓w_ix2, ↓w_ix3, ↓w_eqI, ↓w_eqS, ↓w_eqT2, ↓w_abs, ↓w_lenT, ↓w_lenS, ↓w_max, ↓w_min, ↓w_intT, ↓w_intF, ↓w_isBool, ↓w_isTup, ↓w_tupT, ↓w_listT, ↓w_cutT, ↓brw_t, ↓brw_f, ↓brz_t, ↓brz_f, List.getElem?_cons_zero, List.getElem?_cons_succ, List.set_cons_zero, List.set_cons_succ, List.length_cons, List.length_nil, List.map_cons, List.map_nil, List.replicate, List.cons_append, List.nil_append, small, Nat.reduceAdd, Nat.reduceLeDiff, Nat.reduceEqDiff, Int.cast_ofNat_Int, Int.reduceBEq, BEq.rfl, ↓w_Yes, ↓w_bTru, ↓augF_ok, ↓z_Put, ↓putF_ok, ↓putG_ok, ↓w_isNn, ↓w_isNt, wipeF_nil, wipeF_cons, Int.reduceLE, Int.reduceLT, Int.reduceToNat, Int.reducePow, Int.reduceNeg, Int.reduceSub, Int.reduceAdd, Int.reduceMul, decide_true, decide_false, Bool.not_true, Bool.not_false, Bool.bne_false, Bool.bne_true, ↓w_aStar, ↓w_stT, ↓kSt_ok, ↓w_aDef, ↓kDf_ok, ↓w_Cnt, ↓w_Ext, ↓w_isBB, ↓w_isIB, ↓w_Enum, ↓w_enT, w_backL (g3.lst l1)]
    have l4 := lst_new h2 (s.map dZ).reverse
    rw [← List.map_reverse] at *
    have g4 := Gr.app h2 [.lst (s.reverse.map dZ)]
    generalize h2 ++ [Cell.lst (s.reverse.map dZ)] = h3 at *
    refine half_w l4 (fun q hq => bs q (List.mem_reverse.1 hq)) (by simpa using h8) fun m4 h4 g5 n4 l5 => ?_
    simp only [↓w_ok, ↓kB_ok, ↓kI_ok, ↓w_K, ↓w_V, ↓w_vR, ↓w_Op, ↓kO1_ok, ↓kO2_ok, ↓w_Un, ↓w_bOf, ↓w_isB, ↓kBl_ok, ↓kBl_exc, ↓kIf_ok, ↓kIf_exc, ↓w_okB, ↓w_okD, ↓w_bAnd, ↓w_bOr, ↓w_bNot, ↓kNot_ok, ↓kNot_exc, ↓w_eAnd, ↓w_eOr, ↓w_eNot, ↓kNotV_ok, ↓w_eIf, ↓w_aNil, ↓w_aCons, ↓kA1_ok, ↓kA2_ok, ↓kA1_exc, ↓kA2_exc, ↓w_Tup, ↓w_Lst, ↓w_mkT, ↓w_mkL, ↓w_Dct, ↓w_Dct2, ↓w_SoSe, ↓w_Call, ↓w_goS, ↓w_Bi, ↓w_Isi, ↓w_Cut, ↓kC1_ok, ↓kC2_ok, ↓kC3_ok, ↓w_oNone, ↓w_oSome, ↓w_vO, ↓w_Chain, ↓kCh1_ok, ↓kCh2_ok, ↓kCh3_ok, ↓w_chA, ↓w_App, ↓w_Ins, ↓w_insG, ↓z_nx, ↓z_End, ↓z_Seq, ↓kT_nx, ↓kT_rt, ↓kT_bk, ↓kT_ct, ↓kT_exc, ↓z_If, ↓kIfS_ok, ↓kIfS_exc, ↓z_Ret, ↓kRet_ok, ↓kRet_exc, ↓z_Expr, ↓kNx_ok, ↓kNx_exc, ↓z_Asg, ↓kAs_ok, ↓kAs_exc, ↓z_tgO, t_N, t_T, t_nil, t_cons, t_G, t_gnil, t_gcons, t_bind, ↓z_Par, ↓kPar_ok, ↓z_Raise, ↓z_Break, ↓z_Cont, ↓z_For, ↓kSrc_ok, ↓w_Range, ↓w_rgF, ↓w_SeqI, ↓w_sqT, ↓w_Zip, ↓w_zpT, ↓w_Comp, ↓kCo_ok, ↓w_of, ↓kF_rt, ↓kF_nx, ↓kF_exc, ↓w_add, ↓w_sub, ↓w_pow10, ↓w_neg, ↓w_lt, ↓w_le, ↓w_gt, ↓w_ge, ↓w_ix0, ↓w_ix1, ↓w_ix2, ↓w_ix3, ↓w_eqI, ↓w_eqS, ↓w_eqT2, ↓w_abs, ↓w_lenT, ↓w_lenS, ↓w_max, ↓w_min, ↓w_intT, ↓w_intF, ↓w_isBool, ↓w_isTup, ↓w_tupT, ↓w_listT, ↓w_cutT, ↓brw_t, ↓brw_f, ↓brz_t, ↓brz_f, List.getElem?_cons_zero, List.getElem?_cons_succ, List.set_cons_zero, List.set_cons_succ, List.length_cons, List.length_nil, List.map_cons, List.map_nil, List.replicate, List.cons_append, List.nil_append, small, Nat.reduceAdd, Nat.reduceLeDiff, Nat.reduceEqDiff, Int.cast_ofNat_Int, Int.reduceBEq, BEq.rfl, ↓w_Yes, ↓w_bTru, ↓augF_ok, ↓z_Put, ↓putF_ok, ↓putG_ok, ↓w_isNn, ↓w_isNt, wipeF_nil, wipeF_cons, Int.reduceLE, Int.reduceLT, Int.reduceToNat, Int.reducePow, Int.reduceNeg, Int.reduceSub, Int.reduceAdd, Int.reduceMul, decide_true, decide_false, Bool.not_true, Bool.not_false, Bool.bne_false, Bool.bne_true, ↓w_aStar, ↓w_stT, ↓kSt_ok, ↓w_aDef, ↓kDf_ok, ↓w_Cnt, ↓w_Ext, ↓w_isBB, ↓w_isIB, ↓w_Enum, ↓w_enT, w_cutL l5, cut_dl]
    have l6 := lst_new h4 ((half s.reverse).reverse.map dZ).dropLast
    have g6 := Gr.app h4 [.lst ((half s.reverse).reverse.map dZ).dropLast]
    generalize h4 ++ [Cell.lst ((half s.reverse).reverse.map dZ).dropLast] = h5 at *
    have g7 := g4.trans (g5.trans g6)
    have a1 := half_len s
    have a2 := half_len s.reverse
    simp only [List.length_reverse] at a2
    simp only [↓w_ok, ↓kB_ok, ↓kI_ok, ↓w_K, ↓w_V, ↓w_vR, ↓w_Op, ↓kO1_ok, ↓kO2_ok, ↓w_Un, ↓w_bOf, ↓w_isB, ↓kBl_ok, ↓kBl_exc, ↓kIf_ok, ↓kIf_exc, ↓w_okB, ↓w_okD, ↓w_bAnd, ↓w_bOr, ↓w_bNot, ↓kNot_ok, ↓kNot_exc, ↓w_eAnd, ↓w_eOr, ↓w_eNot, ↓kNotV_ok, ↓w_eIf, ↓w_aNil, ↓w_aCons, ↓kA1_ok, ↓kA2_ok, ↓kA1_exc, ↓kA2_exc, ↓w_Tup, ↓w_Lst, ↓w_mkT, ↓w_mkL, ↓w_Dct, ↓w_Dct2, ↓w_SoSe, ↓w_Call, ↓w_goS, ↓w_Bi, ↓w_Isi, ↓w_Cut, ↓kC1_ok, ↓kC2_ok, ↓kC3_ok, ↓w_oNone, ↓w_oSome, ↓w_vO, ↓w_Chain, ↓kCh1_ok, ↓kCh2_ok, ↓kCh3_ok, ↓w_chA, ↓w_App, ↓w_Ins, ↓w_insG, ↓z_nx, ↓z_End, ↓z_Seq, ↓kT_nx, ↓kT_rt, ↓kT_bk, ↓kT_ct, ↓kT_exc, ↓z_If, ↓kIfS_ok, ↓kIfS_exc, ↓z_Ret, ↓kRet_ok, ↓kRet_exc, ↓z_Expr, ↓kNx_ok, ↓kNx_exc, ↓z_Asg, ↓kAs_ok, ↓kAs_exc, ↓z_tgO, t_N, t_T, t_nil, t_cons, t_G, t_gnil, t_gcons, t_bind, ↓z_Par, ↓kPar_ok, ↓z_Raise, ↓z_Break, ↓z_Cont, ↓z_For, ↓kSrc_ok, ↓w_Range, ↓w_rgF, ↓w_SeqI, ↓w_sqT, ↓w_Zip, ↓w_zpT, ↓w_Comp, ↓kCo_ok, ↓w_of, ↓kF_rt, ↓kF_nx, ↓kF_exc, ↓w_add, ↓w_sub, ↓w_pow10, ↓w_neg, ↓w_lt, ↓w_le, ↓w_gt, ↓w_ge, ↓w_ix0, ↓w_ix1, ↓w_ix2, ↓w_ix3, ↓w_eqI, ↓w_eqS, ↓w_eqT2, ↓w_abs, ↓w_lenT, ↓w_lenS, ↓w_max, ↓w_min, ↓w_intT, ↓w_intF, ↓w_isBool, ↓w_isTup, ↓w_tupT, ↓w_listT, ↓w_cutT, ↓brw_t, ↓brw_f, ↓brz_t, ↓brz_f, List.getElem?_cons_zero, List.getElem?_cons_succ, List.set_cons_zero, List.set_cons_succ, List.length_cons, List.length_nil, List.map_cons, List.map_nil, List.replicate, List.cons_append, List.nil_append, small, Nat.reduceAdd, Nat.reduceLeDiff, Nat.reduceEqDiff, Int.cast_ofNat_Int, Int.reduceBEq, BEq.rfl, ↓w_Yes, ↓w_bTru, ↓augF_ok, ↓z_Put, ↓putF_ok, ↓putG_ok, ↓w_isNn, ↓w_isNt, wipeF_nil, wipeF_cons, Int.reduceLE, Int.reduceLT, Int.reduceToNat, Int.reducePow, Int.reduceNeg, Int.reduceSub, Int.reduceAdd, Int.reduceMul, decide_true, decide_false, Bool.not_true, Bool.not_false, Bool.bne_false, Bool.bne_true, ↓w_aStar, ↓w_stT, ↓kSt_ok, ↓w_aDef, ↓kDf_ok, ↓w_Cnt, ↓w_Ext, ↓w_isBB, ↓w_isIB, ↓w_Enum, ↓w_enT, w_addL (g7.lst l3) l6 (decide_eq_true (by simp; omega))]
    refine k _ _ ((g1.trans (g3.trans g7)).trans (Gr.app _ _)) ((g1.trans (g3.trans g7)).len) ?_
    rw [lst_new, hull, if_neg (by omega), hul, List.map_append, map_dropLast', map_dropLast']
/-- corners of a drawn ring -/
theorem ring_w {top : Int} (P : PotAt h p n) (hn : n < 990000) (t0 : 0 ≤ top) (t1 : top ≤ 1000000000) (k : ∀ (c : List Zp) h1, Rn c → (∀ q ∈ c, In9 q) → PotAt h1 p (n + 30) → Step p h h1 → Φ (.ok (.tup (c.map dZ)) h1)) : W (S__law_ring [.ref p, .int top] h) Φ := by
  have rest : ∀ (top : Int) (h1 : Hq), 0 ≤ top → top ≤ 1000000000 → PotAt h1 p (n + 1) → Step p h h1 → Z ((sSeq (sAsg (eOp dIx (eLst (aCons (eK (.int 1)) (aCons (eK (.int 2)) (aCons (eK (.int 3)) (aCons (eK (.int 4)) (aCons (eK (.int 4)) (aCons (eOp dAdd (eK (.int 1)) (eCall 2 S__law_take (aCons (eV 0) (aCons (eK (.int 8)) (aNil))))) (aNil)))))))) (eCall 2 S__law_take (aCons (eV 0) (aCons (eK (.int 6)) (aNil))))) (tgN 2)) (sSeq (sAsg (eComp (iRange (aCons (eV 2) (aNil))) [6] (tgN 6) (cYes) (eTup (aCons (eOp dSub (eCall 2 S__law_take (aCons (eV 0) (aCons (eOp dAdd (eOp dMul (eK (.int 2)) (eV 1)) (eK (.int 1))) (aNil)))) (eV 1)) (aCons (eOp dSub (eCall 2 S__law_take (aCons (eV 0) (aCons (eOp dAdd (eOp dMul (eK (.int 2)) (eV 1)) (eK (.int 1))) (aNil)))) (eV 1)) (aNil))))) (tgN 3)) (sSeq (sAsg (eCall 1 S__law_hull (aCons (eV 3) (aNil))) (tgN 4)) (sSeq (sAsg (eCall 2 S__law_take (aCons (eV 0) (aCons (eBi gLen (aCons (eV 4) (aNil))) (aNil)))) (tgN 5)) (sSeq (sRet (eBi gTuple (aCons (eOp dAdd (eCut (eV 4) (oSome (eV 5)) (oNone)) (eCut (eV 4) (oNone) (oSome (eV 5)))) (aNil)))) (sEnd)))))) [some (.ref p), some (.int top), none, none, none, none, none] h1) (kF Φ) := by
    intro top h1 t0 t1 P1 S1
    simp only [↓w_ok, ↓kB_ok, ↓kI_ok, ↓w_K, ↓w_V, ↓w_vR, ↓w_Op, ↓kO1_ok, ↓kO2_ok, ↓w_Un, ↓w_bOf, ↓w_isB, ↓kBl_ok, ↓kBl_exc, ↓kIf_ok, ↓kIf_exc, ↓w_okB, ↓w_okD, ↓w_bAnd, ↓w_bOr, ↓w_bNot, ↓kNot_ok, ↓kNot_exc, ↓w_eAnd, ↓w_eOr, ↓w_eNot, ↓kNotV_ok, ↓w_eIf, ↓w_aNil, ↓w_aCons, ↓kA1_ok, ↓kA2_ok, ↓kA1_exc, ↓kA2_exc, ↓w_Tup, ↓w_Lst, ↓w_mkT, ↓w_mkL, ↓w_Dct, ↓w_Dct2, ↓w_SoSe, ↓w_Call, ↓w_goS, ↓w_Bi, ↓w_Isi, ↓w_Cut, ↓kC1_ok, ↓kC2_ok, ↓kC3_ok, ↓w_oNone, ↓w_oSome, ↓w_vO, ↓w_Chain, ↓kCh1_ok, ↓kCh2_ok, ↓kCh3_ok, ↓w_chA, ↓w_App, ↓w_Ins, ↓w_insG, ↓z_nx, ↓z_End, ↓z_Seq, ↓kT_nx, ↓kT_rt, ↓kT_bk, ↓kT_ct, ↓kT_exc, ↓z_If, ↓kIfS_ok, ↓kIfS_exc, ↓z_Ret, ↓kRet_ok, ↓kRet_exc, ↓z_Expr, ↓kNx_ok, ↓kNx_exc, ↓z_Asg, ↓kAs_ok, ↓kAs_exc, ↓z_tgO, t_N, t_T, t_nil, t_cons, t_G, t_gnil, t_gcons, t_bind, ↓z_Par, ↓kPar_ok, ↓z_Raise, ↓z_Break, ↓z_Cont, ↓z_For, ↓kSrc_ok, ↓w_Range, ↓w_rgF, ↓w_SeqI, ↓w_sqT, ↓w_Zip, ↓w_zpT, ↓w_Comp, ↓kCo_ok, ↓w_of, ↓kF_rt, ↓kF_nx, ↓kF_exc, ↓w_add, ↓w_sub, ↓w_pow10, ↓w_neg, ↓w_lt, ↓w_le, ↓w_gt, ↓w_ge, ↓w_ix0, ↓w_ix1, ↓w_ix2, ↓w_ix3, ↓w_eqI, ↓w_eqS, ↓w_eqT2, ↓w_abs, ↓w_lenT, ↓w_lenS, ↓w_max, ↓w_min, ↓w_intT, ↓w_intF, ↓w_isBool, ↓w_isTup, ↓w_tupT, ↓w_listT, ↓w_cutT, ↓brw_t, ↓brw_f, ↓brz_t, ↓brz_f, List.getElem?_cons_zero, List.getElem?_cons_succ, List.set_cons_zero, List.set_cons_succ, List.length_cons, List.length_nil, List.map_cons, List.map_nil, List.replicate, List.cons_append, List.nil_append, small, Nat.reduceAdd, Nat.reduceLeDiff, Nat.reduceEqDiff, Int.cast_ofNat_Int, Int.reduceBEq, BEq.rfl, ↓w_Yes, ↓w_bTru, ↓augF_ok, ↓z_Put, ↓putF_ok, ↓putG_ok, ↓w_isNn, ↓w_isNt, wipeF_nil, wipeF_cons, Int.reduceLE, Int.reduceLT, Int.reduceToNat, Int.reducePow, Int.reduceNeg, Int.reduceSub, Int.reduceAdd, Int.reduceMul, decide_true, decide_false, Bool.not_true, Bool.not_false, Bool.bne_false, Bool.bne_true, ↓w_aStar, ↓w_stT, ↓kSt_ok, ↓w_aDef, ↓kDf_ok, ↓w_Cnt, ↓w_Ext, ↓w_isBB, ↓w_isIB, ↓w_Enum, ↓w_enT]
    refine take_w P1 (by omega) (by decide) (by decide) fun a h2 a0 a1 P2 S2 => ?_
    simp only [↓w_ok, ↓kB_ok, ↓kI_ok, ↓w_K, ↓w_V, ↓w_vR, ↓w_Op, ↓kO1_ok, ↓kO2_ok, ↓w_Un, ↓w_bOf, ↓w_isB, ↓kBl_ok, ↓kBl_exc, ↓kIf_ok, ↓kIf_exc, ↓w_okB, ↓w_okD, ↓w_bAnd, ↓w_bOr, ↓w_bNot, ↓kNot_ok, ↓kNot_exc, ↓w_eAnd, ↓w_eOr, ↓w_eNot, ↓kNotV_ok, ↓w_eIf, ↓w_aNil, ↓w_aCons, ↓kA1_ok, ↓kA2_ok, ↓kA1_exc, ↓kA2_exc, ↓w_Tup, ↓w_Lst, ↓w_mkT, ↓w_mkL, ↓w_Dct, ↓w_Dct2, ↓w_SoSe, ↓w_Call, ↓w_goS, ↓w_Bi, ↓w_Isi, ↓w_Cut, ↓kC1_ok, ↓kC2_ok, ↓kC3_ok, ↓w_oNone, ↓w_oSome, ↓w_vO, ↓w_Chain, ↓kCh1_ok, ↓kCh2_ok, ↓kCh3_ok, ↓w_chA, ↓w_App, ↓w_Ins, ↓w_insG, ↓z_nx, ↓z_End, ↓z_Seq, ↓kT_nx, ↓kT_rt, ↓kT_bk, ↓kT_ct, ↓kT_exc, ↓z_If, ↓kIfS_ok, ↓kIfS_exc, ↓z_Ret, ↓kRet_ok, ↓kRet_exc, ↓z_Expr, ↓kNx_ok, ↓kNx_exc, ↓z_Asg, ↓kAs_ok, ↓kAs_exc, ↓z_tgO, t_N, t_T, t_nil, t_cons, t_G, t_gnil, t_gcons, t_bind, ↓z_Par, ↓kPar_ok, ↓z_Raise, ↓z_Break, ↓z_Cont, ↓z_For, ↓kSrc_ok, ↓w_Range, ↓w_rgF, ↓w_SeqI, ↓w_sqT, ↓w_Zip, ↓w_zpT, ↓w_Comp, ↓kCo_ok, ↓w_of, ↓kF_rt, ↓kF_nx, ↓kF_exc, ↓w_add, ↓w_sub, ↓w_pow10, ↓w_neg, ↓w_lt, ↓w_le, ↓w_gt, ↓w_ge, ↓w_ix0, ↓w_ix1, ↓w_ix2, ↓w_ix3, ↓w_eqI, ↓w_eqS, ↓w_eqT2, ↓w_abs, ↓w_lenT, ↓w_lenS, ↓w_max, ↓w_min, ↓w_intT, ↓w_intF, ↓w_isBool, ↓w_isTup, ↓w_tupT, ↓w_listT, ↓w_cutT, ↓brw_t, ↓brw_f, ↓brz_t, ↓brz_f, List.getElem?_cons_zero, List.getElem?_cons_succ, List.set_cons_zero, List.set_cons_succ, List.length_cons, List.length_nil, List.map_cons, List.map_nil, List.replicate, List.cons_append, List.nil_append, small, Nat.reduceAdd, Nat.reduceLeDiff, Nat.reduceEqDiff, Int.cast_ofNat_Int, Int.reduceBEq, BEq.rfl, ↓w_Yes, ↓w_bTru, ↓augF_ok, ↓z_Put, ↓putF_ok, ↓putG_ok, ↓w_isNn, ↓w_isNt, wipeF_nil, wipeF_cons, Int.reduceLE, Int.reduceLT, Int.reduceToNat, Int.reducePow, Int.reduceNeg, Int.reduceSub, Int.reduceAdd, Int.reduceMul, decide_true, decide_false, Bool.not_true, Bool.not_false, Bool.bne_false, Bool.bne_true, ↓w_aStar, ↓w_stT, ↓kSt_ok, ↓w_aDef, ↓kDf_ok, ↓w_Cnt, ↓w_Ext, ↓w_isBB, ↓w_isIB, ↓w_Enum, ↓w_enT]
    refine take_w (P2.app _) (by omega) (by decide) (by decide) fun b h3 b0 b1 P3 S3 => ?_
    simp only [↓w_ok, ↓kB_ok, ↓kI_ok, ↓w_K, ↓w_V, ↓w_vR, ↓w_Op, ↓kO1_ok, ↓kO2_ok, ↓w_Un, ↓w_bOf, ↓w_isB, ↓kBl_ok, ↓kBl_exc, ↓kIf_ok, ↓kIf_exc, ↓w_okB, ↓w_okD, ↓w_bAnd, ↓w_bOr, ↓w_bNot, ↓kNot_ok, ↓kNot_exc, ↓w_eAnd, ↓w_eOr, ↓w_eNot, ↓kNotV_ok, ↓w_eIf, ↓w_aNil, ↓w_aCons, ↓kA1_ok, ↓kA2_ok, ↓kA1_exc, ↓kA2_exc, ↓w_Tup, ↓w_Lst, ↓w_mkT, ↓w_mkL, ↓w_Dct, ↓w_Dct2, ↓w_SoSe, ↓w_Call, ↓w_goS, ↓w_Bi, ↓w_Isi, ↓w_Cut, ↓kC1_ok, ↓kC2_ok, ↓kC3_ok, ↓w_oNone, ↓w_oSome, ↓w_vO, ↓w_Chain, ↓kCh1_ok, ↓kCh2_ok, ↓kCh3_ok, ↓w_chA, ↓w_App, ↓w_Ins, ↓w_insG, ↓z_nx, ↓z_End, ↓z_Seq, ↓kT_nx, ↓kT_rt, ↓kT_bk, ↓kT_ct, ↓kT_exc, ↓z_If, ↓kIfS_ok, ↓kIfS_exc, ↓z_Ret, ↓kRet_ok, ↓kRet_exc, ↓z_Expr, ↓kNx_ok, ↓kNx_exc, ↓z_Asg, ↓kAs_ok, ↓kAs_exc, ↓z_tgO, t_N, t_T, t_nil, t_cons, t_G, t_gnil, t_gcons, t_bind, ↓z_Par, ↓kPar_ok, ↓z_Raise, ↓z_Break, ↓z_Cont, ↓z_For, ↓kSrc_ok, ↓w_Range, ↓w_rgF, ↓w_SeqI, ↓w_sqT, ↓w_Zip, ↓w_zpT, ↓w_Comp, ↓kCo_ok, ↓w_of, ↓kF_rt, ↓kF_nx, ↓kF_exc, ↓w_add, ↓w_sub, ↓w_pow10, ↓w_neg, ↓w_lt, ↓w_le, ↓w_gt, ↓w_ge, ↓w_ix0, ↓w_ix1, ↓w_ix2, ↓w_ix3, ↓w_eqI, ↓w_eqS, ↓w_eqT2, ↓w_abs, ↓w_lenT, ↓w_lenS, ↓w_max, ↓w_min, ↓w_intT, ↓w_intF, ↓w_isBool, ↓w_isTup, ↓w_tupT, ↓w_listT, ↓w_cutT, ↓brw_t, ↓brw_f, ↓brz_t, ↓brz_f, List.getElem?_cons_zero, List.getElem?_cons_succ, List.set_cons_zero, List.set_cons_succ, List.length_cons, List.length_nil, List.map_cons, List.map_nil, List.replicate, List.cons_append, List.nil_append, small, Nat.reduceAdd, Nat.reduceLeDiff, Nat.reduceEqDiff, Int.cast_ofNat_Int, Int.reduceBEq, BEq.rfl, ↓w_Yes, ↓w_bTru, ↓augF_ok, ↓z_Put, ↓putF_ok, ↓putG_ok, ↓w_isNn, ↓w_isNt, wipeF_nil, wipeF_cons, Int.reduceLE, Int.reduceLT, Int.reduceToNat, Int.reducePow, Int.reduceNeg, Int.reduceSub, Int.reduceAdd, Int.reduceMul, decide_true, decide_false, Bool.not_true, Bool.not_false, Bool.bne_false, Bool.bne_true, ↓w_aStar, ↓w_stT, ↓kSt_ok, ↓w_aDef, ↓kDf_ok, ↓w_Cnt, ↓w_Ext, ↓w_isBB, ↓w_isIB, ↓w_Enum, ↓w_enT]
    have l3 := S3.lst (by have := P2.lt; omega) (lst_new h2 _)
    refine w_ixP (intIn 1 8) l3 b0 (by simpa using b1) (by simp [intIn]; omega) ?_
    rintro _ ⟨many, rfl, m0, m1⟩
    simp only [↓w_ok, ↓kB_ok, ↓kI_ok, ↓w_K, ↓w_V, ↓w_vR, ↓w_Op, ↓kO1_ok, ↓kO2_ok, ↓w_Un, ↓w_bOf, ↓w_isB, ↓kBl_ok, ↓kBl_exc, ↓kIf_ok, ↓kIf_exc, ↓w_okB, ↓w_okD, ↓w_bAnd, ↓w_bOr, ↓w_bNot, ↓kNot_ok, ↓kNot_exc, ↓w_eAnd, ↓w_eOr, ↓w_eNot, ↓kNotV_ok, ↓w_eIf, ↓w_aNil, ↓w_aCons, ↓kA1_ok, ↓kA2_ok, ↓kA1_exc, ↓kA2_exc, ↓w_Tup, ↓w_Lst, ↓w_mkT, ↓w_mkL, ↓w_Dct, ↓w_Dct2, ↓w_SoSe, ↓w_Call, ↓w_goS, ↓w_Bi, ↓w_Isi, ↓w_Cut, ↓kC1_ok, ↓kC2_ok, ↓kC3_ok, ↓w_oNone, ↓w_oSome, ↓w_vO, ↓w_Chain, ↓kCh1_ok, ↓kCh2_ok, ↓kCh3_ok, ↓w_chA, ↓w_App, ↓w_Ins, ↓w_insG, ↓z_nx, ↓z_End, ↓z_Seq, ↓kT_nx, ↓kT_rt, ↓kT_bk, ↓kT_ct, ↓kT_exc, ↓z_If, ↓kIfS_ok, ↓kIfS_exc, ↓z_Ret, ↓kRet_ok, ↓kRet_exc, ↓z_Expr, ↓kNx_ok, ↓kNx_exc, ↓z_Asg, ↓kAs_ok, ↓kAs_exc, ↓z_tgO, t_N, t_T, t_nil, t_cons, t_G, t_gnil, t_gcons, t_bind, ↓z_Par, ↓kPar_ok, ↓z_Raise, ↓z_Break, ↓z_Cont, ↓z_For, ↓kSrc_ok, ↓w_Range, ↓w_rgF, ↓w_SeqI, ↓w_sqT, ↓w_Zip, ↓w_zpT, ↓w_Comp, ↓kCo_ok, ↓w_of, ↓kF_rt, ↓kF_nx, ↓kF_exc, ↓w_add, ↓w_sub, ↓w_pow10, ↓w_neg, ↓w_lt, ↓w_le, ↓w_gt, ↓w_ge, ↓w_ix0, ↓w_ix1, ↓w_ix2, ↓w_ix3, ↓w_eqI, ↓w_eqS, ↓w_eqT2, ↓w_abs, ↓w_lenT, ↓w_lenS, ↓w_max, ↓w_min, ↓w_intT, ↓w_intF, ↓w_isBool, ↓w_isTup, ↓w_tupT, ↓w_listT, ↓w_cutT, ↓brw_t, ↓brw_f, ↓brz_t, ↓brz_f, List.getElem?_cons_zero, List.getElem?_cons_succ, List.set_cons_zero, List.set_cons_succ, List.length_cons, List.length_nil, List.map_cons, List.map_nil, List.replicate, List.cons_append, List.nil_append, small, Nat.reduceAdd, Nat.reduceLeDiff, Nat.reduceEqDiff, Int.cast_ofNat_Int, Int.reduceBEq, BEq.rfl, ↓w_Yes, ↓w_bTru, ↓augF_ok, ↓z_Put, ↓putF_ok, ↓putG_ok, ↓w_isNn, ↓w_isNt, wipeF_nil, wipeF_cons, Int.reduceLE, Int.reduceLT, Int.reduceToNat, Int.reducePow, Int.reduceNeg, Int.reduceSub, Int.reduceAdd, Int.reduceMul, decide_true, decide_false, Bool.not_true, Bool.not_false, Bool.bne_false, Bool.bne_true, ↓w_aStar, ↓w_stT, ↓kSt_ok, ↓w_aDef, ↓kDf_ok, ↓w_Cnt, ↓w_Ext, ↓w_isBB, ↓w_isIB, ↓w_Enum, ↓w_enT]
    obtain ⟨m, hm⟩ : ∃ m : Nat, many = (m : Int) := ⟨many.toNat, by omega⟩
    rw [hm, iR_ok (by omega), w_ok, kCo_ok]
    simp only [↓w_ok, ↓kB_ok, ↓kI_ok, ↓w_K, ↓w_V, ↓w_vR, ↓w_Op, ↓kO1_ok, ↓kO2_ok, ↓w_Un, ↓w_bOf, ↓w_isB, ↓kBl_ok, ↓kBl_exc, ↓kIf_ok, ↓kIf_exc, ↓w_okB, ↓w_okD, ↓w_bAnd, ↓w_bOr, ↓w_bNot, ↓kNot_ok, ↓kNot_exc, ↓w_eAnd, ↓w_eOr, ↓w_eNot, ↓kNotV_ok, ↓w_eIf, ↓w_aNil, ↓w_aCons, ↓kA1_ok, ↓kA2_ok, ↓kA1_exc, ↓kA2_exc, ↓w_Tup, ↓w_Lst, ↓w_mkT, ↓w_mkL, ↓w_Dct, ↓w_Dct2, ↓w_SoSe, ↓w_Call, ↓w_goS, ↓w_Bi, ↓w_Isi, ↓w_Cut, ↓kC1_ok, ↓kC2_ok, ↓kC3_ok, ↓w_oNone, ↓w_oSome, ↓w_vO, ↓w_Chain, ↓kCh1_ok, ↓kCh2_ok, ↓kCh3_ok, ↓w_chA, ↓w_App, ↓w_Ins, ↓w_insG, ↓z_nx, ↓z_End, ↓z_Seq, ↓kT_nx, ↓kT_rt, ↓kT_bk, ↓kT_ct, ↓kT_exc, ↓z_If, ↓kIfS_ok, ↓kIfS_exc, ↓z_Ret, ↓kRet_ok, ↓kRet_exc, ↓z_Expr, ↓kNx_ok, ↓kNx_exc, ↓z_Asg, ↓kAs_ok, ↓kAs_exc, ↓z_tgO, t_N, t_T, t_nil, t_cons, t_G, t_gnil, t_gcons, t_bind, ↓z_Par, ↓kPar_ok, ↓z_Raise, ↓z_Break, ↓z_Cont, ↓z_For, ↓kSrc_ok, ↓w_Range, ↓w_rgF, ↓w_SeqI, ↓w_sqT, ↓w_Zip, ↓w_zpT, ↓w_Comp, ↓kCo_ok, ↓w_of, ↓kF_rt, ↓kF_nx, ↓kF_exc, ↓w_add, ↓w_sub, ↓w_pow10, ↓w_neg, ↓w_lt, ↓w_le, ↓w_gt, ↓w_ge, ↓w_ix0, ↓w_ix1, ↓w_ix2, ↓w_ix3, ↓w_eqI, ↓w_eqS, ↓w_eqT2, ↓w_abs, ↓w_lenT, ↓w_lenS, ↓w_max, ↓w_min, ↓w_intT, ↓w_intF, ↓w_isBool, ↓w_isTup, ↓w_tupT, ↓w_listT, ↓w_cutT, ↓brw_t, ↓brw_f, ↓brz_t, ↓brz_f, List.getElem?_cons_zero, List.getElem?_cons_succ, List.set_cons_zero, List.set_cons_succ, List.length_cons, List.length_nil, List.map_cons, List.map_nil, List.replicate, List.cons_append, List.nil_append, small, Nat.reduceAdd, Nat.reduceLeDiff, Nat.reduceEqDiff, Int.cast_ofNat_Int, Int.reduceBEq, BEq.rfl, ↓w_Yes, ↓w_bTru, ↓augF_ok, ↓z_Put, ↓putF_ok, ↓putG_ok, ↓w_isNn, ↓w_isNt, wipeF_nil, wipeF_cons, Int.reduceLE, Int.reduceLT, Int.reduceToNat, Int.reducePow, Int.reduceNeg, Int.reduceSub, Int.reduceAdd, Int.reduceMul, decide_true, decide_false, Bool.not_true, Bool.not_false, Bool.bne_false, Bool.bne_true, ↓w_aStar, ↓w_stT, ↓kSt_ok, ↓w_aDef, ↓kDf_ok, ↓w_Cnt, ↓w_Ext, ↓w_isBB, ↓w_isIB, ↓w_Enum, ↓w_enT]
    have np : h3.length ≠ p := by have := P3.lt; omega
    have mo : mulOk 2 top = true := Bd.mk (A := 3) (B := 40) (Bd.of (by decide) (by decide)) (Bd.of (by omega) (by omega))
    refine comp_draw (J := fun i acc h' => ∃ qs : List Zp, acc = qs.map dZ ∧ qs.length = i ∧ (∀ q ∈ qs, In9 q) ∧ PotAt h' p (n + 3 + 2 * i) ∧ Step p h3 h' ∧ lstAt h' h3.length = some acc) (by omega) ⟨[], rfl, rfl, by simp, (P3.app _).mono (by omega), Step.app _ _ _, lst_new _ _⟩ ?_ ?_ ?_
    · rintro i acc h' ⟨qs, rfl, e, _, _, _, l⟩
      exact ⟨by simp [e], l⟩
    · rintro i acc h' hi ⟨qs, rfl, e, ok, P', S', l⟩
      simp only [↓w_ok, ↓kB_ok, ↓kI_ok, ↓w_K, ↓w_V, ↓w_vR, ↓w_Op, ↓kO1_ok, ↓kO2_ok, ↓w_Un, ↓w_bOf, ↓w_isB, ↓kBl_ok, ↓kBl_exc, ↓kIf_ok, ↓kIf_exc, ↓w_okB, ↓w_okD, ↓w_bAnd, ↓w_bOr, ↓w_bNot, ↓kNot_ok, ↓kNot_exc, ↓w_eAnd, ↓w_eOr, ↓w_eNot, ↓kNotV_ok, ↓w_eIf, ↓w_aNil, ↓w_aCons, ↓kA1_ok, ↓kA2_ok, ↓kA1_exc, ↓kA2_exc, ↓w_Tup, ↓w_Lst, ↓w_mkT, ↓w_mkL, ↓w_Dct, ↓w_Dct2, ↓w_SoSe, ↓w_Call, ↓w_goS, ↓w_Bi, ↓w_Isi, ↓w_Cut, ↓kC1_ok, ↓kC2_ok, ↓kC3_ok, ↓w_oNone, ↓w_oSome, ↓w_vO, ↓w_Chain, ↓kCh1_ok, ↓kCh2_ok, ↓kCh3_ok, ↓w_chA, ↓w_App, ↓w_Ins, ↓w_insG, ↓z_nx, ↓z_End, ↓z_Seq, ↓kT_nx, ↓kT_rt, ↓kT_bk, ↓kT_ct, ↓kT_exc, ↓z_If, ↓kIfS_ok, ↓kIfS_exc, ↓z_Ret, ↓kRet_ok, ↓kRet_exc, ↓z_Expr, ↓kNx_ok, ↓kNx_exc, ↓z_Asg, ↓kAs_ok, ↓kAs_exc, ↓z_tgO, t_N, t_T, t_nil, t_cons, t_G, t_gnil, t_gcons, t_bind, ↓z_Par, ↓kPar_ok, ↓z_Raise, ↓z_Break, ↓z_Cont, ↓z_For, ↓kSrc_ok, ↓w_Range, ↓w_rgF, ↓w_SeqI, ↓w_sqT, ↓w_Zip, ↓w_zpT, ↓w_Comp, ↓kCo_ok, ↓w_of, ↓kF_rt, ↓kF_nx, ↓kF_exc, ↓w_add, ↓w_sub, ↓w_pow10, ↓w_neg, ↓w_lt, ↓w_le, ↓w_gt, ↓w_ge, ↓w_ix0, ↓w_ix1, ↓w_ix2, ↓w_ix3, ↓w_eqI, ↓w_eqS, ↓w_eqT2, ↓w_abs, ↓w_lenT, ↓w_lenS, ↓w_max, ↓w_min, ↓w_intT, ↓w_intF, ↓w_isBool, ↓w_isTup, ↓w_tupT, ↓w_listT, ↓w_cutT, ↓brw_t, ↓brw_f, ↓brz_t, ↓brz_f, List.getElem?_cons_zero, List.getElem?_cons_succ, List.set_cons_zero, List.set_cons_succ, List.length_cons, List.length_nil, List.map_cons, List.map_nil, List.replicate, List.cons_append, List.nil_append, small, Nat.reduceAdd, Nat.reduceLeDiff, Nat.reduceEqDiff, Int.cast_ofNat_Int, Int.reduceBEq, BEq.rfl, ↓w_Yes, ↓w_bTru, ↓augF_ok, ↓z_Put, ↓putF_ok, ↓putG_ok, ↓w_isNn, ↓w_isNt, wipeF_nil, wipeF_cons, Int.reduceLE, Int.reduceLT, Int.reduceToNat, Int.reducePow, Int.reduceNeg, Int.reduceSub, Int.reduceAdd, Int.reduceMul, decide_true, decide_false, Bool.not_true, Bool.not_false, Bool.bne_false, Bool.bne_true, ↓w_aStar, ↓w_stT, ↓kSt_ok, ↓w_aDef, ↓kDf_ok, ↓w_Cnt, ↓w_Ext, ↓w_isBB, ↓w_isIB, ↓w_Enum, ↓w_enT, w_mul mo]
      refine take_w P' (by omega) (by omega) (Int.lt_of_le_of_lt (show 2 * top + 1 ≤ 2 * 1000000000 + 1 by omega) (by decide)) fun x h4 x0 x1 P4 S4 => ?_
      simp only [↓w_ok, ↓kB_ok, ↓kI_ok, ↓w_K, ↓w_V, ↓w_vR, ↓w_Op, ↓kO1_ok, ↓kO2_ok, ↓w_Un, ↓w_bOf, ↓w_isB, ↓kBl_ok, ↓kBl_exc, ↓kIf_ok, ↓kIf_exc, ↓w_okB, ↓w_okD, ↓w_bAnd, ↓w_bOr, ↓w_bNot, ↓kNot_ok, ↓kNot_exc, ↓w_eAnd, ↓w_eOr, ↓w_eNot, ↓kNotV_ok, ↓w_eIf, ↓w_aNil, ↓w_aCons, ↓kA1_ok, ↓kA2_ok, ↓kA1_exc, ↓kA2_exc, ↓w_Tup, ↓w_Lst, ↓w_mkT, ↓w_mkL, ↓w_Dct, ↓w_Dct2, ↓w_SoSe, ↓w_Call, ↓w_goS, ↓w_Bi, ↓w_Isi, ↓w_Cut, ↓kC1_ok, ↓kC2_ok, ↓kC3_ok, ↓w_oNone, ↓w_oSome, ↓w_vO, ↓w_Chain, ↓kCh1_ok, ↓kCh2_ok, ↓kCh3_ok, ↓w_chA, ↓w_App, ↓w_Ins, ↓w_insG, ↓z_nx, ↓z_End, ↓z_Seq, ↓kT_nx, ↓kT_rt, ↓kT_bk, ↓kT_ct, ↓kT_exc, ↓z_If, ↓kIfS_ok, ↓kIfS_exc, ↓z_Ret, ↓kRet_ok, ↓kRet_exc, ↓z_Expr, ↓kNx_ok, ↓kNx_exc, ↓z_Asg, ↓kAs_ok, ↓kAs_exc, ↓z_tgO, t_N, t_T, t_nil, t_cons, t_G, t_gnil, t_gcons, t_bind, ↓z_Par, ↓kPar_ok, ↓z_Raise, ↓z_Break, ↓z_Cont, ↓z_For, ↓kSrc_ok, ↓w_Range, ↓w_rgF, ↓w_SeqI, ↓w_sqT, ↓w_Zip, ↓w_zpT, ↓w_Comp, ↓kCo_ok, ↓w_of, ↓kF_rt, ↓kF_nx, ↓kF_exc, ↓w_add, ↓w_sub, ↓w_pow10, ↓w_neg, ↓w_lt, ↓w_le, ↓w_gt, ↓w_ge, ↓w_ix0, ↓w_ix1, ↓w_ix2, ↓w_ix3, ↓w_eqI, ↓w_eqS, ↓w_eqT2, ↓w_abs, ↓w_lenT, ↓w_lenS, ↓w_max, ↓w_min, ↓w_intT, ↓w_intF, ↓w_isBool, ↓w_isTup, ↓w_tupT, ↓w_listT, ↓w_cutT, ↓brw_t, ↓brw_f, ↓brz_t, ↓brz_f, List.getElem?_cons_zero, List.getElem?_cons_succ, List.set_cons_zero, List.set_cons_succ, List.length_cons, List.length_nil, List.map_cons, List.map_nil, List.replicate, List.cons_append, List.nil_append, small, Nat.reduceAdd, Nat.reduceLeDiff, Nat.reduceEqDiff, Int.cast_ofNat_Int, Int.reduceBEq, BEq.rfl, ↓w_Yes, ↓w_bTru, ↓augF_ok, ↓z_Put, ↓putF_ok, ↓putG_ok, ↓w_isNn, ↓w_isNt, wipeF_nil, wipeF_cons, Int.reduceLE, Int.reduceLT, Int.reduceToNat, Int.reducePow, Int.reduceNeg, Int.reduceSub, Int.reduceAdd, Int.reduceMul, decide_true, decide_false, Bool.not_true, Bool.not_false, Bool.bne_false, Bool.bne_true, ↓w_aStar, ↓w_stT, ↓kSt_ok, ↓w_aDef, ↓kDf_ok, ↓w_Cnt, ↓w_Ext, ↓w_isBB, ↓w_isIB, ↓w_Enum, ↓w_enT, w_mul mo]
      refine take_w P4 (by omega) (by omega) (Int.lt_of_le_of_lt (show 2 * top + 1 ≤ 2 * 1000000000 + 1 by omega) (by decide)) fun y h5 y0 y1 P5 S5 => ?_
      simp only [↓w_ok, ↓kB_ok, ↓kI_ok, ↓w_K, ↓w_V, ↓w_vR, ↓w_Op, ↓kO1_ok, ↓kO2_ok, ↓w_Un, ↓w_bOf, ↓w_isB, ↓kBl_ok, ↓kBl_exc, ↓kIf_ok, ↓kIf_exc, ↓w_okB, ↓w_okD, ↓w_bAnd, ↓w_bOr, ↓w_bNot, ↓kNot_ok, ↓kNot_exc, ↓w_eAnd, ↓w_eOr, ↓w_eNot, ↓kNotV_ok, ↓w_eIf, ↓w_aNil, ↓w_aCons, ↓kA1_ok, ↓kA2_ok, ↓kA1_exc, ↓kA2_exc, ↓w_Tup, ↓w_Lst, ↓w_mkT, ↓w_mkL, ↓w_Dct, ↓w_Dct2, ↓w_SoSe, ↓w_Call, ↓w_goS, ↓w_Bi, ↓w_Isi, ↓w_Cut, ↓kC1_ok, ↓kC2_ok, ↓kC3_ok, ↓w_oNone, ↓w_oSome, ↓w_vO, ↓w_Chain, ↓kCh1_ok, ↓kCh2_ok, ↓kCh3_ok, ↓w_chA, ↓w_App, ↓w_Ins, ↓w_insG, ↓z_nx, ↓z_End, ↓z_Seq, ↓kT_nx, ↓kT_rt, ↓kT_bk, ↓kT_ct, ↓kT_exc, ↓z_If, ↓kIfS_ok, ↓kIfS_exc, ↓z_Ret, ↓kRet_ok, ↓kRet_exc, ↓z_Expr, ↓kNx_ok, ↓kNx_exc, ↓z_Asg, ↓kAs_ok, ↓kAs_exc, ↓z_tgO, t_N, t_T, t_nil, t_cons, t_G, t_gnil, t_gcons, t_bind, ↓z_Par, ↓kPar_ok, ↓z_Raise, ↓z_Break, ↓z_Cont, ↓z_For, ↓kSrc_ok, ↓w_Range, ↓w_rgF, ↓w_SeqI, ↓w_sqT, ↓w_Zip, ↓w_zpT, ↓w_Comp, ↓kCo_ok, ↓w_of, ↓kF_rt, ↓kF_nx, ↓kF_exc, ↓w_add, ↓w_sub, ↓w_pow10, ↓w_neg, ↓w_lt, ↓w_le, ↓w_gt, ↓w_ge, ↓w_ix0, ↓w_ix1, ↓w_ix2, ↓w_ix3, ↓w_eqI, ↓w_eqS, ↓w_eqT2, ↓w_abs, ↓w_lenT, ↓w_lenS, ↓w_max, ↓w_min, ↓w_intT, ↓w_intF, ↓w_isBool, ↓w_isTup, ↓w_tupT, ↓w_listT, ↓w_cutT, ↓brw_t, ↓brw_f, ↓brz_t, ↓brz_f, List.getElem?_cons_zero, List.getElem?_cons_succ, List.set_cons_zero, List.set_cons_succ, List.length_cons, List.length_nil, List.map_cons, List.map_nil, List.replicate, List.cons_append, List.nil_append, small, Nat.reduceAdd, Nat.reduceLeDiff, Nat.reduceEqDiff, Int.cast_ofNat_Int, Int.reduceBEq, BEq.rfl, ↓w_Yes, ↓w_bTru, ↓augF_ok, ↓z_Put, ↓putF_ok, ↓putG_ok, ↓w_isNn, ↓w_isNt, wipeF_nil, wipeF_cons, Int.reduceLE, Int.reduceLT, Int.reduceToNat, Int.reducePow, Int.reduceNeg, Int.reduceSub, Int.reduceAdd, Int.reduceMul, decide_true, decide_false, Bool.not_true, Bool.not_false, Bool.bne_false, Bool.bne_true, ↓w_aStar, ↓w_stT, ↓kSt_ok, ↓w_aDef, ↓kDf_ok, ↓w_Cnt, ↓w_Ext, ↓w_isBB, ↓w_isIB, ↓w_Enum, ↓w_enT]
      refine ⟨_, _, rfl, S5.lst np (S4.lst np l), qs ++ [(x - top, y - top)], by simp, by simp [e], fun z hz => ?_, (P5.put np _).mono (by omega), (S'.trans (S4.trans S5)).putNew (Nat.le_refl _) _, ?_⟩
      · rcases List.mem_append.mp hz with hz | hz
        · exact ok z hz
        · rw [List.mem_singleton.mp hz]; refine ⟨?_, ?_, ?_, ?_⟩ <;> simp <;> omega
      · exact lstAt_set (lstAt_lt (S5.lst np (S4.lst np l)))
    · rintro acc h' ⟨qs, rfl, e, ok, P', S', l⟩
      simp only [↓w_ok, ↓kB_ok, ↓kI_ok, ↓w_K, ↓w_V, ↓w_vR, ↓w_Op, ↓kO1_ok, ↓kO2_ok, ↓w_Un, ↓w_bOf, ↓w_isB, ↓kBl_ok, ↓kBl_exc, ↓kIf_ok, ↓kIf_exc, ↓w_okB, ↓w_okD, ↓w_bAnd, ↓w_bOr, ↓w_bNot, ↓kNot_ok, ↓kNot_exc, ↓w_eAnd, ↓w_eOr, ↓w_eNot, ↓kNotV_ok, ↓w_eIf, ↓w_aNil, ↓w_aCons, ↓kA1_ok, ↓kA2_ok, ↓kA1_exc, ↓kA2_exc, ↓w_Tup, ↓w_Lst, ↓w_mkT, ↓w_mkL, ↓w_Dct, ↓w_Dct2, ↓w_SoSe, ↓w_Call, ↓w_goS, ↓w_Bi, ↓w_Isi, ↓w_Cut, ↓kC1_ok, ↓kC2_ok, ↓kC3_ok, ↓w_oNone, ↓w_oSome, ↓w_vO, ↓w_Chain, ↓kCh1_ok, ↓kCh2_ok, ↓kCh3_ok, ↓w_chA, ↓w_App, ↓w_Ins, ↓w_insG, ↓z_nx, ↓z_End, ↓z_Seq, ↓kT_nx, ↓kT_rt, ↓kT_bk, ↓kT_ct, ↓kT_exc, ↓z_If, ↓kIfS_ok, ↓kIfS_exc, ↓z_Ret, ↓kRet_ok, ↓kRet_exc, ↓z_Expr, ↓kNx_ok, ↓kNx_exc, ↓z_Asg, ↓kAs_ok, ↓kAs_exc, ↓z_tgO, t_N, t_T, t_nil, t_cons, t_G, t_gnil, t_gcons, t_bind, ↓z_Par, ↓kPar_ok, ↓z_Raise, ↓z_Break, ↓z_Cont, ↓z_For, ↓kSrc_ok, ↓w_Range, ↓w_rgF, ↓w_SeqI, ↓w_sqT, ↓w_Zip, ↓w_zpT, ↓w_Comp, ↓kCo_ok, ↓w_of, ↓kF_rt, ↓kF_nx, ↓kF_exc, ↓w_add, ↓w_sub, ↓w_pow10, ↓w_neg, ↓w_lt, ↓w_le, ↓w_gt, ↓w_ge, ↓w_ix0, ↓w_ix1, ↓w_ix2, ↓w_ix3, ↓w_eqI, ↓w_eqS, ↓w_eqT2, ↓w_abs, ↓w_lenT, ↓w_lenS, ↓w_max, ↓w_min, ↓w_intT, ↓w_intF, ↓w_isBool, ↓w_isTup, ↓w_tupT, ↓w_listT, ↓w_cutT, ↓brw_t, ↓brw_f, ↓brz_t, ↓brz_f, List.getElem?_cons_zero, List.getElem?_cons_succ, List.set_cons_zero, List.set_cons_succ, List.length_cons, List.length_nil, List.map_cons, List.map_nil, List.replicate, List.cons_append, List.nil_append, small, Nat.reduceAdd, Nat.reduceLeDiff, Nat.reduceEqDiff, Int.cast_ofNat_Int, Int.reduceBEq, BEq.rfl, ↓w_Yes, ↓w_bTru, ↓augF_ok, ↓z_Put, ↓putF_ok, ↓putG_ok, ↓w_isNn, ↓w_isNt, wipeF_nil, wipeF_cons, Int.reduceLE, Int.reduceLT, Int.reduceToNat, Int.reducePow, Int.reduceNeg, Int.reduceSub, Int.reduceAdd, Int.reduceMul, decide_true, decide_false, Bool.not_true, Bool.not_false, Bool.bne_false, Bool.bne_true, ↓w_aStar, ↓w_stT, ↓kSt_ok, ↓w_aDef, ↓kDf_ok, ↓w_Cnt, ↓w_Ext, ↓w_isBB, ↓w_isIB, ↓w_Enum, ↓w_enT]
      have h8 : (srtZ qs).length ≤ 8 := Nat.le_trans srt_len' (by omega)
      have ne : srtZ qs ≠ [] := by
        intro z
        match qs, e with
        | [], e => simp at e; omega
        | q :: qs, _ =>
          have := (mem_srt (q :: qs)).2 (by simp : q ∈ q :: qs)
          rw [z] at this; cases this
      refine hull_w l ok (by omega) h8 fun m4 h4 g4 n4 l4 => ?_
      have rn := hull_rn (srt_up qs) ne h8
      have ib : ∀ q ∈ hull (srtZ qs), In9 q := fun q hq => ok q ((mem_srt qs).1 (hull_mem (srt_up qs) q hq))
      generalize hull (srtZ qs) = c at *
      have c0 : 0 < c.length := List.length_pos_iff.2 rn.ne
      have c8 := rn.le
      simp only [↓w_ok, ↓kB_ok, ↓kI_ok, ↓w_K, ↓w_V, ↓w_vR, ↓w_Op, ↓kO1_ok, ↓kO2_ok, ↓w_Un, ↓w_bOf, ↓w_isB, ↓kBl_ok, ↓kBl_exc, ↓kIf_ok, ↓kIf_exc, ↓w_okB, ↓w_okD, ↓w_bAnd, ↓w_bOr, ↓w_bNot, ↓kNot_ok, ↓kNot_exc, ↓w_eAnd, ↓w_eOr, ↓w_eNot, ↓kNotV_ok, ↓w_eIf, ↓w_aNil, ↓w_aCons, ↓kA1_ok, ↓kA2_ok, ↓kA1_exc, ↓kA2_exc, ↓w_Tup, ↓w_Lst, ↓w_mkT, ↓w_mkL, ↓w_Dct, ↓w_Dct2, ↓w_SoSe, ↓w_Call, ↓w_goS, ↓w_Bi, ↓w_Isi, ↓w_Cut, ↓kC1_ok, ↓kC2_ok, ↓kC3_ok, ↓w_oNone, ↓w_oSome, ↓w_vO, ↓w_Chain, ↓kCh1_ok, ↓kCh2_ok, ↓kCh3_ok, ↓w_chA, ↓w_App, ↓w_Ins, ↓w_insG, ↓z_nx, ↓z_End, ↓z_Seq, ↓kT_nx, ↓kT_rt, ↓kT_bk, ↓kT_ct, ↓kT_exc, ↓z_If, ↓kIfS_ok, ↓kIfS_exc, ↓z_Ret, ↓kRet_ok, ↓kRet_exc, ↓z_Expr, ↓kNx_ok, ↓kNx_exc, ↓z_Asg, ↓kAs_ok, ↓kAs_exc, ↓z_tgO, t_N, t_T, t_nil, t_cons, t_G, t_gnil, t_gcons, t_bind, ↓z_Par, ↓kPar_ok, ↓z_Raise, ↓z_Break, ↓z_Cont, ↓z_For, ↓kSrc_ok, ↓w_Range, ↓w_rgF, ↓w_SeqI, ↓w_sqT, ↓w_Zip, ↓w_zpT, ↓w_Comp, ↓kCo_ok, ↓w_of, ↓kF_rt, ↓kF_nx, ↓kF_exc, ↓w_add, ↓w_sub, ↓w_pow10, ↓w_neg, ↓w_lt, ↓w_le, ↓w_gt, ↓w_ge, ↓w_ix0, ↓w_ix1, ↓w_ix2, ↓w_ix3, ↓w_eqI, ↓w_eqS, ↓w_eqT2, ↓w_abs, ↓w_lenT, ↓w_lenS, ↓w_max, ↓w_min, ↓w_intT, ↓w_intF, ↓w_isBool, ↓w_isTup, ↓w_tupT, ↓w_listT, ↓w_cutT, ↓brw_t, ↓brw_f, ↓brz_t, ↓brz_f, List.getElem?_cons_zero, List.getElem?_cons_succ, List.set_cons_zero, List.set_cons_succ, List.length_cons, List.length_nil, List.map_cons, List.map_nil, List.replicate, List.cons_append, List.nil_append, small, Nat.reduceAdd, Nat.reduceLeDiff, Nat.reduceEqDiff, Int.cast_ofNat_Int, Int.reduceBEq, BEq.rfl, ↓w_Yes, ↓w_bTru, ↓augF_ok, ↓z_Put, ↓putF_ok, ↓putG_ok, ↓w_isNn, ↓w_isNt, wipeF_nil, wipeF_cons, Int.reduceLE, Int.reduceLT, Int.reduceToNat, Int.reducePow, Int.reduceNeg, Int.reduceSub, Int.reduceAdd, Int.reduceMul, decide_true, decide_false, Bool.not_true, Bool.not_false, Bool.bne_false, Bool.bne_true, ↓w_aStar, ↓w_stT, ↓kSt_ok, ↓w_aDef, ↓kDf_ok, ↓w_Cnt, ↓w_Ext, ↓w_isBB, ↓w_isIB, ↓w_Enum, ↓w_enT, w_lenL l4, List.length_map]
      refine take_w (g4.pot P') (by omega) (by omega) (Int.lt_of_le_of_lt (show (c.length : Int) ≤ 8 by omega) (by decide)) fun f h5 f0 f1 P5 S5 => ?_
      have np4 : m4 ≠ p := by have := P'.lt; omega
      have l5 := S5.lst np4 l4
      obtain ⟨j, hj⟩ : ∃ j : Nat, f = (j : Int) := ⟨f.toNat, by omega⟩
      subst hj
      simp only [↓w_ok, ↓kB_ok, ↓kI_ok, ↓w_K, ↓w_V, ↓w_vR, ↓w_Op, ↓kO1_ok, ↓kO2_ok, ↓w_Un, ↓w_bOf, ↓w_isB, ↓kBl_ok, ↓kBl_exc, ↓kIf_ok, ↓kIf_exc, ↓w_okB, ↓w_okD, ↓w_bAnd, ↓w_bOr, ↓w_bNot, ↓kNot_ok, ↓kNot_exc, ↓w_eAnd, ↓w_eOr, ↓w_eNot, ↓kNotV_ok, ↓w_eIf, ↓w_aNil, ↓w_aCons, ↓kA1_ok, ↓kA2_ok, ↓kA1_exc, ↓kA2_exc, ↓w_Tup, ↓w_Lst, ↓w_mkT, ↓w_mkL, ↓w_Dct, ↓w_Dct2, ↓w_SoSe, ↓w_Call, ↓w_goS, ↓w_Bi, ↓w_Isi, ↓w_Cut, ↓kC1_ok, ↓kC2_ok, ↓kC3_ok, ↓w_oNone, ↓w_oSome, ↓w_vO, ↓w_Chain, ↓kCh1_ok, ↓kCh2_ok, ↓kCh3_ok, ↓w_chA, ↓w_App, ↓w_Ins, ↓w_insG, ↓z_nx, ↓z_End, ↓z_Seq, ↓kT_nx, ↓kT_rt, ↓kT_bk, ↓kT_ct, ↓kT_exc, ↓z_If, ↓kIfS_ok, ↓kIfS_exc, ↓z_Ret, ↓kRet_ok, ↓kRet_exc, ↓z_Expr, ↓kNx_ok, ↓kNx_exc, ↓z_Asg, ↓kAs_ok, ↓kAs_exc, ↓z_tgO, t_N, t_T, t_nil, t_cons, t_G, t_gnil, t_gcons, t_bind, ↓z_Par, ↓kPar_ok, ↓z_Raise, ↓z_Break, ↓z_Cont, ↓z_For, ↓kSrc_ok, ↓w_Range, ↓w_rgF, ↓w_SeqI, ↓w_sqT, ↓w_Zip, ↓w_zpT, ↓w_Comp, ↓kCo_ok, ↓w_of, ↓kF_rt, ↓kF_nx, ↓kF_exc, ↓w_add, ↓w_sub, ↓w_pow10, ↓w_neg, ↓w_lt, ↓w_le, ↓w_gt, ↓w_ge, ↓w_ix0, ↓w_ix1, ↓w_ix2, ↓w_ix3, ↓w_eqI, ↓w_eqS, ↓w_eqT2, ↓w_abs, ↓w_lenT, ↓w_lenS, ↓w_max, ↓w_min, ↓w_intT, ↓w_intF, ↓w_isBool, ↓w_isTup, ↓w_tupT, ↓w_listT, ↓w_cutT, ↓brw_t, ↓brw_f, ↓brz_t, ↓brz_f, List.getElem?_cons_zero, List.getElem?_cons_succ, List.set_cons_zero, List.set_cons_succ, List.length_cons, List.length_nil, List.map_cons, List.map_nil, List.replicate, List.cons_append, List.nil_append, small, Nat.reduceAdd, Nat.reduceLeDiff, Nat.reduceEqDiff, Int.cast_ofNat_Int, Int.reduceBEq, BEq.rfl, ↓w_Yes, ↓w_bTru, ↓augF_ok, ↓z_Put, ↓putF_ok, ↓putG_ok, ↓w_isNn, ↓w_isNt, wipeF_nil, wipeF_cons, Int.reduceLE, Int.reduceLT, Int.reduceToNat, Int.reducePow, Int.reduceNeg, Int.reduceSub, Int.reduceAdd, Int.reduceMul, decide_true, decide_false, Bool.not_true, Bool.not_false, Bool.bne_false, Bool.bne_true, ↓w_aStar, ↓w_stT, ↓kSt_ok, ↓w_aDef, ↓kDf_ok, ↓w_Cnt, ↓w_Ext, ↓w_isBB, ↓w_isIB, ↓w_Enum, ↓w_enT, w_cutL l5, cut_lo]
      have l6 := lst_new h5 ((c.map dZ).drop j)
      have g6 := Gr.app h5 [Cell.lst ((c.map dZ).drop j)]
      generalize h5 ++ [Cell.lst ((c.map dZ).drop j)] = h6 at *
      simp only [↓w_ok, ↓kB_ok, ↓kI_ok, ↓w_K, ↓w_V, ↓w_vR, ↓w_Op, ↓kO1_ok, ↓kO2_ok, ↓w_Un, ↓w_bOf, ↓w_isB, ↓kBl_ok, ↓kBl_exc, ↓kIf_ok, ↓kIf_exc, ↓w_okB, ↓w_okD, ↓w_bAnd, ↓w_bOr, ↓w_bNot, ↓kNot_ok, ↓kNot_exc, ↓w_eAnd, ↓w_eOr, ↓w_eNot, ↓kNotV_ok, ↓w_eIf, ↓w_aNil, ↓w_aCons, ↓kA1_ok, ↓kA2_ok, ↓kA1_exc, ↓kA2_exc, ↓w_Tup, ↓w_Lst, ↓w_mkT, ↓w_mkL, ↓w_Dct, ↓w_Dct2, ↓w_SoSe, ↓w_Call, ↓w_goS, ↓w_Bi, ↓w_Isi, ↓w_Cut, ↓kC1_ok, ↓kC2_ok, ↓kC3_ok, ↓w_oNone, ↓w_oSome, ↓w_vO, ↓w_Chain, ↓kCh1_ok, ↓kCh2_ok, ↓kCh3_ok, ↓w_chA, ↓w_App, ↓w_Ins, ↓w_insG, ↓z_nx, ↓z_End, ↓z_Seq, ↓kT_nx, ↓kT_rt, ↓kT_bk, ↓kT_ct, ↓kT_exc, ↓z_If, ↓kIfS_ok, ↓kIfS_exc, ↓z_Ret, ↓kRet_ok, ↓kRet_exc, ↓z_Expr, ↓kNx_ok, ↓kNx_exc, ↓z_Asg, ↓kAs_ok, ↓kAs_exc, ↓z_tgO, t_N, t_T, t_nil, t_cons, t_G, t_gnil, t_gcons, t_bind, ↓z_Par, ↓kPar_ok, ↓z_Raise, ↓z_Break, ↓z_Cont, ↓z_For, ↓kSrc_ok, ↓w_Range, ↓w_rgF, ↓w_SeqI, ↓w_sqT, ↓w_Zip, ↓w_zpT, ↓w_Comp, ↓kCo_ok, ↓w_of, ↓kF_rt, ↓kF_nx, ↓kF_exc, ↓w_add, ↓w_sub, ↓w_pow10, ↓w_neg, ↓w_lt, ↓w_le, ↓w_gt, ↓w_ge, ↓w_ix0, ↓w_ix1, ↓w_ix2, ↓w_ix3, ↓w_eqI, ↓w_eqS, ↓w_eqT2, ↓w_abs, ↓w_lenT, ↓w_lenS, ↓w_max, ↓w_min, ↓w_intT, ↓w_intF, ↓w_isBool, ↓w_isTup, ↓w_tupT, ↓w_listT, ↓w_cutT, ↓brw_t, ↓brw_f, ↓brz_t, ↓brz_f, List.getElem?_cons_zero, List.getElem?_cons_succ, List.set_cons_zero, List.set_cons_succ, List.length_cons, List.length_nil, List.map_cons, List.map_nil, List.replicate, List.cons_append, List.nil_append, small, Nat.reduceAdd, Nat.reduceLeDiff, Nat.reduceEqDiff, Int.cast_ofNat_Int, Int.reduceBEq, BEq.rfl, ↓w_Yes, ↓w_bTru, ↓augF_ok, ↓z_Put, ↓putF_ok, ↓putG_ok, ↓w_isNn, ↓w_isNt, wipeF_nil, wipeF_cons, Int.reduceLE, Int.reduceLT, Int.reduceToNat, Int.reducePow, Int.reduceNeg, Int.reduceSub, Int.reduceAdd, Int.reduceMul, decide_true, decide_false, Bool.not_true, Bool.not_false, Bool.bne_false, Bool.bne_true, ↓w_aStar, ↓w_stT, ↓kSt_ok, ↓w_aDef, ↓kDf_ok, ↓w_Cnt, ↓w_Ext, ↓w_isBB, ↓w_isIB, ↓w_Enum, ↓w_enT, w_cutL (g6.lst l5), cut_hi]
      have l7 := lst_new h6 ((c.map dZ).take j)
      have g7 := Gr.app h6 [Cell.lst ((c.map dZ).take j)]
      generalize h6 ++ [Cell.lst ((c.map dZ).take j)] = h7 at *
      simp only [↓w_ok, ↓kB_ok, ↓kI_ok, ↓w_K, ↓w_V, ↓w_vR, ↓w_Op, ↓kO1_ok, ↓kO2_ok, ↓w_Un, ↓w_bOf, ↓w_isB, ↓kBl_ok, ↓kBl_exc, ↓kIf_ok, ↓kIf_exc, ↓w_okB, ↓w_okD, ↓w_bAnd, ↓w_bOr, ↓w_bNot, ↓kNot_ok, ↓kNot_exc, ↓w_eAnd, ↓w_eOr, ↓w_eNot, ↓kNotV_ok, ↓w_eIf, ↓w_aNil, ↓w_aCons, ↓kA1_ok, ↓kA2_ok, ↓kA1_exc, ↓kA2_exc, ↓w_Tup, ↓w_Lst, ↓w_mkT, ↓w_mkL, ↓w_Dct, ↓w_Dct2, ↓w_SoSe, ↓w_Call, ↓w_goS, ↓w_Bi, ↓w_Isi, ↓w_Cut, ↓kC1_ok, ↓kC2_ok, ↓kC3_ok, ↓w_oNone, ↓w_oSome, ↓w_vO, ↓w_Chain, ↓kCh1_ok, ↓kCh2_ok, ↓kCh3_ok, ↓w_chA, ↓w_App, ↓w_Ins, ↓w_insG, ↓z_nx, ↓z_End, ↓z_Seq, ↓kT_nx, ↓kT_rt, ↓kT_bk, ↓kT_ct, ↓kT_exc, ↓z_If, ↓kIfS_ok, ↓kIfS_exc, ↓z_Ret, ↓kRet_ok, ↓kRet_exc, ↓z_Expr, ↓kNx_ok, ↓kNx_exc, ↓z_Asg, ↓kAs_ok, ↓kAs_exc, ↓z_tgO, t_N, t_T, t_nil, t_cons, t_G, t_gnil, t_gcons, t_bind, ↓z_Par, ↓kPar_ok, ↓z_Raise, ↓z_Break, ↓z_Cont, ↓z_For, ↓kSrc_ok, ↓w_Range, ↓w_rgF, ↓w_SeqI, ↓w_sqT, ↓w_Zip, ↓w_zpT, ↓w_Comp, ↓kCo_ok, ↓w_of, ↓kF_rt, ↓kF_nx, ↓kF_exc, ↓w_add, ↓w_sub, ↓w_pow10, ↓w_neg, ↓w_lt, ↓w_le, ↓w_gt, ↓w_ge, ↓w_ix0, ↓w_ix1, ↓w_ix2, ↓w_ix3, ↓w_eqI, ↓w_eqS, ↓w_eqT2, ↓w_abs, ↓w_lenT, ↓w_lenS, ↓w_max, ↓w_min, ↓w_intT, ↓w_intF, ↓w_isBool, ↓w_isTup, ↓w_tupT, ↓w_listT, ↓w_cutT, ↓brw_t, ↓brw_f, ↓brz_t, ↓brz_f, List.getElem?_cons_zero, List.getElem?_cons_succ, List.set_cons_zero, List.set_cons_succ, List.length_cons, List.length_nil, List.map_cons, List.map_nil, List.replicate, List.cons_append, List.nil_append, small, Nat.reduceAdd, Nat.reduceLeDiff, Nat.reduceEqDiff, Int.cast_ofNat_Int, Int.reduceBEq, BEq.rfl, ↓w_Yes, ↓w_bTru, ↓augF_ok, ↓z_Put, ↓putF_ok, ↓putG_ok, ↓w_isNn, ↓w_isNt, wipeF_nil, wipeF_cons, Int.reduceLE, Int.reduceLT, Int.reduceToNat, Int.reducePow, Int.reduceNeg, Int.reduceSub, Int.reduceAdd, Int.reduceMul, decide_true, decide_false, Bool.not_true, Bool.not_false, Bool.bne_false, Bool.bne_true, ↓w_aStar, ↓w_stT, ↓kSt_ok, ↓w_aDef, ↓kDf_ok, ↓w_Cnt, ↓w_Ext, ↓w_isBB, ↓w_isIB, ↓w_Enum, ↓w_enT, w_addL (g7.lst l6) l7 (decide_eq_true (by simp; omega))]
      simp only [↓w_ok, ↓kB_ok, ↓kI_ok, ↓w_K, ↓w_V, ↓w_vR, ↓w_Op, ↓kO1_ok, ↓kO2_ok, ↓w_Un, ↓w_bOf, ↓w_isB, ↓kBl_ok, ↓kBl_exc, ↓kIf_ok, ↓kIf_exc, ↓w_okB, ↓w_okD, ↓w_bAnd, ↓w_bOr, ↓w_bNot, ↓kNot_ok, ↓kNot_exc, ↓w_eAnd, ↓w_eOr, ↓w_eNot, ↓kNotV_ok, ↓w_eIf, ↓w_aNil, ↓w_aCons, ↓kA1_ok, ↓kA2_ok, ↓kA1_exc, ↓kA2_exc, ↓w_Tup, ↓w_Lst, ↓w_mkT, ↓w_mkL, ↓w_Dct, ↓w_Dct2, ↓w_SoSe, ↓w_Call, ↓w_goS, ↓w_Bi, ↓w_Isi, ↓w_Cut, ↓kC1_ok, ↓kC2_ok, ↓kC3_ok, ↓w_oNone, ↓w_oSome, ↓w_vO, ↓w_Chain, ↓kCh1_ok, ↓kCh2_ok, ↓kCh3_ok, ↓w_chA, ↓w_App, ↓w_Ins, ↓w_insG, ↓z_nx, ↓z_End, ↓z_Seq, ↓kT_nx, ↓kT_rt, ↓kT_bk, ↓kT_ct, ↓kT_exc, ↓z_If, ↓kIfS_ok, ↓kIfS_exc, ↓z_Ret, ↓kRet_ok, ↓kRet_exc, ↓z_Expr, ↓kNx_ok, ↓kNx_exc, ↓z_Asg, ↓kAs_ok, ↓kAs_exc, ↓z_tgO, t_N, t_T, t_nil, t_cons, t_G, t_gnil, t_gcons, t_bind, ↓z_Par, ↓kPar_ok, ↓z_Raise, ↓z_Break, ↓z_Cont, ↓z_For, ↓kSrc_ok, ↓w_Range, ↓w_rgF, ↓w_SeqI, ↓w_sqT, ↓w_Zip, ↓w_zpT, ↓w_Comp, ↓kCo_ok, ↓w_of, ↓kF_rt, ↓kF_nx, ↓kF_exc, ↓w_add, ↓w_sub, ↓w_pow10, ↓w_neg, ↓w_lt, ↓w_le, ↓w_gt, ↓w_ge, ↓w_ix0, ↓w_ix1, ↓w_ix2, ↓w_ix3, ↓w_eqI, ↓w_eqS, ↓w_eqT2, ↓w_abs, ↓w_lenT, ↓w_lenS, ↓w_max, ↓w_min, ↓w_intT, ↓w_intF, ↓w_isBool, ↓w_isTup, ↓w_tupT, ↓w_listT, ↓w_cutT, ↓brw_t, ↓brw_f, ↓brz_t, ↓brz_f, List.getElem?_cons_zero, List.getElem?_cons_succ, List.set_cons_zero, List.set_cons_succ, List.length_cons, List.length_nil, List.map_cons, List.map_nil, List.replicate, List.cons_append, List.nil_append, small, Nat.reduceAdd, Nat.reduceLeDiff, Nat.reduceEqDiff, Int.cast_ofNat_Int, Int.reduceBEq, BEq.rfl, ↓w_Yes, ↓w_bTru, ↓augF_ok, ↓z_Put, ↓putF_ok, ↓putG_ok, ↓w_isNn, ↓w_isNt, wipeF_nil, wipeF_cons, Int.reduceLE, Int.reduceLT, Int.reduceToNat, Int.reducePow, Int.reduceNeg, Int.reduceSub, Int.reduceAdd, Int.reduceMul, decide_true, decide_false, Bool.not_true, Bool.not_false, Bool.bne_false, Bool.bne_true, ↓w_aStar, ↓w_stT, ↓kSt_ok, ↓w_aDef, ↓kDf_ok, ↓w_Cnt, ↓w_Ext, ↓w_isBB, ↓w_isIB, ↓w_Enum, ↓w_enT, w_tupL (lst_new _ _)]
      have ea : (c.map dZ).drop j ++ (c.map dZ).take j = (c.drop j ++ c.take j).map dZ := by rw [List.map_append, List.map_drop, List.map_take]
      rw [ea]
      have gg := g6.trans (g7.trans (Gr.app h7 [Cell.lst ((c.drop j ++ c.take j).map dZ)]))
      refine k _ _ (rn.cut j) (fun q hq => ib q ?_) ((gg.pot P5).mono (by omega)) (S1.trans (S2.trans (S3.cut.trans (S'.trans ((g4.step p).trans (S5.trans (gg.step p)))))))
      rcases List.mem_append.1 hq with hq | hq
      · exact List.mem_of_mem_drop hq
      · exact List.mem_of_mem_take hq
  unfold S__law_ring
  simp only [↓w_ok, ↓kB_ok, ↓kI_ok, ↓w_K, ↓w_V, ↓w_vR, ↓w_Op, ↓kO1_ok, ↓kO2_ok, ↓w_Un, ↓w_bOf, ↓w_isB, ↓kBl_ok, ↓kBl_exc, ↓kIf_ok, ↓kIf_exc, ↓w_okB, ↓w_okD, ↓w_bAnd, ↓w_bOr, ↓w_bNot, ↓kNot_ok, ↓kNot_exc, ↓w_eAnd, ↓w_eOr, ↓w_eNot, ↓kNotV_ok, ↓w_eIf, ↓w_aNil, ↓w_aCons, ↓kA1_ok, ↓kA2_ok, ↓kA1_exc, ↓kA2_exc, ↓w_Tup, ↓w_Lst, ↓w_mkT, ↓w_mkL, ↓w_Dct, ↓w_Dct2, ↓w_SoSe, ↓w_Call, ↓w_goS, ↓w_Bi, ↓w_Isi, ↓w_Cut, ↓kC1_ok, ↓kC2_ok, ↓kC3_ok, ↓w_oNone, ↓w_oSome, ↓w_vO, ↓w_Chain, ↓kCh1_ok, ↓kCh2_ok, ↓kCh3_ok, ↓w_chA, ↓w_App, ↓w_Ins, ↓w_insG, ↓z_nx, ↓z_End, ↓z_Seq, ↓kT_nx, ↓kT_rt, ↓kT_bk, ↓kT_ct, ↓kT_exc, ↓z_If, ↓kIfS_ok, ↓kIfS_exc, ↓z_Ret, ↓kRet_ok, ↓kRet_exc, ↓z_Expr, ↓kNx_ok, ↓kNx_exc, ↓z_Asg, ↓kAs_ok, ↓kAs_exc, ↓z_tgO, t_N, t_T, t_nil, t_cons, t_G, t_gnil, t_gcons, t_bind, ↓z_Par, ↓kPar_ok, ↓z_Raise, ↓z_Break, ↓z_Cont, ↓z_For, ↓kSrc_ok, ↓w_Range, ↓w_rgF, ↓w_SeqI, ↓w_sqT, ↓w_Zip, ↓w_zpT, ↓w_Comp, ↓kCo_ok, ↓w_of, ↓kF_rt, ↓kF_nx, ↓kF_exc, ↓w_add, ↓w_sub, ↓w_pow10, ↓w_neg, ↓w_lt, ↓w_le, ↓w_gt, ↓w_ge, ↓w_ix0, ↓w_ix1, ↓w_ix2, ↓w_ix3, ↓w_eqI, ↓w_eqS, ↓w_eqT2, ↓w_abs, ↓w_lenT, ↓w_lenS, ↓w_max, ↓w_min, ↓w_intT, ↓w_intF, ↓w_isBool, ↓w_isTup, ↓w_tupT, ↓w_listT, ↓w_cutT, ↓brw_t, ↓brw_f, ↓brz_t, ↓brz_f, List.getElem?_cons_zero, List.getElem?_cons_succ, List.set_cons_zero, List.set_cons_succ, List.length_cons, List.length_nil, List.map_cons, List.map_nil, List.replicate, List.cons_append, List.nil_append, small, Nat.reduceAdd, Nat.reduceLeDiff, Nat.reduceEqDiff, Int.cast_ofNat_Int, Int.reduceBEq, BEq.rfl, ↓w_Yes, ↓w_bTru, ↓augF_ok, ↓z_Put, ↓putF_ok, ↓putG_ok, ↓w_isNn, ↓w_isNt, wipeF_nil, wipeF_cons, Int.reduceLE, Int.reduceLT, Int.reduceToNat, Int.reducePow, Int.reduceNeg, Int.reduceSub, Int.reduceAdd, Int.reduceMul, decide_true, decide_false, Bool.not_true, Bool.not_false, Bool.bne_false, Bool.bne_true, ↓w_aStar, ↓w_stT, ↓kSt_ok, ↓w_aDef, ↓kDf_ok, ↓w_Cnt, ↓w_Ext, ↓w_isBB, ↓w_isIB, ↓w_Enum, ↓w_enT]
  refine take_w P (by omega) (by decide) (by decide) fun r h1 r0 r1 P1 S1 => ?_
  simp only [↓w_ok, ↓kB_ok, ↓kI_ok, ↓w_K, ↓w_V, ↓w_vR, ↓w_Op, ↓kO1_ok, ↓kO2_ok, ↓w_Un, ↓w_bOf, ↓w_isB, ↓kBl_ok, ↓kBl_exc, ↓kIf_ok, ↓kIf_exc, ↓w_okB, ↓w_okD, ↓w_bAnd, ↓w_bOr, ↓w_bNot, ↓kNot_ok, ↓kNot_exc, ↓w_eAnd, ↓w_eOr, ↓w_eNot, ↓kNotV_ok, ↓w_eIf, ↓w_aNil, ↓w_aCons, ↓kA1_ok, ↓kA2_ok, ↓kA1_exc, ↓kA2_exc, ↓w_Tup, ↓w_Lst, ↓w_mkT, ↓w_mkL, ↓w_Dct, ↓w_Dct2, ↓w_SoSe, ↓w_Call, ↓w_goS, ↓w_Bi, ↓w_Isi, ↓w_Cut, ↓kC1_ok, ↓kC2_ok, ↓kC3_ok, ↓w_oNone, ↓w_oSome, ↓w_vO, ↓w_Chain, ↓kCh1_ok, ↓kCh2_ok, ↓kCh3_ok, ↓w_chA, ↓w_App, ↓w_Ins, ↓w_insG, ↓z_nx, ↓z_End, ↓z_Seq, ↓kT_nx, ↓kT_rt, ↓kT_bk, ↓kT_ct, ↓kT_exc, ↓z_If, ↓kIfS_ok, ↓kIfS_exc, ↓z_Ret, ↓kRet_ok, ↓kRet_exc, ↓z_Expr, ↓kNx_ok, ↓kNx_exc, ↓z_Asg, ↓kAs_ok, ↓kAs_exc, ↓z_tgO, t_N, t_T, t_nil, t_cons, t_G, t_gnil, t_gcons, t_bind, ↓z_Par, ↓kPar_ok, ↓z_Raise, ↓z_Break, ↓z_Cont, ↓z_For, ↓kSrc_ok, ↓w_Range, ↓w_rgF, ↓w_SeqI, ↓w_sqT, ↓w_Zip, ↓w_zpT, ↓w_Comp, ↓kCo_ok, ↓w_of, ↓kF_rt, ↓kF_nx, ↓kF_exc, ↓w_add, ↓w_sub, ↓w_pow10, ↓w_neg, ↓w_lt, ↓w_le, ↓w_gt, ↓w_ge, ↓w_ix0, ↓w_ix1, ↓w_ix2, ↓w_ix3, ↓w_eqI, ↓w_eqS, ↓w_eqT2, ↓w_abs, ↓w_lenT, ↓w_lenS, ↓w_max, ↓w_min, ↓w_intT, ↓w_intF, ↓w_isBool, ↓w_isTup, ↓w_tupT, ↓w_listT, ↓w_cutT, ↓brw_t, ↓brw_f, ↓brz_t, ↓brz_f, List.getElem?_cons_zero, List.getElem?_cons_succ, List.set_cons_zero, List.set_cons_succ, List.length_cons, List.length_nil, List.map_cons, List.map_nil, List.replicate, List.cons_append, List.nil_append, small, Nat.reduceAdd, Nat.reduceLeDiff, Nat.reduceEqDiff, Int.cast_ofNat_Int, Int.reduceBEq, BEq.rfl, ↓w_Yes, ↓w_bTru, ↓augF_ok, ↓z_Put, ↓putF_ok, ↓putG_ok, ↓w_isNn, ↓w_isNt, wipeF_nil, wipeF_cons, Int.reduceLE, Int.reduceLT, Int.reduceToNat, Int.reducePow, Int.reduceNeg, Int.reduceSub, Int.reduceAdd, Int.reduceMul, decide_true, decide_false, Bool.not_true, Bool.not_false, Bool.bne_false, Bool.bne_true, ↓w_aStar, ↓w_stT, ↓kSt_ok, ↓w_aDef, ↓kDf_ok, ↓w_Cnt, ↓w_Ext, ↓w_isBB, ↓w_isIB, ↓w_Enum, ↓w_enT]
  refine brz (fun hc => ?_) fun hc => ?_
  · simp only [↓w_ok, ↓kB_ok, ↓kI_ok, ↓w_K, ↓w_V, ↓w_vR, ↓w_Op, ↓kO1_ok, ↓kO2_ok, ↓w_Un, ↓w_bOf, ↓w_isB, ↓kBl_ok, ↓kBl_exc, ↓kIf_ok, ↓kIf_exc, ↓w_okB, ↓w_okD, ↓w_bAnd, ↓w_bOr, ↓w_bNot, ↓kNot_ok, ↓kNot_exc, ↓w_eAnd, ↓w_eOr, ↓w_eNot, ↓kNotV_ok, ↓w_eIf, ↓w_aNil, ↓w_aCons, ↓kA1_ok, ↓kA2_ok, ↓kA1_exc, ↓kA2_exc, ↓w_Tup, ↓w_Lst, ↓w_mkT, ↓w_mkL, ↓w_Dct, ↓w_Dct2, ↓w_SoSe, ↓w_Call, ↓w_goS, ↓w_Bi, ↓w_Isi, ↓w_Cut, ↓kC1_ok, ↓kC2_ok, ↓kC3_ok, ↓w_oNone, ↓w_oSome, ↓w_vO, ↓w_Chain, ↓kCh1_ok, ↓kCh2_ok, ↓kCh3_ok, ↓w_chA, ↓w_App, ↓w_Ins, ↓w_insG, ↓z_nx, ↓z_End, ↓z_Seq, ↓kT_nx, ↓kT_rt, ↓kT_bk, ↓kT_ct, ↓kT_exc, ↓z_If, ↓kIfS_ok, ↓kIfS_exc, ↓z_Ret, ↓kRet_ok, ↓kRet_exc, ↓z_Expr, ↓kNx_ok, ↓kNx_exc, ↓z_Asg, ↓kAs_ok, ↓kAs_exc, ↓z_tgO, t_N, t_T, t_nil, t_cons, t_G, t_gnil, t_gcons, t_bind, ↓z_Par, ↓kPar_ok, ↓z_Raise, ↓z_Break, ↓z_Cont, ↓z_For, ↓kSrc_ok, ↓w_Range, ↓w_rgF, ↓w_SeqI, ↓w_sqT, ↓w_Zip, ↓w_zpT, ↓w_Comp, ↓kCo_ok, ↓w_of, ↓kF_rt, ↓kF_nx, ↓kF_exc, ↓w_add, ↓w_sub, ↓w_pow10, ↓w_neg, ↓w_lt, ↓w_le, ↓w_gt, ↓w_ge, ↓w_ix0, ↓w_ix1, ↓w_ix2, ↓w_ix3, ↓w_eqI, ↓w_eqS, ↓w_eqT2, ↓w_abs, ↓w_lenT, ↓w_lenS, ↓w_max, ↓w_min, ↓w_intT, ↓w_intF, ↓w_isBool, ↓w_isTup, ↓w_tupT, ↓w_listT, ↓w_cutT, ↓brw_t, ↓brw_f, ↓brz_t, ↓brz_f, List.getElem?_cons_zero, List.getElem?_cons_succ, List.set_cons_zero, List.set_cons_succ, List.length_cons, List.length_nil, List.map_cons, List.map_nil, List.replicate, List.cons_append, List.nil_append, small, Nat.reduceAdd, Nat.reduceLeDiff, Nat.reduceEqDiff, Int.cast_ofNat_Int, Int.reduceBEq, BEq.rfl, ↓w_Yes, ↓w_bTru, ↓augF_ok, ↓z_Put, ↓putF_ok, ↓putG_ok, ↓w_isNn, ↓w_isNt, wipeF_nil, wipeF_cons, Int.reduceLE, Int.reduceLT, Int.reduceToNat, Int.reducePow, Int.reduceNeg, Int.reduceSub, Int.reduceAdd, Int.reduceMul, decide_true, decide_false, Bool.not_true, Bool.not_false, Bool.bne_false, Bool.bne_true, ↓w_aStar, ↓w_stT, ↓kSt_ok, ↓w_aDef, ↓kDf_ok, ↓w_Cnt, ↓w_Ext, ↓w_isBB, ↓w_isIB, ↓w_Enum, ↓w_enT]
    have q := rest 1000000000 h1 (by decide) (by decide) P1 S1
    revert q
    simp only [↓w_ok, ↓kB_ok, ↓kI_ok, ↓w_K, ↓w_V, ↓w_vR, ↓w_Op, ↓kO1_ok, ↓kO2_ok, ↓w_Un, ↓w_bOf, ↓w_isB, ↓kBl_ok, ↓kBl_exc, ↓kIf_ok, ↓kIf_exc, ↓w_okB, ↓w_okD, ↓w_bAnd, ↓w_bOr, ↓w_bNot, ↓kNot_ok, ↓kNot_exc, ↓w_eAnd, ↓w_eOr, ↓w_eNot, ↓kNotV_ok, ↓w_eIf, ↓w_aNil, ↓w_aCons, ↓kA1_ok, ↓kA2_ok, ↓kA1_exc, ↓kA2_exc, ↓w_Tup, ↓w_Lst, ↓w_mkT, ↓w_mkL, ↓w_Dct, ↓w_Dct2, ↓w_SoSe, ↓w_Call, ↓w_goS, ↓w_Bi, ↓w_Isi, ↓w_Cut, ↓kC1_ok, ↓kC2_ok, ↓kC3_ok, ↓w_oNone, ↓w_oSome, ↓w_vO, ↓w_Chain, ↓kCh1_ok, ↓kCh2_ok, ↓kCh3_ok, ↓w_chA, ↓w_App, ↓w_Ins, ↓w_insG, ↓z_nx, ↓z_End, ↓z_Seq, ↓kT_nx, ↓kT_rt, ↓kT_bk, ↓kT_ct, ↓kT_exc, ↓z_If, ↓kIfS_ok, ↓kIfS_exc, ↓z_Ret, ↓kRet_ok, ↓kRet_exc, ↓z_Expr, ↓kNx_ok, ↓kNx_exc, ↓z_Asg, ↓kAs_ok, ↓kAs_exc, ↓z_tgO, t_N, t_T, t_nil, t_cons, t_G, t_gnil, t_gcons, t_bind, ↓z_Par, ↓kPar_ok, ↓z_Raise, ↓z_Break, ↓z_Cont, ↓z_For, ↓kSrc_ok, ↓w_Range, ↓w_rgF, ↓w_SeqI, ↓w_sqT, ↓w_Zip, ↓w_zpT, ↓w_Comp, ↓kCo_ok, ↓w_of, ↓kF_rt, ↓kF_nx, ↓kF_exc, ↓w_add, ↓w_sub, ↓w_pow10, ↓w_neg, ↓w_lt, ↓w_le, ↓w_gt, ↓w_ge, ↓w_ix0, ↓w_ix1, ↓w_ix2, ↓w_ix3, ↓w_eqI, ↓w_eqS, ↓w_eqT2, ↓w_abs, ↓w_lenT, ↓w_lenS, ↓w_max, ↓w_min, ↓w_intT, ↓w_intF, ↓w_isBool, ↓w_isTup, ↓w_tupT, ↓w_listT, ↓w_cutT, ↓brw_t, ↓brw_f, ↓brz_t, ↓brz_f, List.getElem?_cons_zero, List.getElem?_cons_succ, List.set_cons_zero, List.set_cons_succ, List.length_cons, List.length_nil, List.map_cons, List.map_nil, List.replicate, List.cons_append, List.nil_append, small, Nat.reduceAdd, Nat.reduceLeDiff, Nat.reduceEqDiff, Int.cast_ofNat_Int, Int.reduceBEq, BEq.rfl, ↓w_Yes, ↓w_bTru, ↓augF_ok, ↓z_Put, ↓putF_ok, ↓putG_ok, ↓w_isNn, ↓w_isNt, wipeF_nil, wipeF_cons, Int.reduceLE, Int.reduceLT, Int.reduceToNat, Int.reducePow, Int.reduceNeg, Int.reduceSub, Int.reduceAdd, Int.reduceMul, decide_true, decide_false, Bool.not_true, Bool.not_false, Bool.bne_false, Bool.bne_true, ↓w_aStar, ↓w_stT, ↓kSt_ok, ↓w_aDef, ↓kDf_ok, ↓w_Cnt, ↓w_Ext, ↓w_isBB, ↓w_isIB, ↓w_Enum, ↓w_enT]
    exact id
  · simp only [↓w_ok, ↓kB_ok, ↓kI_ok, ↓w_K, ↓w_V, ↓w_vR, ↓w_Op, ↓kO1_ok, ↓kO2_ok, ↓w_Un, ↓w_bOf, ↓w_isB, ↓kBl_ok, ↓kBl_exc, ↓kIf_ok, ↓kIf_exc, ↓w_okB, ↓w_okD, ↓w_bAnd, ↓w_bOr, ↓w_bNot, ↓kNot_ok, ↓kNot_exc, ↓w_eAnd, ↓w_eOr, ↓w_eNot, ↓kNotV_ok, ↓w_eIf, ↓w_aNil, ↓w_aCons, ↓kA1_ok, ↓kA2_ok, ↓kA1_exc, ↓kA2_exc, ↓w_Tup, ↓w_Lst, ↓w_mkT, ↓w_mkL, ↓w_Dct, ↓w_Dct2, ↓w_SoSe, ↓w_Call, ↓w_goS, ↓w_Bi, ↓w_Isi, ↓w_Cut, ↓kC1_ok, ↓kC2_ok, ↓kC3_ok, ↓w_oNone, ↓w_oSome, ↓w_vO, ↓w_Chain, ↓kCh1_ok, ↓kCh2_ok, ↓kCh3_ok, ↓w_chA, ↓w_App, ↓w_Ins, ↓w_insG, ↓z_nx, ↓z_End, ↓z_Seq, ↓kT_nx, ↓kT_rt, ↓kT_bk, ↓kT_ct, ↓kT_exc, ↓z_If, ↓kIfS_ok, ↓kIfS_exc, ↓z_Ret, ↓kRet_ok, ↓kRet_exc, ↓z_Expr, ↓kNx_ok, ↓kNx_exc, ↓z_Asg, ↓kAs_ok, ↓kAs_exc, ↓z_tgO, t_N, t_T, t_nil, t_cons, t_G, t_gnil, t_gcons, t_bind, ↓z_Par, ↓kPar_ok, ↓z_Raise, ↓z_Break, ↓z_Cont, ↓z_For, ↓kSrc_ok, ↓w_Range, ↓w_rgF, ↓w_SeqI, ↓w_sqT, ↓w_Zip, ↓w_zpT, ↓w_Comp, ↓kCo_ok, ↓w_of, ↓kF_rt, ↓kF_nx, ↓kF_exc, ↓w_add, ↓w_sub, ↓w_pow10, ↓w_neg, ↓w_lt, ↓w_le, ↓w_gt, ↓w_ge, ↓w_ix0, ↓w_ix1, ↓w_ix2, ↓w_ix3, ↓w_eqI, ↓w_eqS, ↓w_eqT2, ↓w_abs, ↓w_lenT, ↓w_lenS, ↓w_max, ↓w_min, ↓w_intT, ↓w_intF, ↓w_isBool, ↓w_isTup, ↓w_tupT, ↓w_listT, ↓w_cutT, ↓brw_t, ↓brw_f, ↓brz_t, ↓brz_f, List.getElem?_cons_zero, List.getElem?_cons_succ, List.set_cons_zero, List.set_cons_succ, List.length_cons, List.length_nil, List.map_cons, List.map_nil, List.replicate, List.cons_append, List.nil_append, small, Nat.reduceAdd, Nat.reduceLeDiff, Nat.reduceEqDiff, Int.cast_ofNat_Int, Int.reduceBEq, BEq.rfl, ↓w_Yes, ↓w_bTru, ↓augF_ok, ↓z_Put, ↓putF_ok, ↓putG_ok, ↓w_isNn, ↓w_isNt, wipeF_nil, wipeF_cons, Int.reduceLE, Int.reduceLT, Int.reduceToNat, Int.reducePow, Int.reduceNeg, Int.reduceSub, Int.reduceAdd, Int.reduceMul, decide_true, decide_false, Bool.not_true, Bool.not_false, Bool.bne_false, Bool.bne_true, ↓w_aStar, ↓w_stT, ↓kSt_ok, ↓w_aDef, ↓kDf_ok, ↓w_Cnt, ↓w_Ext, ↓w_isBB, ↓w_isIB, ↓w_Enum, ↓w_enT]
    have q := rest top h1 t0 t1 P1 S1
    revert q
    simp only [↓w_ok, ↓kB_ok, ↓kI_ok, ↓w_K, ↓w_V, ↓w_vR, ↓w_Op, ↓kO1_ok, ↓kO2_ok, ↓w_Un, ↓w_bOf, ↓w_isB, ↓kBl_ok, ↓kBl_exc, ↓kIf_ok, ↓kIf_exc, ↓w_okB, ↓w_okD, ↓w_bAnd, ↓w_bOr, ↓w_bNot, ↓kNot_ok, ↓kNot_exc, ↓w_eAnd, ↓w_eOr, ↓w_eNot, ↓kNotV_ok, ↓w_eIf, ↓w_aNil, ↓w_aCons, ↓kA1_ok, ↓kA2_ok, ↓kA1_exc, ↓kA2_exc, ↓w_Tup, ↓w_Lst, ↓w_mkT, ↓w_mkL, ↓w_Dct, ↓w_Dct2, ↓w_SoSe, ↓w_Call, ↓w_goS, ↓w_Bi, ↓w_Isi, ↓w_Cut, ↓kC1_ok, ↓kC2_ok, ↓kC3_ok, ↓w_oNone, ↓w_oSome, ↓w_vO, ↓w_Chain, ↓kCh1_ok, ↓kCh2_ok, ↓kCh3_ok, ↓w_chA, ↓w_App, ↓w_Ins, ↓w_insG, ↓z_nx, ↓z_End, ↓z_Seq, ↓kT_nx, ↓kT_rt, ↓kT_bk, ↓kT_ct, ↓kT_exc, ↓z_If, ↓kIfS_ok, ↓kIfS_exc, ↓z_Ret, ↓kRet_ok, ↓kRet_exc, ↓z_Expr, ↓kNx_ok, ↓kNx_exc, ↓z_Asg, ↓kAs_ok, ↓kAs_exc, ↓z_tgO, t_N, t_T, t_nil, t_cons, t_G, t_gnil, t_gcons, t_bind, ↓z_Par, ↓kPar_ok, ↓z_Raise, ↓z_Break, ↓z_Cont, ↓z_For, ↓kSrc_ok, ↓w_Range, ↓w_rgF, ↓w_SeqI, ↓w_sqT, ↓w_Zip, ↓w_zpT, ↓w_Comp, ↓kCo_ok, ↓w_of, ↓kF_rt, ↓kF_nx, ↓kF_exc, ↓w_add, ↓w_sub, ↓w_pow10, ↓w_neg, ↓w_lt, ↓w_le, ↓w_gt, ↓w_ge, ↓w_ix0, ↓w_ix1, ↓w_ix2, ↓w_ix3, ↓w_eqI, ↓w_eqS, ↓w_eqT2, ↓w_abs, ↓w_lenT, ↓w_lenS, ↓w_max, ↓w_min, ↓w_intT, ↓w_intF, ↓w_isBool, ↓w_isTup, ↓w_tupT, ↓w_listT, ↓w_cutT, ↓brw_t, ↓brw_f, ↓brz_t, ↓brz_f, List.getElem?_cons_zero, List.getElem?_cons_succ, List.set_cons_zero, List.set_cons_succ, List.length_cons, List.length_nil, List.map_cons, List.map_nil, List.replicate, List.cons_append, List.nil_append, small, Nat.reduceAdd, Nat.reduceLeDiff, Nat.reduceEqDiff, Int.cast_ofNat_Int, Int.reduceBEq, BEq.rfl, ↓w_Yes, ↓w_bTru, ↓augF_ok, ↓z_Put, ↓putF_ok, ↓putG_ok, ↓w_isNn, ↓w_isNt, wipeF_nil, wipeF_cons, Int.reduceLE, Int.reduceLT, Int.reduceToNat, Int.reducePow, Int.reduceNeg, Int.reduceSub, Int.reduceAdd, Int.reduceMul, decide_true, decide_false, Bool.not_true, Bool.not_false, Bool.bne_false, Bool.bne_true, ↓w_aStar, ↓w_stT, ↓kSt_ok, ↓w_aDef, ↓kDf_ok, ↓w_Cnt, ↓w_Ext, ↓w_isBB, ↓w_isIB, ↓w_Enum, ↓w_enT]
    exact id
end
end MI
end
section
set_option Elab.async false
set_option linter.all false
set_option autoImplicit false
set_option maxRecDepth 100000
set_option exponentiation.threshold 20000
set_option maxHeartbeats 4000000
open PySem L2
namespace MI
section
variable {h : Hq} {Φ : Rs D → Prop} {m p : Nat} {n : Int}
/-- a comprehension over rows, tested -/
theorem comp_seq {α : Type} {d : D} {own : List Nat} {t : Tg} {c : Sb} {e : Sx} {fr : Fr} (xs : List α) (enc : α → D) (sd : SeqD h d (xs.map enc)) (hs : xs.length ≤ 1000000) (p : α → Bool) (f : α → D)
    (hc : ∀ x ∈ xs, ∃ fr1, t (enc x) (wipeF fr own) = some fr1 ∧ (∀ h' (Θ : Rs Bool → Prop), Gr h h' → (∀ h2, Gr h' h2 → Θ (.ok (p x) h2)) → W (c fr1 h') Θ) ∧ (p x = true → ∀ h' (Φ : Rs D → Prop), Gr h h' → (∀ h2, Gr h' h2 → Φ (.ok (f x) h2)) → W (e fr1 h') Φ))
    (k : ∀ h1, Gr h h1 → h.length < h1.length → lstAt h1 h.length = some ((xs.filter p).map f) → Φ (.ok (.ref h.length) h1)) : W (sqF d h) (kCo own t c e fr Φ) := by
  refine seqI_w (Gr.refl _) sd fun S so => ?_
  simp only [↓w_ok, ↓kB_ok, ↓kI_ok, ↓w_K, ↓w_V, ↓w_vR, ↓w_Op, ↓kO1_ok, ↓kO2_ok, ↓w_Un, ↓w_bOf, ↓w_isB, ↓kBl_ok, ↓kBl_exc, ↓kIf_ok, ↓kIf_exc, ↓w_okB, ↓w_okD, ↓w_bAnd, ↓w_bOr, ↓w_bNot, ↓kNot_ok, ↓kNot_exc, ↓w_eAnd, ↓w_eOr, ↓w_eNot, ↓kNotV_ok, ↓w_eIf, ↓w_aNil, ↓w_aCons, ↓kA1_ok, ↓kA2_ok, ↓kA1_exc, ↓kA2_exc, ↓w_Tup, ↓w_Lst, ↓w_mkT, ↓w_mkL, ↓w_Dct, ↓w_Dct2, ↓w_SoSe, ↓w_Call, ↓w_goS, ↓w_Bi, ↓w_Isi, ↓w_Cut, ↓kC1_ok, ↓kC2_ok, ↓kC3_ok, ↓w_oNone, ↓w_oSome, ↓w_vO, ↓w_Chain, ↓kCh1_ok, ↓kCh2_ok, ↓kCh3_ok, ↓w_chA, ↓w_App, ↓w_Ins, ↓w_insG, ↓z_nx, ↓z_End, ↓z_Seq, ↓kT_nx, ↓kT_rt, ↓kT_bk, ↓kT_ct, ↓kT_exc, ↓z_If, ↓kIfS_ok, ↓kIfS_exc, ↓z_Ret, ↓kRet_ok, ↓kRet_exc, ↓z_Expr, ↓kNx_ok, ↓kNx_exc, ↓z_Asg, ↓kAs_ok, ↓kAs_exc, ↓z_tgO, t_N, t_T, t_nil, t_cons, t_G, t_gnil, t_gcons, t_bind, ↓z_Par, ↓kPar_ok, ↓z_Raise, ↓z_Break, ↓z_Cont, ↓z_For, ↓kSrc_ok, ↓w_Range, ↓w_rgF, ↓w_SeqI, ↓w_sqT, ↓w_Zip, ↓w_zpT, ↓w_Comp, ↓kCo_ok, ↓w_of, ↓kF_rt, ↓kF_nx, ↓kF_exc, ↓w_add, ↓w_sub, ↓w_pow10, ↓w_neg, ↓w_lt, ↓w_le, ↓w_gt, ↓w_ge, ↓w_ix0, ↓w_ix1, ↓w_ix2, ↓w_ix3, ↓w_eqI, ↓w_eqS, ↓w_eqT2, ↓w_abs, ↓w_lenT, ↓w_lenS, ↓w_max, ↓w_min, ↓w_intT, ↓w_intF, ↓w_isBool, ↓w_isTup, ↓w_tupT, ↓w_listT, ↓w_cutT, ↓brw_t, ↓brw_f, ↓brz_t, ↓brz_f, List.getElem?_cons_zero, List.getElem?_cons_succ, List.set_cons_zero, List.set_cons_succ, List.length_cons, List.length_nil, List.map_cons, List.map_nil, List.replicate, List.cons_append, List.nil_append, small, Nat.reduceAdd, Nat.reduceLeDiff, Nat.reduceEqDiff, Int.cast_ofNat_Int, Int.reduceBEq, BEq.rfl, ↓w_Yes, ↓w_bTru, ↓augF_ok, ↓z_Put, ↓putF_ok, ↓putG_ok, ↓w_isNn, ↓w_isNt, wipeF_nil, wipeF_cons, Int.reduceLE, Int.reduceLT, Int.reduceToNat, Int.reducePow, Int.reduceNeg, Int.reduceSub, Int.reduceAdd, Int.reduceMul, decide_true, decide_false, Bool.not_true, Bool.not_false, Bool.bne_false, Bool.bne_true, ↓w_aStar, ↓w_stT, ↓kSt_ok, ↓w_aDef, ↓kDf_ok, ↓w_Cnt, ↓w_Ext, ↓w_isBB, ↓w_isIB, ↓w_Enum, ↓w_enT]
  refine comp_typed xs enc (by rw [so.n]; simp) hs (fun i h' g => so.get i h' g) (fun h' g => by have := so.fin h' g; simpa using this) p f hc fun T => ?_
  exact k _ ⟨[.lst ((xs.filter p).map f)] ++ T, by simp⟩ (by simp) (lst_mid _ _ _)
/-- one that has all, each worth something plain -/
theorem comp_map {α : Type} {d : D} {own : List Nat} {t : Tg} {e : Sx} {fr : Fr} (xs : List α) (enc : α → D) (sd : SeqD h d (xs.map enc)) (hs : xs.length ≤ 1000000) (f : α → D)
    (hc : ∀ x ∈ xs, ∃ fr1, t (enc x) (wipeF fr own) = some fr1 ∧ (∀ h' (Φ : Rs D → Prop), Gr h h' → (∀ h2, Gr h' h2 → Φ (.ok (f x) h2)) → W (e fr1 h') Φ))
    (k : ∀ h1, Gr h h1 → h.length < h1.length → lstAt h1 h.length = some (xs.map f) → Φ (.ok (.ref h.length) h1)) : W (sqF d h) (kCo own t cYes e fr Φ) := by
  refine comp_seq xs enc sd hs (fun _ => true) f (fun x hx => ?_) fun h1 g1 n1 l1 => k h1 g1 n1 (by rw [l1, filter_yes])
  obtain ⟨fr1, e1, e2⟩ := hc x hx
  exact ⟨fr1, e1, fun h' Θ g q => by simp only [↓w_ok, ↓kB_ok, ↓kI_ok, ↓w_K, ↓w_V, ↓w_vR, ↓w_Op, ↓kO1_ok, ↓kO2_ok, ↓w_Un, ↓w_bOf, ↓w_isB, ↓kBl_ok, ↓kBl_exc, ↓kIf_ok, ↓kIf_exc, ↓w_okB, ↓w_okD, ↓w_bAnd, ↓w_bOr, ↓w_bNot, ↓kNot_ok, ↓kNot_exc, ↓w_eAnd, ↓w_eOr, ↓w_eNot, ↓kNotV_ok, ↓w_eIf, ↓w_aNil, ↓w_aCons, ↓kA1_ok, ↓kA2_ok, ↓kA1_exc, ↓kA2_exc, ↓w_Tup, ↓w_Lst, ↓w_mkT, ↓w_mkL, ↓w_Dct, ↓w_Dct2, ↓w_SoSe, ↓w_Call, ↓w_goS, ↓w_Bi, ↓w_Isi, ↓w_Cut, ↓kC1_ok, ↓kC2_ok, ↓kC3_ok, ↓w_oNone, ↓w_oSome, ↓w_vO, ↓w_Chain, ↓kCh1_ok, ↓kCh2_ok, ↓kCh3_ok, ↓w_chA, ↓w_App, ↓w_Ins, ↓w_insG, ↓z_nx, ↓z_End, ↓z_Seq, ↓kT_nx, ↓kT_rt, ↓kT_bk, ↓kT_ct, ↓kT_exc, ↓z_If, ↓kIfS_ok, ↓kIfS_exc, ↓z_Ret, ↓kRet_ok, ↓kRet_exc, ↓z_Expr, ↓kNx_ok, ↓kNx_exc, ↓z_Asg, ↓kAs_ok, ↓kAs_exc, ↓z_tgO, t_N, t_T, t_nil, t_cons, t_G, t_gnil, t_gcons, t_bind, ↓z_Par, ↓kPar_ok, ↓z_Raise, ↓z_Break, ↓z_Cont, ↓z_For, ↓kSrc_ok, ↓w_Range, ↓w_rgF, ↓w_SeqI, ↓w_sqT, ↓w_Zip, ↓w_zpT, ↓w_Comp, ↓kCo_ok, ↓w_of, ↓kF_rt, ↓kF_nx, ↓kF_exc, ↓w_add, ↓w_sub, ↓w_pow10, ↓w_neg, ↓w_lt, ↓w_le, ↓w_gt, ↓w_ge, ↓w_ix0, ↓w_ix1, ↓w_ix2, ↓w_ix3, ↓w_eqI, ↓w_eqS, ↓w_eqT2, ↓w_abs, ↓w_lenT, ↓w_lenS, ↓w_max, ↓w_min, ↓w_intT, ↓w_intF, ↓w_isBool, ↓w_isTup, ↓w_tupT, ↓w_listT, ↓w_cutT, ↓brw_t, ↓brw_f, ↓brz_t, ↓brz_f, List.getElem?_cons_zero, List.getElem?_cons_succ, List.set_cons_zero, List.set_cons_succ, List.length_cons, List.length_nil, List.map_cons, List.map_nil, List.replicate, List.cons_append, List.nil_append, small, Nat.reduceAdd, Nat.reduceLeDiff, Nat.reduceEqDiff, Int.cast_ofNat_Int, Int.reduceBEq, BEq.rfl, ↓w_Yes, ↓w_bTru, ↓augF_ok, ↓z_Put, ↓putF_ok, ↓putG_ok, ↓w_isNn, ↓w_isNt, wipeF_nil, wipeF_cons, Int.reduceLE, Int.reduceLT, Int.reduceToNat, Int.reducePow, Int.reduceNeg, Int.reduceSub, Int.reduceAdd, Int.reduceMul, decide_true, decide_false, Bool.not_true, Bool.not_false, Bool.bne_false, Bool.bne_true, ↓w_aStar, ↓w_stT, ↓kSt_ok, ↓w_aDef, ↓kDf_ok, ↓w_Cnt, ↓w_Ext, ↓w_isBB, ↓w_isIB, ↓w_Enum, ↓w_enT]; exact q h' (Gr.refl _), fun _ => e2⟩
/-- over a tuple -/
theorem comp_seqT {α : Type} {t : Tg} {c : Sb} {e : Sx} {fr : Fr} (xs : List α) (enc : α → D) (hs : xs.length ≤ 1000000) (p : α → Bool) (f : α → D)
    (hc : ∀ x ∈ xs, ∃ fr1, t (enc x) fr = some fr1 ∧ (∀ h' (Θ : Rs Bool → Prop), Gr h h' → (∀ h2, Gr h' h2 → Θ (.ok (p x) h2)) → W (c fr1 h') Θ) ∧ (p x = true → ∀ h' (Φ : Rs D → Prop), Gr h h' → (∀ h2, Gr h' h2 → Φ (.ok (f x) h2)) → W (e fr1 h') Φ))
    (k : ∀ h1, Gr h h1 → h.length < h1.length → lstAt h1 h.length = some ((xs.filter p).map f) → Φ (.ok (.ref h.length) h1)) : W (picks h.length (srcT (xs.map enc)).get (srcT (xs.map enc)).fin t c e fr (srcT (xs.map enc)).n 0 (h ++ [.lst []])) Φ := by
  refine comp_typed xs enc (by simp [srcT]) hs (fun i h' g => srcT_get i h') (fun h' g => by have := srcT_fin (l := xs.map enc) h'; simpa using this) p f hc fun T => ?_
  exact k _ ⟨[.lst ((xs.filter p).map f)] ++ T, by simp⟩ (by simp) (lst_mid _ _ _)
theorem comp_mapT {α : Type} {t : Tg} {e : Sx} {fr : Fr} (xs : List α) (enc : α → D) (hs : xs.length ≤ 1000000) (f : α → D)
    (hc : ∀ x ∈ xs, ∃ fr1, t (enc x) fr = some fr1 ∧ (∀ h' (Φ : Rs D → Prop), Gr h h' → (∀ h2, Gr h' h2 → Φ (.ok (f x) h2)) → W (e fr1 h') Φ))
    (k : ∀ h1, Gr h h1 → h.length < h1.length → lstAt h1 h.length = some (xs.map f) → Φ (.ok (.ref h.length) h1)) : W (picks h.length (srcT (xs.map enc)).get (srcT (xs.map enc)).fin t cYes e fr (srcT (xs.map enc)).n 0 (h ++ [.lst []])) Φ := by
  refine comp_seqT xs enc hs (fun _ => true) f (fun x hx => ?_) fun h1 g1 n1 l1 => k h1 g1 n1 (by rw [l1, filter_yes])
  obtain ⟨fr1, e1, e2⟩ := hc x hx
  exact ⟨fr1, e1, fun h' Θ g q => by simp only [↓w_ok, ↓kB_ok, ↓kI_ok, ↓w_K, ↓w_V, ↓w_vR, ↓w_Op, ↓kO1_ok, ↓kO2_ok, ↓w_Un, ↓w_bOf, ↓w_isB, ↓kBl_ok, ↓kBl_exc, ↓kIf_ok, ↓kIf_exc, ↓w_okB, ↓w_okD, ↓w_bAnd, ↓w_bOr, ↓w_bNot, ↓kNot_ok, ↓kNot_exc, ↓w_eAnd, ↓w_eOr, ↓w_eNot, ↓kNotV_ok, ↓w_eIf, ↓w_aNil, ↓w_aCons, ↓kA1_ok, ↓kA2_ok, ↓kA1_exc, ↓kA2_exc, ↓w_Tup, ↓w_Lst, ↓w_mkT, ↓w_mkL, ↓w_Dct, ↓w_Dct2, ↓w_SoSe, ↓w_Call, ↓w_goS, ↓w_Bi, ↓w_Isi, ↓w_Cut, ↓kC1_ok, ↓kC2_ok, ↓kC3_ok, ↓w_oNone, ↓w_oSome, ↓w_vO, ↓w_Chain, ↓kCh1_ok, ↓kCh2_ok, ↓kCh3_ok, ↓w_chA, ↓w_App, ↓w_Ins, ↓w_insG, ↓z_nx, ↓z_End, ↓z_Seq, ↓kT_nx, ↓kT_rt, ↓kT_bk, ↓kT_ct, ↓kT_exc, ↓z_If, ↓kIfS_ok, ↓kIfS_exc, ↓z_Ret, ↓kRet_ok, ↓kRet_exc, ↓z_Expr, ↓kNx_ok, ↓kNx_exc, ↓z_Asg, ↓kAs_ok, ↓kAs_exc, ↓z_tgO, t_N, t_T, t_nil, t_cons, t_G, t_gnil, t_gcons, t_bind, ↓z_Par, ↓kPar_ok, ↓z_Raise, ↓z_Break, ↓z_Cont, ↓z_For, ↓kSrc_ok, ↓w_Range, ↓w_rgF, ↓w_SeqI, ↓w_sqT, ↓w_Zip, ↓w_zpT, ↓w_Comp, ↓kCo_ok, ↓w_of, ↓kF_rt, ↓kF_nx, ↓kF_exc, ↓w_add, ↓w_sub, ↓w_pow10, ↓w_neg, ↓w_lt, ↓w_le, ↓w_gt, ↓w_ge, ↓w_ix0, ↓w_ix1, ↓w_ix2, ↓w_ix3, ↓w_eqI, ↓w_eqS, ↓w_eqT2, ↓w_abs, ↓w_lenT, ↓w_lenS, ↓w_max, ↓w_min, ↓w_intT, ↓w_intF, ↓w_isBool, ↓w_isTup, ↓w_tupT, ↓w_listT, ↓w_cutT, ↓brw_t, ↓brw_f, ↓brz_t, ↓brz_f, List.getElem?_cons_zero, List.getElem?_cons_succ, List.set_cons_zero, List.set_cons_succ, List.length_cons, List.length_nil, List.map_cons, List.map_nil, List.replicate, List.cons_append, List.nil_append, small, Nat.reduceAdd, Nat.reduceLeDiff, Nat.reduceEqDiff, Int.cast_ofNat_Int, Int.reduceBEq, BEq.rfl, ↓w_Yes, ↓w_bTru, ↓augF_ok, ↓z_Put, ↓putF_ok, ↓putG_ok, ↓w_isNn, ↓w_isNt, wipeF_nil, wipeF_cons, Int.reduceLE, Int.reduceLT, Int.reduceToNat, Int.reducePow, Int.reduceNeg, Int.reduceSub, Int.reduceAdd, Int.reduceMul, decide_true, decide_false, Bool.not_true, Bool.not_false, Bool.bne_false, Bool.bne_true, ↓w_aStar, ↓w_stT, ↓kSt_ok, ↓w_aDef, ↓kDf_ok, ↓w_Cnt, ↓w_Ext, ↓w_isBB, ↓w_isIB, ↓w_Enum, ↓w_enT]; exact q h' (Gr.refl _), fun _ => e2⟩
def mnz : List Int → Int
  | [] => 0
  | i :: l => mnL i l
def mxz : List Int → Int
  | [] => 0
  | i :: l => mxL i l
theorem mnz_le {l : List Int} {y : Int} (h : y ∈ l) : mnz l ≤ y := by
  cases l with
  | nil => cases h
  | cons i l => exact mnL_le l i y h
theorem mxz_le {l : List Int} {y : Int} (h : y ∈ l) : y ≤ mxz l := by
  cases l with
  | nil => cases h
  | cons i l => exact mxL_le l i y h
theorem mnz_mem {l : List Int} (h : l ≠ []) : mnz l ∈ l := by
  cases l with
  | nil => exact absurd rfl h
  | cons i l => exact mnL_mem l i
theorem mxz_mem {l : List Int} (h : l ≠ []) : mxz l ∈ l := by
  cases l with
  | nil => exact absurd rfl h
  | cons i l => exact mxL_mem l i
theorem w_minL {is : List Int} (e : lstAt h m = some (is.map D.int)) (ne : is ≠ []) : W (gMinL [.ref m] h) Φ = Φ (.ok (.int (mnz is)) h) := by
  unfold W gMinL
  cases is with
  | nil => exact absurd rfl ne
  | cons i l =>
    have e2 : (lstAt h m).bind intsD = some (i :: l) := by rw [e]; exact intsD_map (i :: l)
    simp only [e2]
    rfl
theorem w_maxL {is : List Int} (e : lstAt h m = some (is.map D.int)) (ne : is ≠ []) : W (gMaxL [.ref m] h) Φ = Φ (.ok (.int (mxz is)) h) := by
  unfold W gMaxL
  cases is with
  | nil => exact absurd rfl ne
  | cons i l =>
    have e2 : (lstAt h m).bind intsD = some (i :: l) := by rw [e]; exact intsD_map (i :: l)
    simp only [e2]
    rfl
theorem w_max5 {a b c d e : Int} : W (gMax5 [.int a, .int b, .int c, .int d, .int e] h) Φ = Φ (.ok (.int (mx5 a b c d e)) h) := rfl
/-- the box's numbers -/
def bxL (c : List Zp) : Int := mnz (c.map (·.1))
def bxD (c : List Zp) : Int := mnz (c.map (·.2))
def bxR (c : List Zp) : Int := mxz (c.map (·.1))
def bxU (c : List Zp) : Int := mxz (c.map (·.2))
theorem bounds_w {c : List Zp} (ne : c ≠ []) (hl : c.length ≤ 1000) (k : ∀ h1, Gr h h1 → Φ (.ok (.tup [.int (bxL c), .int (bxD c), .int (bxR c), .int (bxU c)]) h1)) : W (S_bounds [.tup (c.map dZ)] h) Φ := by
  have n1 : c.map (·.1) ≠ [] := by simpa using ne
  have n2 : c.map (·.2) ≠ [] := by simpa using ne
  unfold S_bounds
  simp only [↓w_ok, ↓kB_ok, ↓kI_ok, ↓w_K, ↓w_V, ↓w_vR, ↓w_Op, ↓kO1_ok, ↓kO2_ok, ↓w_Un, ↓w_bOf, ↓w_isB, ↓kBl_ok, ↓kBl_exc, ↓kIf_ok, ↓kIf_exc, ↓w_okB, ↓w_okD, ↓w_bAnd, ↓w_bOr, ↓w_bNot, ↓kNot_ok, ↓kNot_exc, ↓w_eAnd, ↓w_eOr, ↓w_eNot, ↓kNotV_ok, ↓w_eIf, ↓w_aNil, ↓w_aCons, ↓kA1_ok, ↓kA2_ok, ↓kA1_exc, ↓kA2_exc, ↓w_Tup, ↓w_Lst, ↓w_mkT, ↓w_mkL, ↓w_Dct, ↓w_Dct2, ↓w_SoSe, ↓w_Call, ↓w_goS, ↓w_Bi, ↓w_Isi, ↓w_Cut, ↓kC1_ok, ↓kC2_ok, ↓kC3_ok, ↓w_oNone, ↓w_oSome, ↓w_vO, ↓w_Chain, ↓kCh1_ok, ↓kCh2_ok, ↓kCh3_ok, ↓w_chA, ↓w_App, ↓w_Ins, ↓w_insG, ↓z_nx, ↓z_End, ↓z_Seq, ↓kT_nx, ↓kT_rt, ↓kT_bk, ↓kT_ct, ↓kT_exc, ↓z_If, ↓kIfS_ok, ↓kIfS_exc, ↓z_Ret, ↓kRet_ok, ↓kRet_exc, ↓z_Expr, ↓kNx_ok, ↓kNx_exc, ↓z_Asg, ↓kAs_ok, ↓kAs_exc, ↓z_tgO, t_N, t_T, t_nil, t_cons, t_G, t_gnil, t_gcons, t_bind, ↓z_Par, ↓kPar_ok, ↓z_Raise, ↓z_Break, ↓z_Cont, ↓z_For, ↓kSrc_ok, ↓w_Range, ↓w_rgF, ↓w_SeqI, ↓w_sqT, ↓w_Zip, ↓w_zpT, ↓w_Comp, ↓kCo_ok, ↓w_of, ↓kF_rt, ↓kF_nx, ↓kF_exc, ↓w_add, ↓w_sub, ↓w_pow10, ↓w_neg, ↓w_lt, ↓w_le, ↓w_gt, ↓w_ge, ↓w_ix0, ↓w_ix1, ↓w_ix2, ↓w_ix3, ↓w_eqI, ↓w_eqS, ↓w_eqT2, ↓w_abs, ↓w_lenT, ↓w_lenS, ↓w_max, ↓w_min, ↓w_intT, ↓w_intF, ↓w_isBool, ↓w_isTup, ↓w_tupT, ↓w_listT, ↓w_cutT, ↓brw_t, ↓brw_f, ↓brz_t, ↓brz_f, List.getElem?_cons_zero, List.getElem?_cons_succ, List.set_cons_zero, List.set_cons_succ, List.length_cons, List.length_nil, List.map_cons, List.map_nil, List.replicate, List.cons_append, List.nil_append, small, Nat.reduceAdd, Nat.reduceLeDiff, Nat.reduceEqDiff, Int.cast_ofNat_Int, Int.reduceBEq, BEq.rfl, ↓w_Yes, ↓w_bTru, ↓augF_ok, ↓z_Put, ↓putF_ok, ↓putG_ok, ↓w_isNn, ↓w_isNt, wipeF_nil, wipeF_cons, Int.reduceLE, Int.reduceLT, Int.reduceToNat, Int.reducePow, Int.reduceNeg, Int.reduceSub, Int.reduceAdd, Int.reduceMul, decide_true, decide_false, Bool.not_true, Bool.not_false, Bool.bne_false, Bool.bne_true, ↓w_aStar, ↓w_stT, ↓kSt_ok, ↓w_aDef, ↓kDf_ok, ↓w_Cnt, ↓w_Ext, ↓w_isBB, ↓w_isIB, ↓w_Enum, ↓w_enT]
  refine comp_mapT c dZ (by omega) (fun q => .int q.1) ?_ fun h1 g1 m1 l1 => ?_
  · intro q hq
    refine ⟨_, rfl, fun h' Φ g q => ?_⟩
    simp only [↓w_ok, ↓kB_ok, ↓kI_ok, ↓w_K, ↓w_V, ↓w_vR, ↓w_Op, ↓kO1_ok, ↓kO2_ok, ↓w_Un, ↓w_bOf, ↓w_isB, ↓kBl_ok, ↓kBl_exc, ↓kIf_ok, ↓kIf_exc, ↓w_okB, ↓w_okD, ↓w_bAnd, ↓w_bOr, ↓w_bNot, ↓kNot_ok, ↓kNot_exc, ↓w_eAnd, ↓w_eOr, ↓w_eNot, ↓kNotV_ok, ↓w_eIf, ↓w_aNil, ↓w_aCons, ↓kA1_ok, ↓kA2_ok, ↓kA1_exc, ↓kA2_exc, ↓w_Tup, ↓w_Lst, ↓w_mkT, ↓w_mkL, ↓w_Dct, ↓w_Dct2, ↓w_SoSe, ↓w_Call, ↓w_goS, ↓w_Bi, ↓w_Isi, ↓w_Cut, ↓kC1_ok, ↓kC2_ok, ↓kC3_ok, ↓w_oNone, ↓w_oSome, ↓w_vO, ↓w_Chain, ↓kCh1_ok, ↓kCh2_ok, ↓kCh3_ok, ↓w_chA, ↓w_App, ↓w_Ins, ↓w_insG, ↓z_nx, ↓z_End, ↓z_Seq, ↓kT_nx, ↓kT_rt, ↓kT_bk, ↓kT_ct, ↓kT_exc, ↓z_If, ↓kIfS_ok, ↓kIfS_exc, ↓z_Ret, ↓kRet_ok, ↓kRet_exc, ↓z_Expr, ↓kNx_ok, ↓kNx_exc, ↓z_Asg, ↓kAs_ok, ↓kAs_exc, ↓z_tgO, t_N, t_T, t_nil, t_cons, t_G, t_gnil, t_gcons, t_bind, ↓z_Par, ↓kPar_ok, ↓z_Raise, ↓z_Break, ↓z_Cont, ↓z_For, ↓kSrc_ok, ↓w_Range, ↓w_rgF, ↓w_SeqI, ↓w_sqT, ↓w_Zip, ↓w_zpT, ↓w_Comp, ↓kCo_ok, ↓w_of, ↓kF_rt, ↓kF_nx, ↓kF_exc, ↓w_add, ↓w_sub, ↓w_pow10, ↓w_neg, ↓w_lt, ↓w_le, ↓w_gt, ↓w_ge, ↓w_ix0, ↓w_ix1, ↓w_ix2, ↓w_ix3, ↓w_eqI, ↓w_eqS, ↓w_eqT2, ↓w_abs, ↓w_lenT, ↓w_lenS, ↓w_max, ↓w_min, ↓w_intT, ↓w_intF, ↓w_isBool, ↓w_isTup, ↓w_tupT, ↓w_listT, ↓w_cutT, ↓brw_t, ↓brw_f, ↓brz_t, ↓brz_f, List.getElem?_cons_zero, List.getElem?_cons_succ, List.set_cons_zero, List.set_cons_succ, List.length_cons, List.length_nil, List.map_cons, List.map_nil, List.replicate, List.cons_append, List.nil_append, small, Nat.reduceAdd, Nat.reduceLeDiff, Nat.reduceEqDiff, Int.cast_ofNat_Int, Int.reduceBEq, BEq.rfl, ↓w_Yes, ↓w_bTru, ↓augF_ok, ↓z_Put, ↓putF_ok, ↓putG_ok, ↓w_isNn, ↓w_isNt, wipeF_nil, wipeF_cons, Int.reduceLE, Int.reduceLT, Int.reduceToNat, Int.reducePow, Int.reduceNeg, Int.reduceSub, Int.reduceAdd, Int.reduceMul, decide_true, decide_false, Bool.not_true, Bool.not_false, Bool.bne_false, Bool.bne_true, ↓w_aStar, ↓w_stT, ↓kSt_ok, ↓w_aDef, ↓kDf_ok, ↓w_Cnt, ↓w_Ext, ↓w_isBB, ↓w_isIB, ↓w_Enum, ↓w_enT]
    exact q h' (Gr.refl _)
  simp only [↓w_ok, ↓kB_ok, ↓kI_ok, ↓w_K, ↓w_V, ↓w_vR, ↓w_Op, ↓kO1_ok, ↓kO2_ok, ↓w_Un, ↓w_bOf, ↓w_isB, ↓kBl_ok, ↓kBl_exc, ↓kIf_ok, ↓kIf_exc, ↓w_okB, ↓w_okD, ↓w_bAnd, ↓w_bOr, ↓w_bNot, ↓kNot_ok, ↓kNot_exc, ↓w_eAnd, ↓w_eOr, ↓w_eNot, ↓kNotV_ok, ↓w_eIf, ↓w_aNil, ↓w_aCons, ↓kA1_ok, ↓kA2_ok, ↓kA1_exc, ↓kA2_exc, ↓w_Tup, ↓w_Lst, ↓w_mkT, ↓w_mkL, ↓w_Dct, ↓w_Dct2, ↓w_SoSe, ↓w_Call, ↓w_goS, ↓w_Bi, ↓w_Isi, ↓w_Cut, ↓kC1_ok, ↓kC2_ok, ↓kC3_ok, ↓w_oNone, ↓w_oSome, ↓w_vO, ↓w_Chain, ↓kCh1_ok, ↓kCh2_ok, ↓kCh3_ok, ↓w_chA, ↓w_App, ↓w_Ins, ↓w_insG, ↓z_nx, ↓z_End, ↓z_Seq, ↓kT_nx, ↓kT_rt, ↓kT_bk, ↓kT_ct, ↓kT_exc, ↓z_If, ↓kIfS_ok, ↓kIfS_exc, ↓z_Ret, ↓kRet_ok, ↓kRet_exc, ↓z_Expr, ↓kNx_ok, ↓kNx_exc, ↓z_Asg, ↓kAs_ok, ↓kAs_exc, ↓z_tgO, t_N, t_T, t_nil, t_cons, t_G, t_gnil, t_gcons, t_bind, ↓z_Par, ↓kPar_ok, ↓z_Raise, ↓z_Break, ↓z_Cont, ↓z_For, ↓kSrc_ok, ↓w_Range, ↓w_rgF, ↓w_SeqI, ↓w_sqT, ↓w_Zip, ↓w_zpT, ↓w_Comp, ↓kCo_ok, ↓w_of, ↓kF_rt, ↓kF_nx, ↓kF_exc, ↓w_add, ↓w_sub, ↓w_pow10, ↓w_neg, ↓w_lt, ↓w_le, ↓w_gt, ↓w_ge, ↓w_ix0, ↓w_ix1, ↓w_ix2, ↓w_ix3, ↓w_eqI, ↓w_eqS, ↓w_eqT2, ↓w_abs, ↓w_lenT, ↓w_lenS, ↓w_max, ↓w_min, ↓w_intT, ↓w_intF, ↓w_isBool, ↓w_isTup, ↓w_tupT, ↓w_listT, ↓w_cutT, ↓brw_t, ↓brw_f, ↓brz_t, ↓brz_f, List.getElem?_cons_zero, List.getElem?_cons_succ, List.set_cons_zero, List.set_cons_succ, List.length_cons, List.length_nil, List.map_cons, List.map_nil, List.replicate, List.cons_append, List.nil_append, small, Nat.reduceAdd, Nat.reduceLeDiff, Nat.reduceEqDiff, Int.cast_ofNat_Int, Int.reduceBEq, BEq.rfl, ↓w_Yes, ↓w_bTru, ↓augF_ok, ↓z_Put, ↓putF_ok, ↓putG_ok, ↓w_isNn, ↓w_isNt, wipeF_nil, wipeF_cons, Int.reduceLE, Int.reduceLT, Int.reduceToNat, Int.reducePow, Int.reduceNeg, Int.reduceSub, Int.reduceAdd, Int.reduceMul, decide_true, decide_false, Bool.not_true, Bool.not_false, Bool.bne_false, Bool.bne_true, ↓w_aStar, ↓w_stT, ↓kSt_ok, ↓w_aDef, ↓kDf_ok, ↓w_Cnt, ↓w_Ext, ↓w_isBB, ↓w_isIB, ↓w_Enum, ↓w_enT]
  refine comp_mapT c dZ (by omega) (fun q => .int q.2) ?_ fun h2 g2 m2 l2 => ?_
  · intro q hq
    refine ⟨_, rfl, fun h' Φ g q => ?_⟩
    simp only [↓w_ok, ↓kB_ok, ↓kI_ok, ↓w_K, ↓w_V, ↓w_vR, ↓w_Op, ↓kO1_ok, ↓kO2_ok, ↓w_Un, ↓w_bOf, ↓w_isB, ↓kBl_ok, ↓kBl_exc, ↓kIf_ok, ↓kIf_exc, ↓w_okB, ↓w_okD, ↓w_bAnd, ↓w_bOr, ↓w_bNot, ↓kNot_ok, ↓kNot_exc, ↓w_eAnd, ↓w_eOr, ↓w_eNot, ↓kNotV_ok, ↓w_eIf, ↓w_aNil, ↓w_aCons, ↓kA1_ok, ↓kA2_ok, ↓kA1_exc, ↓kA2_exc, ↓w_Tup, ↓w_Lst, ↓w_mkT, ↓w_mkL, ↓w_Dct, ↓w_Dct2, ↓w_SoSe, ↓w_Call, ↓w_goS, ↓w_Bi, ↓w_Isi, ↓w_Cut, ↓kC1_ok, ↓kC2_ok, ↓kC3_ok, ↓w_oNone, ↓w_oSome, ↓w_vO, ↓w_Chain, ↓kCh1_ok, ↓kCh2_ok, ↓kCh3_ok, ↓w_chA, ↓w_App, ↓w_Ins, ↓w_insG, ↓z_nx, ↓z_End, ↓z_Seq, ↓kT_nx, ↓kT_rt, ↓kT_bk, ↓kT_ct, ↓kT_exc, ↓z_If, ↓kIfS_ok, ↓kIfS_exc, ↓z_Ret, ↓kRet_ok, ↓kRet_exc, ↓z_Expr, ↓kNx_ok, ↓kNx_exc, ↓z_Asg, ↓kAs_ok, ↓kAs_exc, ↓z_tgO, t_N, t_T, t_nil, t_cons, t_G, t_gnil, t_gcons, t_bind, ↓z_Par, ↓kPar_ok, ↓z_Raise, ↓z_Break, ↓z_Cont, ↓z_For, ↓kSrc_ok, ↓w_Range, ↓w_rgF, ↓w_SeqI, ↓w_sqT, ↓w_Zip, ↓w_zpT, ↓w_Comp, ↓kCo_ok, ↓w_of, ↓kF_rt, ↓kF_nx, ↓kF_exc, ↓w_add, ↓w_sub, ↓w_pow10, ↓w_neg, ↓w_lt, ↓w_le, ↓w_gt, ↓w_ge, ↓w_ix0, ↓w_ix1, ↓w_ix2, ↓w_ix3, ↓w_eqI, ↓w_eqS, ↓w_eqT2, ↓w_abs, ↓w_lenT, ↓w_lenS, ↓w_max, ↓w_min, ↓w_intT, ↓w_intF, ↓w_isBool, ↓w_isTup, ↓w_tupT, ↓w_listT, ↓w_cutT, ↓brw_t, ↓brw_f, ↓brz_t, ↓brz_f, List.getElem?_cons_zero, List.getElem?_cons_succ, List.set_cons_zero, List.set_cons_succ, List.length_cons, List.length_nil, List.map_cons, List.map_nil, List.replicate, List.cons_append, List.nil_append, small, Nat.reduceAdd, Nat.reduceLeDiff, Nat.reduceEqDiff, Int.cast_ofNat_Int, Int.reduceBEq, BEq.rfl, ↓w_Yes, ↓w_bTru, ↓augF_ok, ↓z_Put, ↓putF_ok, ↓putG_ok, ↓w_isNn, ↓w_isNt, wipeF_nil, wipeF_cons, Int.reduceLE, Int.reduceLT, Int.reduceToNat, Int.reducePow, Int.reduceNeg, Int.reduceSub, Int.reduceAdd, Int.reduceMul, decide_true, decide_false, Bool.not_true, Bool.not_false, Bool.bne_false, Bool.bne_true, ↓w_aStar, ↓w_stT, ↓kSt_ok, ↓w_aDef, ↓kDf_ok, ↓w_Cnt, ↓w_Ext, ↓w_isBB, ↓w_isIB, ↓w_Enum, ↓w_enT]
    exact q h' (Gr.refl _)
  have e1 : lstAt h2 h.length = some ((c.map (·.1)).map D.int) := by rw [g2.lst l1, List.map_map]; rfl
  have e2 : lstAt h2 h1.length = some ((c.map (·.2)).map D.int) := by rw [l2, List.map_map]; rfl
  simp only [↓w_ok, ↓kB_ok, ↓kI_ok, ↓w_K, ↓w_V, ↓w_vR, ↓w_Op, ↓kO1_ok, ↓kO2_ok, ↓w_Un, ↓w_bOf, ↓w_isB, ↓kBl_ok, ↓kBl_exc, ↓kIf_ok, ↓kIf_exc, ↓w_okB, ↓w_okD, ↓w_bAnd, ↓w_bOr, ↓w_bNot, ↓kNot_ok, ↓kNot_exc, ↓w_eAnd, ↓w_eOr, ↓w_eNot, ↓kNotV_ok, ↓w_eIf, ↓w_aNil, ↓w_aCons, ↓kA1_ok, ↓kA2_ok, ↓kA1_exc, ↓kA2_exc, ↓w_Tup, ↓w_Lst, ↓w_mkT, ↓w_mkL, ↓w_Dct, ↓w_Dct2, ↓w_SoSe, ↓w_Call, ↓w_goS, ↓w_Bi, ↓w_Isi, ↓w_Cut, ↓kC1_ok, ↓kC2_ok, ↓kC3_ok, ↓w_oNone, ↓w_oSome, ↓w_vO, ↓w_Chain, ↓kCh1_ok, ↓kCh2_ok, ↓kCh3_ok, ↓w_chA, ↓w_App, ↓w_Ins, ↓w_insG, ↓z_nx, ↓z_End, ↓z_Seq, ↓kT_nx, ↓kT_rt, ↓kT_bk, ↓kT_ct, ↓kT_exc, ↓z_If, ↓kIfS_ok, ↓kIfS_exc, ↓z_Ret, ↓kRet_ok, ↓kRet_exc, ↓z_Expr, ↓kNx_ok, ↓kNx_exc, ↓z_Asg, ↓kAs_ok, ↓kAs_exc, ↓z_tgO, t_N, t_T, t_nil, t_cons, t_G, t_gnil, t_gcons, t_bind, ↓z_Par, ↓kPar_ok, ↓z_Raise, ↓z_Break, ↓z_Cont, ↓z_For, ↓kSrc_ok, ↓w_Range, ↓w_rgF, ↓w_SeqI, ↓w_sqT, ↓w_Zip, ↓w_zpT, ↓w_Comp, ↓kCo_ok, ↓w_of, ↓kF_rt, ↓kF_nx, ↓kF_exc, ↓w_add, ↓w_sub, ↓w_pow10, ↓w_neg, ↓w_lt, ↓w_le, ↓w_gt, ↓w_ge, ↓w_ix0, ↓w_ix1, ↓w_ix2, ↓w_ix3, ↓w_eqI, ↓w_eqS, ↓w_eqT2, ↓w_abs, ↓w_lenT, ↓w_lenS, ↓w_max, ↓w_min, ↓w_intT, ↓w_intF, ↓w_isBool, ↓w_isTup, ↓w_tupT, ↓w_listT, ↓w_cutT, ↓brw_t, ↓brw_f, ↓brz_t, ↓brz_f, List.getElem?_cons_zero, List.getElem?_cons_succ, List.set_cons_zero, List.set_cons_succ, List.length_cons, List.length_nil, List.map_cons, List.map_nil, List.replicate, List.cons_append, List.nil_append, small, Nat.reduceAdd, Nat.reduceLeDiff, Nat.reduceEqDiff, Int.cast_ofNat_Int, Int.reduceBEq, BEq.rfl, ↓w_Yes, ↓w_bTru, ↓augF_ok, ↓z_Put, ↓putF_ok, ↓putG_ok, ↓w_isNn, ↓w_isNt, wipeF_nil, wipeF_cons, Int.reduceLE, Int.reduceLT, Int.reduceToNat, Int.reducePow, Int.reduceNeg, Int.reduceSub, Int.reduceAdd, Int.reduceMul, decide_true, decide_false, Bool.not_true, Bool.not_false, Bool.bne_false, Bool.bne_true, ↓w_aStar, ↓w_stT, ↓kSt_ok, ↓w_aDef, ↓kDf_ok, ↓w_Cnt, ↓w_Ext, ↓w_isBB, ↓w_isIB, ↓w_Enum, ↓w_enT, w_minL e1 n1, w_minL e2 n2, w_maxL e1 n1, w_maxL e2 n2]
  exact k h2 (g1.trans g2)
/-- the gap of two rows of corners -/
def gapZ (a b : List Zp) : Int := mx5 0 (bxL a - bxR b) (bxL b - bxR a) (bxD a - bxU b) (bxD b - bxU a)
theorem gapof_w {a b : List Zp} (na : a ≠ []) (nb : b ≠ []) (la : a.length ≤ 1000) (lb : b.length ≤ 1000) (k : ∀ h1, Gr h h1 → Φ (.ok (.int (gapZ a b)) h1)) : W (S_gap_of [.tup (a.map dZ), .tup (b.map dZ)] h) Φ := by
  unfold S_gap_of
  simp only [↓w_ok, ↓kB_ok, ↓kI_ok, ↓w_K, ↓w_V, ↓w_vR, ↓w_Op, ↓kO1_ok, ↓kO2_ok, ↓w_Un, ↓w_bOf, ↓w_isB, ↓kBl_ok, ↓kBl_exc, ↓kIf_ok, ↓kIf_exc, ↓w_okB, ↓w_okD, ↓w_bAnd, ↓w_bOr, ↓w_bNot, ↓kNot_ok, ↓kNot_exc, ↓w_eAnd, ↓w_eOr, ↓w_eNot, ↓kNotV_ok, ↓w_eIf, ↓w_aNil, ↓w_aCons, ↓kA1_ok, ↓kA2_ok, ↓kA1_exc, ↓kA2_exc, ↓w_Tup, ↓w_Lst, ↓w_mkT, ↓w_mkL, ↓w_Dct, ↓w_Dct2, ↓w_SoSe, ↓w_Call, ↓w_goS, ↓w_Bi, ↓w_Isi, ↓w_Cut, ↓kC1_ok, ↓kC2_ok, ↓kC3_ok, ↓w_oNone, ↓w_oSome, ↓w_vO, ↓w_Chain, ↓kCh1_ok, ↓kCh2_ok, ↓kCh3_ok, ↓w_chA, ↓w_App, ↓w_Ins, ↓w_insG, ↓z_nx, ↓z_End, ↓z_Seq, ↓kT_nx, ↓kT_rt, ↓kT_bk, ↓kT_ct, ↓kT_exc, ↓z_If, ↓kIfS_ok, ↓kIfS_exc, ↓z_Ret, ↓kRet_ok, ↓kRet_exc, ↓z_Expr, ↓kNx_ok, ↓kNx_exc, ↓z_Asg, ↓kAs_ok, ↓kAs_exc, ↓z_tgO, t_N, t_T, t_nil, t_cons, t_G, t_gnil, t_gcons, t_bind, ↓z_Par, ↓kPar_ok, ↓z_Raise, ↓z_Break, ↓z_Cont, ↓z_For, ↓kSrc_ok, ↓w_Range, ↓w_rgF, ↓w_SeqI, ↓w_sqT, ↓w_Zip, ↓w_zpT, ↓w_Comp, ↓kCo_ok, ↓w_of, ↓kF_rt, ↓kF_nx, ↓kF_exc, ↓w_add, ↓w_sub, ↓w_pow10, ↓w_neg, ↓w_lt, ↓w_le, ↓w_gt, ↓w_ge, ↓w_ix0, ↓w_ix1, ↓w_ix2, ↓w_ix3, ↓w_eqI, ↓w_eqS, ↓w_eqT2, ↓w_abs, ↓w_lenT, ↓w_lenS, ↓w_max, ↓w_min, ↓w_intT, ↓w_intF, ↓w_isBool, ↓w_isTup, ↓w_tupT, ↓w_listT, ↓w_cutT, ↓brw_t, ↓brw_f, ↓brz_t, ↓brz_f, List.getElem?_cons_zero, List.getElem?_cons_succ, List.set_cons_zero, List.set_cons_succ, List.length_cons, List.length_nil, List.map_cons, List.map_nil, List.replicate, List.cons_append, List.nil_append, small, Nat.reduceAdd, Nat.reduceLeDiff, Nat.reduceEqDiff, Int.cast_ofNat_Int, Int.reduceBEq, BEq.rfl, ↓w_Yes, ↓w_bTru, ↓augF_ok, ↓z_Put, ↓putF_ok, ↓putG_ok, ↓w_isNn, ↓w_isNt, wipeF_nil, wipeF_cons, Int.reduceLE, Int.reduceLT, Int.reduceToNat, Int.reducePow, Int.reduceNeg, Int.reduceSub, Int.reduceAdd, Int.reduceMul, decide_true, decide_false, Bool.not_true, Bool.not_false, Bool.bne_false, Bool.bne_true, ↓w_aStar, ↓w_stT, ↓kSt_ok, ↓w_aDef, ↓kDf_ok, ↓w_Cnt, ↓w_Ext, ↓w_isBB, ↓w_isIB, ↓w_Enum, ↓w_enT]
  refine bounds_w na la fun h1 g1 => ?_
  simp only [↓w_ok, ↓kB_ok, ↓kI_ok, ↓w_K, ↓w_V, ↓w_vR, ↓w_Op, ↓kO1_ok, ↓kO2_ok, ↓w_Un, ↓w_bOf, ↓w_isB, ↓kBl_ok, ↓kBl_exc, ↓kIf_ok, ↓kIf_exc, ↓w_okB, ↓w_okD, ↓w_bAnd, ↓w_bOr, ↓w_bNot, ↓kNot_ok, ↓kNot_exc, ↓w_eAnd, ↓w_eOr, ↓w_eNot, ↓kNotV_ok, ↓w_eIf, ↓w_aNil, ↓w_aCons, ↓kA1_ok, ↓kA2_ok, ↓kA1_exc, ↓kA2_exc, ↓w_Tup, ↓w_Lst, ↓w_mkT, ↓w_mkL, ↓w_Dct, ↓w_Dct2, ↓w_SoSe, ↓w_Call, ↓w_goS, ↓w_Bi, ↓w_Isi, ↓w_Cut, ↓kC1_ok, ↓kC2_ok, ↓kC3_ok, ↓w_oNone, ↓w_oSome, ↓w_vO, ↓w_Chain, ↓kCh1_ok, ↓kCh2_ok, ↓kCh3_ok, ↓w_chA, ↓w_App, ↓w_Ins, ↓w_insG, ↓z_nx, ↓z_End, ↓z_Seq, ↓kT_nx, ↓kT_rt, ↓kT_bk, ↓kT_ct, ↓kT_exc, ↓z_If, ↓kIfS_ok, ↓kIfS_exc, ↓z_Ret, ↓kRet_ok, ↓kRet_exc, ↓z_Expr, ↓kNx_ok, ↓kNx_exc, ↓z_Asg, ↓kAs_ok, ↓kAs_exc, ↓z_tgO, t_N, t_T, t_nil, t_cons, t_G, t_gnil, t_gcons, t_bind, ↓z_Par, ↓kPar_ok, ↓z_Raise, ↓z_Break, ↓z_Cont, ↓z_For, ↓kSrc_ok, ↓w_Range, ↓w_rgF, ↓w_SeqI, ↓w_sqT, ↓w_Zip, ↓w_zpT, ↓w_Comp, ↓kCo_ok, ↓w_of, ↓kF_rt, ↓kF_nx, ↓kF_exc, ↓w_add, ↓w_sub, ↓w_pow10, ↓w_neg, ↓w_lt, ↓w_le, ↓w_gt, ↓w_ge, ↓w_ix0, ↓w_ix1, ↓w_ix2, ↓w_ix3, ↓w_eqI, ↓w_eqS, ↓w_eqT2, ↓w_abs, ↓w_lenT, ↓w_lenS, ↓w_max, ↓w_min, ↓w_intT, ↓w_intF, ↓w_isBool, ↓w_isTup, ↓w_tupT, ↓w_listT, ↓w_cutT, ↓brw_t, ↓brw_f, ↓brz_t, ↓brz_f, List.getElem?_cons_zero, List.getElem?_cons_succ, List.set_cons_zero, List.set_cons_succ, List.length_cons, List.length_nil, List.map_cons, List.map_nil, List.replicate, List.cons_append, List.nil_append, small, Nat.reduceAdd, Nat.reduceLeDiff, Nat.reduceEqDiff, Int.cast_ofNat_Int, Int.reduceBEq, BEq.rfl, ↓w_Yes, ↓w_bTru, ↓augF_ok, ↓z_Put, ↓putF_ok, ↓putG_ok, ↓w_isNn, ↓w_isNt, wipeF_nil, wipeF_cons, Int.reduceLE, Int.reduceLT, Int.reduceToNat, Int.reducePow, Int.reduceNeg, Int.reduceSub, Int.reduceAdd, Int.reduceMul, decide_true, decide_false, Bool.not_true, Bool.not_false, Bool.bne_false, Bool.bne_true, ↓w_aStar, ↓w_stT, ↓kSt_ok, ↓w_aDef, ↓kDf_ok, ↓w_Cnt, ↓w_Ext, ↓w_isBB, ↓w_isIB, ↓w_Enum, ↓w_enT]
  refine bounds_w nb lb fun h2 g2 => ?_
  simp only [↓w_ok, ↓kB_ok, ↓kI_ok, ↓w_K, ↓w_V, ↓w_vR, ↓w_Op, ↓kO1_ok, ↓kO2_ok, ↓w_Un, ↓w_bOf, ↓w_isB, ↓kBl_ok, ↓kBl_exc, ↓kIf_ok, ↓kIf_exc, ↓w_okB, ↓w_okD, ↓w_bAnd, ↓w_bOr, ↓w_bNot, ↓kNot_ok, ↓kNot_exc, ↓w_eAnd, ↓w_eOr, ↓w_eNot, ↓kNotV_ok, ↓w_eIf, ↓w_aNil, ↓w_aCons, ↓kA1_ok, ↓kA2_ok, ↓kA1_exc, ↓kA2_exc, ↓w_Tup, ↓w_Lst, ↓w_mkT, ↓w_mkL, ↓w_Dct, ↓w_Dct2, ↓w_SoSe, ↓w_Call, ↓w_goS, ↓w_Bi, ↓w_Isi, ↓w_Cut, ↓kC1_ok, ↓kC2_ok, ↓kC3_ok, ↓w_oNone, ↓w_oSome, ↓w_vO, ↓w_Chain, ↓kCh1_ok, ↓kCh2_ok, ↓kCh3_ok, ↓w_chA, ↓w_App, ↓w_Ins, ↓w_insG, ↓z_nx, ↓z_End, ↓z_Seq, ↓kT_nx, ↓kT_rt, ↓kT_bk, ↓kT_ct, ↓kT_exc, ↓z_If, ↓kIfS_ok, ↓kIfS_exc, ↓z_Ret, ↓kRet_ok, ↓kRet_exc, ↓z_Expr, ↓kNx_ok, ↓kNx_exc, ↓z_Asg, ↓kAs_ok, ↓kAs_exc, ↓z_tgO, t_N, t_T, t_nil, t_cons, t_G, t_gnil, t_gcons, t_bind, ↓z_Par, ↓kPar_ok, ↓z_Raise, ↓z_Break, ↓z_Cont, ↓z_For, ↓kSrc_ok, ↓w_Range, ↓w_rgF, ↓w_SeqI, ↓w_sqT, ↓w_Zip, ↓w_zpT, ↓w_Comp, ↓kCo_ok, ↓w_of, ↓kF_rt, ↓kF_nx, ↓kF_exc, ↓w_add, ↓w_sub, ↓w_pow10, ↓w_neg, ↓w_lt, ↓w_le, ↓w_gt, ↓w_ge, ↓w_ix0, ↓w_ix1, ↓w_ix2, ↓w_ix3, ↓w_eqI, ↓w_eqS, ↓w_eqT2, ↓w_abs, ↓w_lenT, ↓w_lenS, ↓w_max, ↓w_min, ↓w_intT, ↓w_intF, ↓w_isBool, ↓w_isTup, ↓w_tupT, ↓w_listT, ↓w_cutT, ↓brw_t, ↓brw_f, ↓brz_t, ↓brz_f, List.getElem?_cons_zero, List.getElem?_cons_succ, List.set_cons_zero, List.set_cons_succ, List.length_cons, List.length_nil, List.map_cons, List.map_nil, List.replicate, List.cons_append, List.nil_append, small, Nat.reduceAdd, Nat.reduceLeDiff, Nat.reduceEqDiff, Int.cast_ofNat_Int, Int.reduceBEq, BEq.rfl, ↓w_Yes, ↓w_bTru, ↓augF_ok, ↓z_Put, ↓putF_ok, ↓putG_ok, ↓w_isNn, ↓w_isNt, wipeF_nil, wipeF_cons, Int.reduceLE, Int.reduceLT, Int.reduceToNat, Int.reducePow, Int.reduceNeg, Int.reduceSub, Int.reduceAdd, Int.reduceMul, decide_true, decide_false, Bool.not_true, Bool.not_false, Bool.bne_false, Bool.bne_true, ↓w_aStar, ↓w_stT, ↓kSt_ok, ↓w_aDef, ↓kDf_ok, ↓w_Cnt, ↓w_Ext, ↓w_isBB, ↓w_isIB, ↓w_Enum, ↓w_enT, w_max5]
  exact k h2 (g1.trans g2)
theorem needring_w {c : List Zp} (r : Rn c) (hb : ∀ q ∈ c, In9 q) (k : Φ (.ok .non h)) : W (S_need_ring [.tup (c.map dZ)] h) Φ := by
  unfold S_need_ring
  simp only [↓w_ok, ↓kB_ok, ↓kI_ok, ↓w_K, ↓w_V, ↓w_vR, ↓w_Op, ↓kO1_ok, ↓kO2_ok, ↓w_Un, ↓w_bOf, ↓w_isB, ↓kBl_ok, ↓kBl_exc, ↓kIf_ok, ↓kIf_exc, ↓w_okB, ↓w_okD, ↓w_bAnd, ↓w_bOr, ↓w_bNot, ↓kNot_ok, ↓kNot_exc, ↓w_eAnd, ↓w_eOr, ↓w_eNot, ↓kNotV_ok, ↓w_eIf, ↓w_aNil, ↓w_aCons, ↓kA1_ok, ↓kA2_ok, ↓kA1_exc, ↓kA2_exc, ↓w_Tup, ↓w_Lst, ↓w_mkT, ↓w_mkL, ↓w_Dct, ↓w_Dct2, ↓w_SoSe, ↓w_Call, ↓w_goS, ↓w_Bi, ↓w_Isi, ↓w_Cut, ↓kC1_ok, ↓kC2_ok, ↓kC3_ok, ↓w_oNone, ↓w_oSome, ↓w_vO, ↓w_Chain, ↓kCh1_ok, ↓kCh2_ok, ↓kCh3_ok, ↓w_chA, ↓w_App, ↓w_Ins, ↓w_insG, ↓z_nx, ↓z_End, ↓z_Seq, ↓kT_nx, ↓kT_rt, ↓kT_bk, ↓kT_ct, ↓kT_exc, ↓z_If, ↓kIfS_ok, ↓kIfS_exc, ↓z_Ret, ↓kRet_ok, ↓kRet_exc, ↓z_Expr, ↓kNx_ok, ↓kNx_exc, ↓z_Asg, ↓kAs_ok, ↓kAs_exc, ↓z_tgO, t_N, t_T, t_nil, t_cons, t_G, t_gnil, t_gcons, t_bind, ↓z_Par, ↓kPar_ok, ↓z_Raise, ↓z_Break, ↓z_Cont, ↓z_For, ↓kSrc_ok, ↓w_Range, ↓w_rgF, ↓w_SeqI, ↓w_sqT, ↓w_Zip, ↓w_zpT, ↓w_Comp, ↓kCo_ok, ↓w_of, ↓kF_rt, ↓kF_nx, ↓kF_exc, ↓w_add, ↓w_sub, ↓w_pow10, ↓w_neg, ↓w_lt, ↓w_le, ↓w_gt, ↓w_ge, ↓w_ix0, ↓w_ix1, ↓w_ix2, ↓w_ix3, ↓w_eqI, ↓w_eqS, ↓w_eqT2, ↓w_abs, ↓w_lenT, ↓w_lenS, ↓w_max, ↓w_min, ↓w_intT, ↓w_intF, ↓w_isBool, ↓w_isTup, ↓w_tupT, ↓w_listT, ↓w_cutT, ↓brw_t, ↓brw_f, ↓brz_t, ↓brz_f, List.getElem?_cons_zero, List.getElem?_cons_succ, List.set_cons_zero, List.set_cons_succ, List.length_cons, List.length_nil, List.map_cons, List.map_nil, List.replicate, List.cons_append, List.nil_append, small, Nat.reduceAdd, Nat.reduceLeDiff, Nat.reduceEqDiff, Int.cast_ofNat_Int, Int.reduceBEq, BEq.rfl, ↓w_Yes, ↓w_bTru, ↓augF_ok, ↓z_Put, ↓putF_ok, ↓putG_ok, ↓w_isNn, ↓w_isNt, wipeF_nil, wipeF_cons, Int.reduceLE, Int.reduceLT, Int.reduceToNat, Int.reducePow, Int.reduceNeg, Int.reduceSub, Int.reduceAdd, Int.reduceMul, decide_true, decide_false, Bool.not_true, Bool.not_false, Bool.bne_false, Bool.bne_true, ↓w_aStar, ↓w_stT, ↓kSt_ok, ↓w_aDef, ↓kDf_ok, ↓w_Cnt, ↓w_Ext, ↓w_isBB, ↓w_isIB, ↓w_Enum, ↓w_enT]
  refine isring_w r hb ?_
  simp only [↓w_ok, ↓kB_ok, ↓kI_ok, ↓w_K, ↓w_V, ↓w_vR, ↓w_Op, ↓kO1_ok, ↓kO2_ok, ↓w_Un, ↓w_bOf, ↓w_isB, ↓kBl_ok, ↓kBl_exc, ↓kIf_ok, ↓kIf_exc, ↓w_okB, ↓w_okD, ↓w_bAnd, ↓w_bOr, ↓w_bNot, ↓kNot_ok, ↓kNot_exc, ↓w_eAnd, ↓w_eOr, ↓w_eNot, ↓kNotV_ok, ↓w_eIf, ↓w_aNil, ↓w_aCons, ↓kA1_ok, ↓kA2_ok, ↓kA1_exc, ↓kA2_exc, ↓w_Tup, ↓w_Lst, ↓w_mkT, ↓w_mkL, ↓w_Dct, ↓w_Dct2, ↓w_SoSe, ↓w_Call, ↓w_goS, ↓w_Bi, ↓w_Isi, ↓w_Cut, ↓kC1_ok, ↓kC2_ok, ↓kC3_ok, ↓w_oNone, ↓w_oSome, ↓w_vO, ↓w_Chain, ↓kCh1_ok, ↓kCh2_ok, ↓kCh3_ok, ↓w_chA, ↓w_App, ↓w_Ins, ↓w_insG, ↓z_nx, ↓z_End, ↓z_Seq, ↓kT_nx, ↓kT_rt, ↓kT_bk, ↓kT_ct, ↓kT_exc, ↓z_If, ↓kIfS_ok, ↓kIfS_exc, ↓z_Ret, ↓kRet_ok, ↓kRet_exc, ↓z_Expr, ↓kNx_ok, ↓kNx_exc, ↓z_Asg, ↓kAs_ok, ↓kAs_exc, ↓z_tgO, t_N, t_T, t_nil, t_cons, t_G, t_gnil, t_gcons, t_bind, ↓z_Par, ↓kPar_ok, ↓z_Raise, ↓z_Break, ↓z_Cont, ↓z_For, ↓kSrc_ok, ↓w_Range, ↓w_rgF, ↓w_SeqI, ↓w_sqT, ↓w_Zip, ↓w_zpT, ↓w_Comp, ↓kCo_ok, ↓w_of, ↓kF_rt, ↓kF_nx, ↓kF_exc, ↓w_add, ↓w_sub, ↓w_pow10, ↓w_neg, ↓w_lt, ↓w_le, ↓w_gt, ↓w_ge, ↓w_ix0, ↓w_ix1, ↓w_ix2, ↓w_ix3, ↓w_eqI, ↓w_eqS, ↓w_eqT2, ↓w_abs, ↓w_lenT, ↓w_lenS, ↓w_max, ↓w_min, ↓w_intT, ↓w_intF, ↓w_isBool, ↓w_isTup, ↓w_tupT, ↓w_listT, ↓w_cutT, ↓brw_t, ↓brw_f, ↓brz_t, ↓brz_f, List.getElem?_cons_zero, List.getElem?_cons_succ, List.set_cons_zero, List.set_cons_succ, List.length_cons, List.length_nil, List.map_cons, List.map_nil, List.replicate, List.cons_append, List.nil_append, small, Nat.reduceAdd, Nat.reduceLeDiff, Nat.reduceEqDiff, Int.cast_ofNat_Int, Int.reduceBEq, BEq.rfl, ↓w_Yes, ↓w_bTru, ↓augF_ok, ↓z_Put, ↓putF_ok, ↓putG_ok, ↓w_isNn, ↓w_isNt, wipeF_nil, wipeF_cons, Int.reduceLE, Int.reduceLT, Int.reduceToNat, Int.reducePow, Int.reduceNeg, Int.reduceSub, Int.reduceAdd, Int.reduceMul, decide_true, decide_false, Bool.not_true, Bool.not_false, Bool.bne_false, Bool.bne_true, ↓w_aStar, ↓w_stT, ↓kSt_ok, ↓w_aDef, ↓kDf_ok, ↓w_Cnt, ↓w_Ext, ↓w_isBB, ↓w_isIB, ↓w_Enum, ↓w_enT]
  exact k
def sel (i : Nat) (q : Zp) : Int := if i = 0 then q.1 else q.2
theorem w_sel {i : Nat} {q : Zp} (hi : i < 2) : W (dIx (dZ q) (.int (i : Int)) h) Φ = Φ (.ok (.int (sel i q)) h) := by
  match i, hi with
  | 0, _ => exact w_ix0
  | 1, _ => exact w_ix1
def dfs (a b : List Zp) (i : Nat) : List Int := [mnz (b.map (sel i)) - mxz (a.map (sel i)), mnz (a.map (sel i)) - mxz (b.map (sel i))]
theorem lawgap_w {d1 d2 : D} {a b : List Zp} (s1 : SeqD h d1 (a.map dZ)) (s2 : SeqD h d2 (b.map dZ)) (na : a ≠ []) (nb : b ≠ []) (la : a.length ≤ 1000) (lb : b.length ≤ 1000) (k : ∀ h1, Gr h h1 → Φ (.ok (.int (gapZ a b)) h1)) : W (S__law_gap [d1, d2] h) Φ := by
  unfold S__law_gap
  simp only [↓w_ok, ↓kB_ok, ↓kI_ok, ↓w_K, ↓w_V, ↓w_vR, ↓w_Op, ↓kO1_ok, ↓kO2_ok, ↓w_Un, ↓w_bOf, ↓w_isB, ↓kBl_ok, ↓kBl_exc, ↓kIf_ok, ↓kIf_exc, ↓w_okB, ↓w_okD, ↓w_bAnd, ↓w_bOr, ↓w_bNot, ↓kNot_ok, ↓kNot_exc, ↓w_eAnd, ↓w_eOr, ↓w_eNot, ↓kNotV_ok, ↓w_eIf, ↓w_aNil, ↓w_aCons, ↓kA1_ok, ↓kA2_ok, ↓kA1_exc, ↓kA2_exc, ↓w_Tup, ↓w_Lst, ↓w_mkT, ↓w_mkL, ↓w_Dct, ↓w_Dct2, ↓w_SoSe, ↓w_Call, ↓w_goS, ↓w_Bi, ↓w_Isi, ↓w_Cut, ↓kC1_ok, ↓kC2_ok, ↓kC3_ok, ↓w_oNone, ↓w_oSome, ↓w_vO, ↓w_Chain, ↓kCh1_ok, ↓kCh2_ok, ↓kCh3_ok, ↓w_chA, ↓w_App, ↓w_Ins, ↓w_insG, ↓z_nx, ↓z_End, ↓z_Seq, ↓kT_nx, ↓kT_rt, ↓kT_bk, ↓kT_ct, ↓kT_exc, ↓z_If, ↓kIfS_ok, ↓kIfS_exc, ↓z_Ret, ↓kRet_ok, ↓kRet_exc, ↓z_Expr, ↓kNx_ok, ↓kNx_exc, ↓z_Asg, ↓kAs_ok, ↓kAs_exc, ↓z_tgO, t_N, t_T, t_nil, t_cons, t_G, t_gnil, t_gcons, t_bind, ↓z_Par, ↓kPar_ok, ↓z_Raise, ↓z_Break, ↓z_Cont, ↓z_For, ↓kSrc_ok, ↓w_Range, ↓w_rgF, ↓w_SeqI, ↓w_sqT, ↓w_Zip, ↓w_zpT, ↓w_Comp, ↓kCo_ok, ↓w_of, ↓kF_rt, ↓kF_nx, ↓kF_exc, ↓w_add, ↓w_sub, ↓w_pow10, ↓w_neg, ↓w_lt, ↓w_le, ↓w_gt, ↓w_ge, ↓w_ix0, ↓w_ix1, ↓w_ix2, ↓w_ix3, ↓w_eqI, ↓w_eqS, ↓w_eqT2, ↓w_abs, ↓w_lenT, ↓w_lenS, ↓w_max, ↓w_min, ↓w_intT, ↓w_intF, ↓w_isBool, ↓w_isTup, ↓w_tupT, ↓w_listT, ↓w_cutT, ↓brw_t, ↓brw_f, ↓brz_t, ↓brz_f, List.getElem?_cons_zero, List.getElem?_cons_succ, List.set_cons_zero, List.set_cons_succ, List.length_cons, List.length_nil, List.map_cons, List.map_nil, List.replicate, List.cons_append, List.nil_append, small, Nat.reduceAdd, Nat.reduceLeDiff, Nat.reduceEqDiff, Int.cast_ofNat_Int, Int.reduceBEq, BEq.rfl, ↓w_Yes, ↓w_bTru, ↓augF_ok, ↓z_Put, ↓putF_ok, ↓putG_ok, ↓w_isNn, ↓w_isNt, wipeF_nil, wipeF_cons, Int.reduceLE, Int.reduceLT, Int.reduceToNat, Int.reducePow, Int.reduceNeg, Int.reduceSub, Int.reduceAdd, Int.reduceMul, decide_true, decide_false, Bool.not_true, Bool.not_false, Bool.bne_false, Bool.bne_true, ↓w_aStar, ↓w_stT, ↓kSt_ok, ↓w_aDef, ↓kDf_ok, ↓w_Cnt, ↓w_Ext, ↓w_isBB, ↓w_isIB, ↓w_Enum, ↓w_enT]
  rw [show (2 : Int) = ((2 : Nat) : Int) from rfl, iR_ok (by omega), w_ok, kSrc_ok]
  refine range_t (I := fun i fr h' => ∃ (m : Nat) (x3 x4 x5 x6 : Option D), Gr h h' ∧ lstAt h' m = some (((0 : Int) :: (if 0 < i then dfs a b 0 else []) ++ (if 1 < i then dfs a b 1 else [])).map D.int) ∧ fr = [some d1, some d2, some (.ref m), x3, x4, x5, x6]) ⟨_, _, _, _, _, Gr.app _ _, lst_new _ _, rfl⟩ ?_ ?_
  · rintro i fr h' hi ⟨m, x3, x4, x5, x6, g, l, rfl⟩
    simp only [↓w_ok, ↓kB_ok, ↓kI_ok, ↓w_K, ↓w_V, ↓w_vR, ↓w_Op, ↓kO1_ok, ↓kO2_ok, ↓w_Un, ↓w_bOf, ↓w_isB, ↓kBl_ok, ↓kBl_exc, ↓kIf_ok, ↓kIf_exc, ↓w_okB, ↓w_okD, ↓w_bAnd, ↓w_bOr, ↓w_bNot, ↓kNot_ok, ↓kNot_exc, ↓w_eAnd, ↓w_eOr, ↓w_eNot, ↓kNotV_ok, ↓w_eIf, ↓w_aNil, ↓w_aCons, ↓kA1_ok, ↓kA2_ok, ↓kA1_exc, ↓kA2_exc, ↓w_Tup, ↓w_Lst, ↓w_mkT, ↓w_mkL, ↓w_Dct, ↓w_Dct2, ↓w_SoSe, ↓w_Call, ↓w_goS, ↓w_Bi, ↓w_Isi, ↓w_Cut, ↓kC1_ok, ↓kC2_ok, ↓kC3_ok, ↓w_oNone, ↓w_oSome, ↓w_vO, ↓w_Chain, ↓kCh1_ok, ↓kCh2_ok, ↓kCh3_ok, ↓w_chA, ↓w_App, ↓w_Ins, ↓w_insG, ↓z_nx, ↓z_End, ↓z_Seq, ↓kT_nx, ↓kT_rt, ↓kT_bk, ↓kT_ct, ↓kT_exc, ↓z_If, ↓kIfS_ok, ↓kIfS_exc, ↓z_Ret, ↓kRet_ok, ↓kRet_exc, ↓z_Expr, ↓kNx_ok, ↓kNx_exc, ↓z_Asg, ↓kAs_ok, ↓kAs_exc, ↓z_tgO, t_N, t_T, t_nil, t_cons, t_G, t_gnil, t_gcons, t_bind, ↓z_Par, ↓kPar_ok, ↓z_Raise, ↓z_Break, ↓z_Cont, ↓z_For, ↓kSrc_ok, ↓w_Range, ↓w_rgF, ↓w_SeqI, ↓w_sqT, ↓w_Zip, ↓w_zpT, ↓w_Comp, ↓kCo_ok, ↓w_of, ↓kF_rt, ↓kF_nx, ↓kF_exc, ↓w_add, ↓w_sub, ↓w_pow10, ↓w_neg, ↓w_lt, ↓w_le, ↓w_gt, ↓w_ge, ↓w_ix0, ↓w_ix1, ↓w_ix2, ↓w_ix3, ↓w_eqI, ↓w_eqS, ↓w_eqT2, ↓w_abs, ↓w_lenT, ↓w_lenS, ↓w_max, ↓w_min, ↓w_intT, ↓w_intF, ↓w_isBool, ↓w_isTup, ↓w_tupT, ↓w_listT, ↓w_cutT, ↓brw_t, ↓brw_f, ↓brz_t, ↓brz_f, List.getElem?_cons_zero, List.getElem?_cons_succ, List.set_cons_zero, List.set_cons_succ, List.length_cons, List.length_nil, List.map_cons, List.map_nil, List.replicate, List.cons_append, List.nil_append, small, Nat.reduceAdd, Nat.reduceLeDiff, Nat.reduceEqDiff, Int.cast_ofNat_Int, Int.reduceBEq, BEq.rfl, ↓w_Yes, ↓w_bTru, ↓augF_ok, ↓z_Put, ↓putF_ok, ↓putG_ok, ↓w_isNn, ↓w_isNt, wipeF_nil, wipeF_cons, Int.reduceLE, Int.reduceLT, Int.reduceToNat, Int.reducePow, Int.reduceNeg, Int.reduceSub, Int.reduceAdd, Int.reduceMul, decide_true, decide_false, Bool.not_true, Bool.not_false, Bool.bne_false, Bool.bne_true, ↓w_aStar, ↓w_stT, ↓kSt_ok, ↓w_aDef, ↓kDf_ok, ↓w_Cnt, ↓w_Ext, ↓w_isBB, ↓w_isIB, ↓w_Enum, ↓w_enT]
    refine comp_map a dZ (s1.gr g) (by omega) (fun q => .int (sel i q)) ?_ fun h1 g1 m1 l1 => ?_
    · intro q hq
      refine ⟨_, rfl, fun h' Φ g q => ?_⟩
      simp only [↓w_ok, ↓kB_ok, ↓kI_ok, ↓w_K, ↓w_V, ↓w_vR, ↓w_Op, ↓kO1_ok, ↓kO2_ok, ↓w_Un, ↓w_bOf, ↓w_isB, ↓kBl_ok, ↓kBl_exc, ↓kIf_ok, ↓kIf_exc, ↓w_okB, ↓w_okD, ↓w_bAnd, ↓w_bOr, ↓w_bNot, ↓kNot_ok, ↓kNot_exc, ↓w_eAnd, ↓w_eOr, ↓w_eNot, ↓kNotV_ok, ↓w_eIf, ↓w_aNil, ↓w_aCons, ↓kA1_ok, ↓kA2_ok, ↓kA1_exc, ↓kA2_exc, ↓w_Tup, ↓w_Lst, ↓w_mkT, ↓w_mkL, ↓w_Dct, ↓w_Dct2, ↓w_SoSe, ↓w_Call, ↓w_goS, ↓w_Bi, ↓w_Isi, ↓w_Cut, ↓kC1_ok, ↓kC2_ok, ↓kC3_ok, ↓w_oNone, ↓w_oSome, ↓w_vO, ↓w_Chain, ↓kCh1_ok, ↓kCh2_ok, ↓kCh3_ok, ↓w_chA, ↓w_App, ↓w_Ins, ↓w_insG, ↓z_nx, ↓z_End, ↓z_Seq, ↓kT_nx, ↓kT_rt, ↓kT_bk, ↓kT_ct, ↓kT_exc, ↓z_If, ↓kIfS_ok, ↓kIfS_exc, ↓z_Ret, ↓kRet_ok, ↓kRet_exc, ↓z_Expr, ↓kNx_ok, ↓kNx_exc, ↓z_Asg, ↓kAs_ok, ↓kAs_exc, ↓z_tgO, t_N, t_T, t_nil, t_cons, t_G, t_gnil, t_gcons, t_bind, ↓z_Par, ↓kPar_ok, ↓z_Raise, ↓z_Break, ↓z_Cont, ↓z_For, ↓kSrc_ok, ↓w_Range, ↓w_rgF, ↓w_SeqI, ↓w_sqT, ↓w_Zip, ↓w_zpT, ↓w_Comp, ↓kCo_ok, ↓w_of, ↓kF_rt, ↓kF_nx, ↓kF_exc, ↓w_add, ↓w_sub, ↓w_pow10, ↓w_neg, ↓w_lt, ↓w_le, ↓w_gt, ↓w_ge, ↓w_ix0, ↓w_ix1, ↓w_ix2, ↓w_ix3, ↓w_eqI, ↓w_eqS, ↓w_eqT2, ↓w_abs, ↓w_lenT, ↓w_lenS, ↓w_max, ↓w_min, ↓w_intT, ↓w_intF, ↓w_isBool, ↓w_isTup, ↓w_tupT, ↓w_listT, ↓w_cutT, ↓brw_t, ↓brw_f, ↓brz_t, ↓brz_f, List.getElem?_cons_zero, List.getElem?_cons_succ, List.set_cons_zero, List.set_cons_succ, List.length_cons, List.length_nil, List.map_cons, List.map_nil, List.replicate, List.cons_append, List.nil_append, small, Nat.reduceAdd, Nat.reduceLeDiff, Nat.reduceEqDiff, Int.cast_ofNat_Int, Int.reduceBEq, BEq.rfl, ↓w_Yes, ↓w_bTru, ↓augF_ok, ↓z_Put, ↓putF_ok, ↓putG_ok, ↓w_isNn, ↓w_isNt, wipeF_nil, wipeF_cons, Int.reduceLE, Int.reduceLT, Int.reduceToNat, Int.reducePow, Int.reduceNeg, Int.reduceSub, Int.reduceAdd, Int.reduceMul, decide_true, decide_false, Bool.not_true, Bool.not_false, Bool.bne_false, Bool.bne_true, ↓w_aStar, ↓w_stT, ↓kSt_ok, ↓w_aDef, ↓kDf_ok, ↓w_Cnt, ↓w_Ext, ↓w_isBB, ↓w_isIB, ↓w_Enum, ↓w_enT, w_sel hi]
      exact q h' (Gr.refl _)
    simp only [↓w_ok, ↓kB_ok, ↓kI_ok, ↓w_K, ↓w_V, ↓w_vR, ↓w_Op, ↓kO1_ok, ↓kO2_ok, ↓w_Un, ↓w_bOf, ↓w_isB, ↓kBl_ok, ↓kBl_exc, ↓kIf_ok, ↓kIf_exc, ↓w_okB, ↓w_okD, ↓w_bAnd, ↓w_bOr, ↓w_bNot, ↓kNot_ok, ↓kNot_exc, ↓w_eAnd, ↓w_eOr, ↓w_eNot, ↓kNotV_ok, ↓w_eIf, ↓w_aNil, ↓w_aCons, ↓kA1_ok, ↓kA2_ok, ↓kA1_exc, ↓kA2_exc, ↓w_Tup, ↓w_Lst, ↓w_mkT, ↓w_mkL, ↓w_Dct, ↓w_Dct2, ↓w_SoSe, ↓w_Call, ↓w_goS, ↓w_Bi, ↓w_Isi, ↓w_Cut, ↓kC1_ok, ↓kC2_ok, ↓kC3_ok, ↓w_oNone, ↓w_oSome, ↓w_vO, ↓w_Chain, ↓kCh1_ok, ↓kCh2_ok, ↓kCh3_ok, ↓w_chA, ↓w_App, ↓w_Ins, ↓w_insG, ↓z_nx, ↓z_End, ↓z_Seq, ↓kT_nx, ↓kT_rt, ↓kT_bk, ↓kT_ct, ↓kT_exc, ↓z_If, ↓kIfS_ok, ↓kIfS_exc, ↓z_Ret, ↓kRet_ok, ↓kRet_exc, ↓z_Expr, ↓kNx_ok, ↓kNx_exc, ↓z_Asg, ↓kAs_ok, ↓kAs_exc, ↓z_tgO, t_N, t_T, t_nil, t_cons, t_G, t_gnil, t_gcons, t_bind, ↓z_Par, ↓kPar_ok, ↓z_Raise, ↓z_Break, ↓z_Cont, ↓z_For, ↓kSrc_ok, ↓w_Range, ↓w_rgF, ↓w_SeqI, ↓w_sqT, ↓w_Zip, ↓w_zpT, ↓w_Comp, ↓kCo_ok, ↓w_of, ↓kF_rt, ↓kF_nx, ↓kF_exc, ↓w_add, ↓w_sub, ↓w_pow10, ↓w_neg, ↓w_lt, ↓w_le, ↓w_gt, ↓w_ge, ↓w_ix0, ↓w_ix1, ↓w_ix2, ↓w_ix3, ↓w_eqI, ↓w_eqS, ↓w_eqT2, ↓w_abs, ↓w_lenT, ↓w_lenS, ↓w_max, ↓w_min, ↓w_intT, ↓w_intF, ↓w_isBool, ↓w_isTup, ↓w_tupT, ↓w_listT, ↓w_cutT, ↓brw_t, ↓brw_f, ↓brz_t, ↓brz_f, List.getElem?_cons_zero, List.getElem?_cons_succ, List.set_cons_zero, List.set_cons_succ, List.length_cons, List.length_nil, List.map_cons, List.map_nil, List.replicate, List.cons_append, List.nil_append, small, Nat.reduceAdd, Nat.reduceLeDiff, Nat.reduceEqDiff, Int.cast_ofNat_Int, Int.reduceBEq, BEq.rfl, ↓w_Yes, ↓w_bTru, ↓augF_ok, ↓z_Put, ↓putF_ok, ↓putG_ok, ↓w_isNn, ↓w_isNt, wipeF_nil, wipeF_cons, Int.reduceLE, Int.reduceLT, Int.reduceToNat, Int.reducePow, Int.reduceNeg, Int.reduceSub, Int.reduceAdd, Int.reduceMul, decide_true, decide_false, Bool.not_true, Bool.not_false, Bool.bne_false, Bool.bne_true, ↓w_aStar, ↓w_stT, ↓kSt_ok, ↓w_aDef, ↓kDf_ok, ↓w_Cnt, ↓w_Ext, ↓w_isBB, ↓w_isIB, ↓w_Enum, ↓w_enT]
    refine comp_map b dZ ((s2.gr g).gr g1) (by omega) (fun q => .int (sel i q)) ?_ fun h2 g2 m2 l2 => ?_
    · intro q hq
      refine ⟨_, rfl, fun h' Φ g q => ?_⟩
      simp only [↓w_ok, ↓kB_ok, ↓kI_ok, ↓w_K, ↓w_V, ↓w_vR, ↓w_Op, ↓kO1_ok, ↓kO2_ok, ↓w_Un, ↓w_bOf, ↓w_isB, ↓kBl_ok, ↓kBl_exc, ↓kIf_ok, ↓kIf_exc, ↓w_okB, ↓w_okD, ↓w_bAnd, ↓w_bOr, ↓w_bNot, ↓kNot_ok, ↓kNot_exc, ↓w_eAnd, ↓w_eOr, ↓w_eNot, ↓kNotV_ok, ↓w_eIf, ↓w_aNil, ↓w_aCons, ↓kA1_ok, ↓kA2_ok, ↓kA1_exc, ↓kA2_exc, ↓w_Tup, ↓w_Lst, ↓w_mkT, ↓w_mkL, ↓w_Dct, ↓w_Dct2, ↓w_SoSe, ↓w_Call, ↓w_goS, ↓w_Bi, ↓w_Isi, ↓w_Cut, ↓kC1_ok, ↓kC2_ok, ↓kC3_ok, ↓w_oNone, ↓w_oSome, ↓w_vO, ↓w_Chain, ↓kCh1_ok, ↓kCh2_ok, ↓kCh3_ok, ↓w_chA, ↓w_App, ↓w_Ins, ↓w_insG, ↓z_nx, ↓z_End, ↓z_Seq, ↓kT_nx, ↓kT_rt, ↓kT_bk, ↓kT_ct, ↓kT_exc, ↓z_If, ↓kIfS_ok, ↓kIfS_exc, ↓z_Ret, ↓kRet_ok, ↓kRet_exc, ↓z_Expr, ↓kNx_ok, ↓kNx_exc, ↓z_Asg, ↓kAs_ok, ↓kAs_exc, ↓z_tgO, t_N, t_T, t_nil, t_cons, t_G, t_gnil, t_gcons, t_bind, ↓z_Par, ↓kPar_ok, ↓z_Raise, ↓z_Break, ↓z_Cont, ↓z_For, ↓kSrc_ok, ↓w_Range, ↓w_rgF, ↓w_SeqI, ↓w_sqT, ↓w_Zip, ↓w_zpT, ↓w_Comp, ↓kCo_ok, ↓w_of, ↓kF_rt, ↓kF_nx, ↓kF_exc, ↓w_add, ↓w_sub, ↓w_pow10, ↓w_neg, ↓w_lt, ↓w_le, ↓w_gt, ↓w_ge, ↓w_ix0, ↓w_ix1, ↓w_ix2, ↓w_ix3, ↓w_eqI, ↓w_eqS, ↓w_eqT2, ↓w_abs, ↓w_lenT, ↓w_lenS, ↓w_max, ↓w_min, ↓w_intT, ↓w_intF, ↓w_isBool, ↓w_isTup, ↓w_tupT, ↓w_listT, ↓w_cutT, ↓brw_t, ↓brw_f, ↓brz_t, ↓brz_f, List.getElem?_cons_zero, List.getElem?_cons_succ, List.set_cons_zero, List.set_cons_succ, List.length_cons, List.length_nil, List.map_cons, List.map_nil, List.replicate, List.cons_append, List.nil_append, small, Nat.reduceAdd, Nat.reduceLeDiff, Nat.reduceEqDiff, Int.cast_ofNat_Int, Int.reduceBEq, BEq.rfl, ↓w_Yes, ↓w_bTru, ↓augF_ok, ↓z_Put, ↓putF_ok, ↓putG_ok, ↓w_isNn, ↓w_isNt, wipeF_nil, wipeF_cons, Int.reduceLE, Int.reduceLT, Int.reduceToNat, Int.reducePow, Int.reduceNeg, Int.reduceSub, Int.reduceAdd, Int.reduceMul, decide_true, decide_false, Bool.not_true, Bool.not_false, Bool.bne_false, Bool.bne_true, ↓w_aStar, ↓w_stT, ↓kSt_ok, ↓w_aDef, ↓kDf_ok, ↓w_Cnt, ↓w_Ext, ↓w_isBB, ↓w_isIB, ↓w_Enum, ↓w_enT, w_sel hi]
      exact q h' (Gr.refl _)
    have e1 : lstAt h2 h'.length = some ((a.map (sel i)).map D.int) := by rw [g2.lst l1, List.map_map]; rfl
    have e2 : lstAt h2 h1.length = some ((b.map (sel i)).map D.int) := by rw [l2, List.map_map]; rfl
    have n1 : a.map (sel i) ≠ [] := by simpa using na
    have n2 : b.map (sel i) ≠ [] := by simpa using nb
    simp only [↓w_ok, ↓kB_ok, ↓kI_ok, ↓w_K, ↓w_V, ↓w_vR, ↓w_Op, ↓kO1_ok, ↓kO2_ok, ↓w_Un, ↓w_bOf, ↓w_isB, ↓kBl_ok, ↓kBl_exc, ↓kIf_ok, ↓kIf_exc, ↓w_okB, ↓w_okD, ↓w_bAnd, ↓w_bOr, ↓w_bNot, ↓kNot_ok, ↓kNot_exc, ↓w_eAnd, ↓w_eOr, ↓w_eNot, ↓kNotV_ok, ↓w_eIf, ↓w_aNil, ↓w_aCons, ↓kA1_ok, ↓kA2_ok, ↓kA1_exc, ↓kA2_exc, ↓w_Tup, ↓w_Lst, ↓w_mkT, ↓w_mkL, ↓w_Dct, ↓w_Dct2, ↓w_SoSe, ↓w_Call, ↓w_goS, ↓w_Bi, ↓w_Isi, ↓w_Cut, ↓kC1_ok, ↓kC2_ok, ↓kC3_ok, ↓w_oNone, ↓w_oSome, ↓w_vO, ↓w_Chain, ↓kCh1_ok, ↓kCh2_ok, ↓kCh3_ok, ↓w_chA, ↓w_App, ↓w_Ins, ↓w_insG, ↓z_nx, ↓z_End, ↓z_Seq, ↓kT_nx, ↓kT_rt, ↓kT_bk, ↓kT_ct, ↓kT_exc, ↓z_If, ↓kIfS_ok, ↓kIfS_exc, ↓z_Ret, ↓kRet_ok, ↓kRet_exc, ↓z_Expr, ↓kNx_ok, ↓kNx_exc, ↓z_Asg, ↓kAs_ok, ↓kAs_exc, ↓z_tgO, t_N, t_T, t_nil, t_cons, t_G, t_gnil, t_gcons, t_bind, ↓z_Par, ↓kPar_ok, ↓z_Raise, ↓z_Break, ↓z_Cont, ↓z_For, ↓kSrc_ok, ↓w_Range, ↓w_rgF, ↓w_SeqI, ↓w_sqT, ↓w_Zip, ↓w_zpT, ↓w_Comp, ↓kCo_ok, ↓w_of, ↓kF_rt, ↓kF_nx, ↓kF_exc, ↓w_add, ↓w_sub, ↓w_pow10, ↓w_neg, ↓w_lt, ↓w_le, ↓w_gt, ↓w_ge, ↓w_ix0, ↓w_ix1, ↓w_ix2, ↓w_ix3, ↓w_eqI, ↓w_eqS, ↓w_eqT2, ↓w_abs, ↓w_lenT, ↓w_lenS, ↓w_max, ↓w_min, ↓w_intT, ↓w_intF, ↓w_isBool, ↓w_isTup, ↓w_tupT, ↓w_listT, ↓w_cutT, ↓brw_t, ↓brw_f, ↓brz_t, ↓brz_f, List.getElem?_cons_zero, List.getElem?_cons_succ, List.set_cons_zero, List.set_cons_succ, List.length_cons, List.length_nil, List.map_cons, List.map_nil, List.replicate, List.cons_append, List.nil_append, small, Nat.reduceAdd, Nat.reduceLeDiff, Nat.reduceEqDiff, Int.cast_ofNat_Int, Int.reduceBEq, BEq.rfl, ↓w_Yes, ↓w_bTru, ↓augF_ok, ↓z_Put, ↓putF_ok, ↓putG_ok, ↓w_isNn, ↓w_isNt, wipeF_nil, wipeF_cons, Int.reduceLE, Int.reduceLT, Int.reduceToNat, Int.reducePow, Int.reduceNeg, Int.reduceSub, Int.reduceAdd, Int.reduceMul, decide_true, decide_false, Bool.not_true, Bool.not_false, Bool.bne_false, Bool.bne_true, ↓w_aStar, ↓w_stT, ↓kSt_ok, ↓w_aDef, ↓kDf_ok, ↓w_Cnt, ↓w_Ext, ↓w_isBB, ↓w_isIB, ↓w_Enum, ↓w_enT, w_minL e1 n1, w_minL e2 n2, w_maxL e1 n1, w_maxL e2 n2]
    have l3 := lst_new h2 ([.int (mnz (b.map (sel i)) - mxz (a.map (sel i))), .int (mnz (a.map (sel i)) - mxz (b.map (sel i)))])
    have g3 := Gr.app h2 [Cell.lst [.int (mnz (b.map (sel i)) - mxz (a.map (sel i))), .int (mnz (a.map (sel i)) - mxz (b.map (sel i)))]]
    have lm := g3.lst (g2.lst (g1.lst l))
    simp only [↓w_ok, ↓kB_ok, ↓kI_ok, ↓w_K, ↓w_V, ↓w_vR, ↓w_Op, ↓kO1_ok, ↓kO2_ok, ↓w_Un, ↓w_bOf, ↓w_isB, ↓kBl_ok, ↓kBl_exc, ↓kIf_ok, ↓kIf_exc, ↓w_okB, ↓w_okD, ↓w_bAnd, ↓w_bOr, ↓w_bNot, ↓kNot_ok, ↓kNot_exc, ↓w_eAnd, ↓w_eOr, ↓w_eNot, ↓kNotV_ok, ↓w_eIf, ↓w_aNil, ↓w_aCons, ↓kA1_ok, ↓kA2_ok, ↓kA1_exc, ↓kA2_exc, ↓w_Tup, ↓w_Lst, ↓w_mkT, ↓w_mkL, ↓w_Dct, ↓w_Dct2, ↓w_SoSe, ↓w_Call, ↓w_goS, ↓w_Bi, ↓w_Isi, ↓w_Cut, ↓kC1_ok, ↓kC2_ok, ↓kC3_ok, ↓w_oNone, ↓w_oSome, ↓w_vO, ↓w_Chain, ↓kCh1_ok, ↓kCh2_ok, ↓kCh3_ok, ↓w_chA, ↓w_App, ↓w_Ins, ↓w_insG, ↓z_nx, ↓z_End, ↓z_Seq, ↓kT_nx, ↓kT_rt, ↓kT_bk, ↓kT_ct, ↓kT_exc, ↓z_If, ↓kIfS_ok, ↓kIfS_exc, ↓z_Ret, ↓kRet_ok, ↓kRet_exc, ↓z_Expr, ↓kNx_ok, ↓kNx_exc, ↓z_Asg, ↓kAs_ok, ↓kAs_exc, ↓z_tgO, t_N, t_T, t_nil, t_cons, t_G, t_gnil, t_gcons, t_bind, ↓z_Par, ↓kPar_ok, ↓z_Raise, ↓z_Break, ↓z_Cont, ↓z_For, ↓kSrc_ok, ↓w_Range, ↓w_rgF, ↓w_SeqI, ↓w_sqT, ↓w_Zip, ↓w_zpT, ↓w_Comp, ↓kCo_ok, ↓w_of, ↓kF_rt, ↓kF_nx, ↓kF_exc, ↓w_add, ↓w_sub, ↓w_pow10, ↓w_neg, ↓w_lt, ↓w_le, ↓w_gt, ↓w_ge, ↓w_ix0, ↓w_ix1, ↓w_ix2, ↓w_ix3, ↓w_eqI, ↓w_eqS, ↓w_eqT2, ↓w_abs, ↓w_lenT, ↓w_lenS, ↓w_max, ↓w_min, ↓w_intT, ↓w_intF, ↓w_isBool, ↓w_isTup, ↓w_tupT, ↓w_listT, ↓w_cutT, ↓brw_t, ↓brw_f, ↓brz_t, ↓brz_f, List.getElem?_cons_zero, List.getElem?_cons_succ, List.set_cons_zero, List.set_cons_succ, List.length_cons, List.length_nil, List.map_cons, List.map_nil, List.replicate, List.cons_append, List.nil_append, small, Nat.reduceAdd, Nat.reduceLeDiff, Nat.reduceEqDiff, Int.cast_ofNat_Int, Int.reduceBEq, BEq.rfl, ↓w_Yes, ↓w_bTru, ↓augF_ok, ↓z_Put, ↓putF_ok, ↓putG_ok, ↓w_isNn, ↓w_isNt, wipeF_nil, wipeF_cons, Int.reduceLE, Int.reduceLT, Int.reduceToNat, Int.reducePow, Int.reduceNeg, Int.reduceSub, Int.reduceAdd, Int.reduceMul, decide_true, decide_false, Bool.not_true, Bool.not_false, Bool.bne_false, Bool.bne_true, ↓w_aStar, ↓w_stT, ↓kSt_ok, ↓w_aDef, ↓kDf_ok, ↓w_Cnt, ↓w_Ext, ↓w_isBB, ↓w_isIB, ↓w_Enum, ↓w_enT, w_addL lm l3 (decide_eq_true (by simp; split <;> split <;> simp [dfs]))]
    refine ⟨_, _, _, _, _, (g.trans (g1.trans (g2.trans g3))).trans (Gr.app _ _), (lst_new _ _).trans ?_, rfl⟩
    match i, hi with
    | 0, _ => rfl
    | 1, _ => rfl
  · rintro fr h' ⟨m, x3, x4, x5, x6, g, l, rfl⟩
    simp only [↓w_ok, ↓kB_ok, ↓kI_ok, ↓w_K, ↓w_V, ↓w_vR, ↓w_Op, ↓kO1_ok, ↓kO2_ok, ↓w_Un, ↓w_bOf, ↓w_isB, ↓kBl_ok, ↓kBl_exc, ↓kIf_ok, ↓kIf_exc, ↓w_okB, ↓w_okD, ↓w_bAnd, ↓w_bOr, ↓w_bNot, ↓kNot_ok, ↓kNot_exc, ↓w_eAnd, ↓w_eOr, ↓w_eNot, ↓kNotV_ok, ↓w_eIf, ↓w_aNil, ↓w_aCons, ↓kA1_ok, ↓kA2_ok, ↓kA1_exc, ↓kA2_exc, ↓w_Tup, ↓w_Lst, ↓w_mkT, ↓w_mkL, ↓w_Dct, ↓w_Dct2, ↓w_SoSe, ↓w_Call, ↓w_goS, ↓w_Bi, ↓w_Isi, ↓w_Cut, ↓kC1_ok, ↓kC2_ok, ↓kC3_ok, ↓w_oNone, ↓w_oSome, ↓w_vO, ↓w_Chain, ↓kCh1_ok, ↓kCh2_ok, ↓kCh3_ok, ↓w_chA, ↓w_App, ↓w_Ins, ↓w_insG, ↓z_nx, ↓z_End, ↓z_Seq, ↓kT_nx, ↓kT_rt, ↓kT_bk, ↓kT_ct, ↓kT_exc, ↓z_If, ↓kIfS_ok, ↓kIfS_exc, ↓z_Ret, ↓kRet_ok, ↓kRet_exc, ↓z_Expr, ↓kNx_ok, ↓kNx_exc, ↓z_Asg, ↓kAs_ok, ↓kAs_exc, ↓z_tgO, t_N, t_T, t_nil, t_cons, t_G, t_gnil, t_gcons, t_bind, ↓z_Par, ↓kPar_ok, ↓z_Raise, ↓z_Break, ↓z_Cont, ↓z_For, ↓kSrc_ok, ↓w_Range, ↓w_rgF, ↓w_SeqI, ↓w_sqT, ↓w_Zip, ↓w_zpT, ↓w_Comp, ↓kCo_ok, ↓w_of, ↓kF_rt, ↓kF_nx, ↓kF_exc, ↓w_add, ↓w_sub, ↓w_pow10, ↓w_neg, ↓w_lt, ↓w_le, ↓w_gt, ↓w_ge, ↓w_ix0, ↓w_ix1, ↓w_ix2, ↓w_ix3, ↓w_eqI, ↓w_eqS, ↓w_eqT2, ↓w_abs, ↓w_lenT, ↓w_lenS, ↓w_max, ↓w_min, ↓w_intT, ↓w_intF, ↓w_isBool, ↓w_isTup, ↓w_tupT, ↓w_listT, ↓w_cutT, ↓brw_t, ↓brw_f, ↓brz_t, ↓brz_f, List.getElem?_cons_zero, List.getElem?_cons_succ, List.set_cons_zero, List.set_cons_succ, List.length_cons, List.length_nil, List.map_cons, List.map_nil, List.replicate, List.cons_append, List.nil_append, small, Nat.reduceAdd, Nat.reduceLeDiff, Nat.reduceEqDiff, Int.cast_ofNat_Int, Int.reduceBEq, BEq.rfl, ↓w_Yes, ↓w_bTru, ↓augF_ok, ↓z_Put, ↓putF_ok, ↓putG_ok, ↓w_isNn, ↓w_isNt, wipeF_nil, wipeF_cons, Int.reduceLE, Int.reduceLT, Int.reduceToNat, Int.reducePow, Int.reduceNeg, Int.reduceSub, Int.reduceAdd, Int.reduceMul, decide_true, decide_false, Bool.not_true, Bool.not_false, Bool.bne_false, Bool.bne_true, ↓w_aStar, ↓w_stT, ↓kSt_ok, ↓w_aDef, ↓kDf_ok, ↓w_Cnt, ↓w_Ext, ↓w_isBB, ↓w_isIB, ↓w_Enum, ↓w_enT, w_maxL l (by simp)]
    have e : mxz ((0 : Int) :: ((if 0 < 2 then dfs a b 0 else []) ++ (if 1 < 2 then dfs a b 1 else []))) = gapZ a b := by
      show mxL 0 [bxL b - bxR a, bxL a - bxR b, bxD b - bxU a, bxD a - bxU b] = _
      simp only [mxL, gapZ, mx5]
      omega
    rw [e]
    exact k h' g
end
end MI
end
section
set_option Elab.async false
set_option linter.all false
set_option autoImplicit false
set_option maxRecDepth 100000
set_option exponentiation.threshold 20000
set_option maxHeartbeats 4000000
open PySem L2
namespace MI
/-- d, in h, is the data q, at most k deep, of weight at most w -/
structure Tz (h : Hq) (d : D) (q : PyData) (k w : Nat) : Prop where
  py : ∀ n, k < n → toPy h n d = some q
  pr : ∀ n, k < n → toPyR h n d = some q
  sh : q.showable = true
  nd : q.hasDict = false
  dp : q.depth ≤ k
  ls : q.leavesShort 210 = true
  wt : q.weight ≤ w
  cl : q.canLay0 = true
  rf : PyData.eqv q q = true
structure Tzs (h : Hq) (l : List D) (ps : List PyData) (k w : Nat) : Prop where
  py : ∀ n, k < n → opts (toPy h n) l = some ps
  pr : ∀ n, k < n → opts (toPyR h n) l = some ps
  sh : PyData.showableAll ps = true
  nd : PyData.hasDictAll ps = false
  dp : PyData.depthAll ps ≤ k
  ls : PyData.leavesShortAll 210 ps = true
  wt : PyData.weightAll ps ≤ w
  cl : PyData.canLayAll0 ps = true
  rf : PyData.eqvAll ps ps = true
section
variable {h : Hq} {d : D} {q : PyData} {l : List D} {ps : List PyData} {k w v : Nat}
theorem Tz.more {k' w' : Nat} (t : Tz h d q k w) (hk : k ≤ k') (hw : w ≤ w') : Tz h d q k' w' := ⟨fun n hn => t.py n (by omega), fun n hn => t.pr n (by omega), t.sh, t.nd, Nat.le_trans t.dp hk, t.ls, Nat.le_trans t.wt hw, t.cl, t.rf⟩
theorem Tzs.nil : Tzs h [] [] k 0 := ⟨fun _ _ => rfl, fun _ _ => rfl, rfl, rfl, Nat.zero_le _, rfl, Nat.le_refl _, rfl, by simp [PyData.eqvAll]⟩
theorem Tzs.cons (t : Tz h d q k w) (s : Tzs h l ps k v) : Tzs h (d :: l) (q :: ps) k (w + 1 + v) where
  py n hn := by
    simp only [opts, t.py n hn, s.py n hn]
  pr n hn := by
    simp only [opts, t.pr n hn, s.pr n hn]
  sh := by simp [PyData.showableAll, t.sh, s.sh]
  nd := by simp [PyData.hasDictAll, t.nd, s.nd]
  dp := by
    have h1 := t.dp
    have h2 := s.dp
    simp only [PyData.depthAll]
    omega
  ls := by simp [PyData.leavesShortAll, t.ls, s.ls]
  wt := by
    have h1 := t.wt
    have h2 := s.wt
    simp only [PyData.weightAll]
    omega
  cl := by simp [PyData.canLayAll0, t.cl, s.cl]
  rf := by simp [PyData.eqvAll, t.rf, s.rf]
theorem Tz.tup (s : Tzs h l ps k w) : Tz h (.tup l) (.tuple ps) (k + 1) w where
  py n hn := by
    obtain ⟨m, rfl⟩ : ∃ m, n = m + 1 := ⟨n - 1, by omega⟩
    show (opts (toPy h m) l).map PyData.tuple = _
    rw [s.py m (by omega)]; rfl
  pr n hn := by
    obtain ⟨m, rfl⟩ : ∃ m, n = m + 1 := ⟨n - 1, by omega⟩
    show (opts (toPyR h m) l).map PyData.tuple = _
    rw [s.pr m (by omega)]; rfl
  sh := by simpa [PyData.showable] using s.sh
  nd := by simpa [PyData.hasDict] using s.nd
  dp := by
    have := s.dp
    simp only [PyData.depth]; omega
  ls := by simpa [PyData.leavesShort] using s.ls
  wt := by simpa [PyData.weight] using s.wt
  cl := by simpa [PyData.canLay0] using s.cl
  rf := by simp only [PyData.eqv]; exact s.rf
theorem Tz.lst {m : Nat} (e : lstAt h m = some l) (s : Tzs h l ps k w) : Tz h (.ref m) (.list ps) (k + 1) w where
  py n hn := by
    obtain ⟨m', rfl⟩ : ∃ m, n = m + 1 := ⟨n - 1, by omega⟩
    show (match lstAt h m with | some l => (opts (toPy h m') l).map PyData.list | none => none) = _
    rw [e]
    simp only [s.py m' (by omega), Option.map_some]
  pr n hn := by
    obtain ⟨m', rfl⟩ : ∃ m, n = m + 1 := ⟨n - 1, by omega⟩
    simp only [toPyR, lstAt_some e, s.pr m' (by omega), Option.map_some]
  sh := by simpa [PyData.showable] using s.sh
  nd := by simpa [PyData.hasDict] using s.nd
  dp := by
    have := s.dp
    simp only [PyData.depth]; omega
  ls := by simpa [PyData.leavesShort] using s.ls
  wt := by simpa [PyData.weight] using s.wt
  cl := by simpa [PyData.canLay0] using s.cl
  rf := by simp only [PyData.eqv]; exact s.rf
theorem toPy_one {n : Nat} {i : Int} (hn : 0 < n) : toPy h n (.int i) = some (.int i) ∧ toPyR h n (.int i) = some (.int i) := by
  obtain ⟨m, rfl⟩ : ∃ m, n = m + 1 := ⟨n - 1, by omega⟩
  exact ⟨rfl, rfl⟩
theorem Tz.int {i : Int} (b : Bd 190 i) : Tz h (.int i) (.int i) 0 201 := by
  have h1 : i.natAbs.log2 < 200 := by
    unfold Bd at b
    by_cases h0 : i.natAbs = 0
    · rw [h0]; decide
    · have := (Nat.log2_lt h0).mpr b; omega
  refine ⟨fun n hn => (toPy_one hn).1, fun n hn => (toPy_one hn).2, decide_eq_true (by omega), rfl, Nat.le_refl _, decide_eq_true ?_, ?_, rfl, by simp [PyData.eqv]⟩
  · have := PySem.int_text_length_le (k := 200) (by decide) h1
    show (Str.ofString (toString i)).length ≤ 210
    rw [PySem.ofString_length]
    omega
  · show (if i == 0 then 0 else i.natAbs.log2 + 1) ≤ 201
    split <;> omega
theorem Tz.non : Tz h .non .none 0 201 := by
  refine ⟨fun n hn => ?_, fun n hn => ?_, rfl, rfl, Nat.le_refl _, rfl, Nat.zero_le _, rfl, by simp [PyData.eqv]⟩
  all_goals
    obtain ⟨m, rfl⟩ : ∃ m, n = m + 1 := ⟨n - 1, by omega⟩
    rfl
theorem Tz.bl (b : Bool) : Tz h (.bl b) (.bool b) 0 201 := by
  refine ⟨fun n hn => ?_, fun n hn => ?_, rfl, rfl, Nat.le_refl _, rfl, Nat.zero_le _, rfl, by simp [PyData.eqv]⟩
  all_goals
    obtain ⟨m, rfl⟩ : ∃ m, n = m + 1 := ⟨n - 1, by omega⟩
    rfl
theorem Tzs.map {α : Type} {enc : α → D} {dec : α → PyData} : ∀ {xs : List α}, (∀ x ∈ xs, Tz h (enc x) (dec x) k w) → Tzs h (xs.map enc) (xs.map dec) k (xs.length * (w + 1))
  | [], _ => by simpa using Tzs.nil
  | x :: xs, hx => by
    have := Tzs.cons (hx x (by simp)) (Tzs.map (xs := xs) fun y hy => hx y (by simp [hy]))
    rw [List.length_cons, Nat.add_mul, Nat.one_mul, Nat.add_comm]
    exact this
theorem Tzs.more {w' : Nat} (t : Tzs h l ps k w) (hw : w ≤ w') : Tzs h l ps k w' := ⟨t.py, t.pr, t.sh, t.nd, t.dp, t.ls, Nat.le_trans t.wt hw, t.cl, t.rf⟩
theorem Tz.shaped (t : Tz h d q k w) (hk : k ≤ 64) : SeqAt.shaped q = true := by
  show (PyData.canLay0 q && decide (PyData.depth q ≤ 64)) = true
  rw [Bool.and_eq_true]
  exact ⟨t.cl, decide_eq_true (Nat.le_trans t.dp hk)⟩
theorem tz_repr (t : Tz h d q k w) (hk : k < 60) (hw : w ≤ 78000) {Φ : Rs D → Prop} : W (gRepr [d] h) Φ = Φ (.ok (.str q.shown) h) := by
  have h6 := PyData.shown_le 210 (by decide) _ t.ls
  have h7 : q.shown.length ≤ 16777216 := by
    have : (210 + 2) * q.weight ≤ (210 + 2) * 78000 := Nat.mul_le_mul_left _ (Nat.le_trans t.wt hw)
    omega
  have h3 : q.depth ≤ 60 := by have := t.dp; omega
  have s : shows q = true := by
    unfold shows small
    simp only [t.sh, t.nd, Bool.true_and, Bool.not_false, Bool.true_or, decide_eq_true h3, decide_eq_true h7]
  have : gRepr [d] h = .ok (.str q.shown) h := by
    show (match toPyR h 60 d with
      | some p => if shows p = true then Rs.ok (D.str p.shown) h else if showsT p = true then Rs.ok (D.str p.shown) h else .no
      | none => .no) = _
    rw [t.pr 60 hk]
    dsimp only
    rw [if_pos s]
  unfold W; rw [this]
theorem tz_eq {d' : D} {q' : PyData} {k' w' : Nat} {neg : Bool} (t : Tz h d q k w) (t' : Tz h d' q' k' w') (hk : k < 60) (hk' : k' < 60) (hq : eqQ neg d d' h = none) {Φ : Rs D → Prop} : W (dEqs neg d d' h) Φ = Φ (.ok (.bl (PyData.eqv q q' != neg)) h) := by
  unfold W dEqs
  rw [hq]
  unfold dEqP
  simp only [t.py 60 hk, t'.py 60 hk']
  rw [if_pos ⟨t.shaped (by omega), t'.shaped (by omega)⟩]
/-- a tuple == the same one -/
theorem tz_same {neg : Bool} (t : Tz h (.tup l) q k w) (hk : k < 60) {Φ : Rs D → Prop} : W (dEqs neg (.tup l) (.tup l) h) Φ = Φ (.ok (.bl (!neg)) h) := by
  rw [tz_eq t t hk hk rfl, t.rf]
  cases neg <;> rfl
theorem Tzs.ints {is : List Int} (hb : ∀ i ∈ is, Bd 190 i) : Tzs h (is.map D.int) (is.map PyData.int) 0 (is.length * 202) := Tzs.map fun i hi => Tz.int (hb i hi)
end
end MI
end
section
set_option Elab.async false
set_option linter.all false
set_option autoImplicit false
set_option maxRecDepth 100000
set_option exponentiation.threshold 20000
set_option maxHeartbeats 4000000
open PySem L2
namespace MI
theorem W.mono {α : Type} {r : Rs α} {Φ Ψ : Rs α → Prop} (w : W r Φ) (k : ∀ s, Φ s → Ψ s) : W r Ψ := k _ w
def sh (u v : Int) (q : Zp) : Zp := (q.1 + u, q.2 + v)
theorem crs_sh (u v : Int) (a b c : Zp) : crs (sh u v a) (sh u v b) (sh u v c) = crs a b c := by unfold crs sh; grind
theorem wk_sh (u v : Int) : ∀ (l : List Zp) (a b : Zp), wk (sh u v a) (sh u v b) (l.map (sh u v)) ↔ wk a b l
  | [], a, b => Iff.rfl
  | c :: l, a, b => by simp only [List.map_cons, wk, crs_sh, wk_sh u v l b c]
theorem ups_sh (u v : Int) : ∀ (l : List Zp) (a b : Zp), ups (sh u v a) (sh u v b) (l.map (sh u v)) = ups a b l
  | [], a, b => rfl
  | c :: l, a, b => by
    simp only [List.map_cons, ups, ups_sh u v l b c]
    congr 1
    have e1 : (sh u v b).2 < (sh u v c).2 ↔ b.2 < c.2 := by unfold sh; dsimp only; omega
    have e2 : (sh u v a).2 < (sh u v b).2 ↔ a.2 < b.2 := by unfold sh; dsimp only; omega
    simp only [e1, e2]
theorem Rg.sh (u v : Int) {c : List Zp} (h : Rg c) : Rg (c.map (MI.sh u v)) := by
  obtain ⟨X, a, b, e, h1, h2⟩ := h
  refine ⟨X.map (MI.sh u v), MI.sh u v a, MI.sh u v b, by rw [e]; simp, (wk_sh u v _ _ _).2 h1, by rw [ups_sh, h2]⟩
theorem sh_inj {u v : Int} {a b : Zp} (h : sh u v a = sh u v b) : a = b := by
  unfold sh at h
  have h1 := congrArg Prod.fst h
  have h2 := congrArg Prod.snd h
  dsimp only at h1 h2
  exact Prod.ext (by omega) (by omega)
theorem Rn.sh (u v : Int) {c : List Zp} (h : Rn c) : Rn (c.map (MI.sh u v)) := by
  refine ⟨by simpa using h.ne, by simpa using h.le, ?_, fun k => (h.rg (by simpa using k)).sh u v⟩
  exact List.Pairwise.map (MI.sh u v) (fun a b hab e => hab (sh_inj e)) h.nd
def wkB : Zp → Zp → List Zp → Bool
  | _, _, [] => true
  | a, b, c :: l => decide (0 < crs a b c) && wkB b c l
theorem wkB_ok : ∀ (l : List Zp) (a b : Zp), wkB a b l = true → wk a b l
  | [], _, _, _ => trivial
  | c :: l, a, b, h => by
    simp only [wkB, Bool.and_eq_true, decide_eq_true_eq] at h
    exact ⟨h.1, wkB_ok l b c h.2⟩
def rgB (c : List Zp) : Bool := match c.reverse with
  | b :: a :: _ => wkB a b c && ups a b c == 1
  | _ => false
theorem rgB_ok {c : List Zp} (h : rgB c = true) : Rg c := by
  unfold rgB at h
  split at h
  · rename_i b a X e
    simp only [Bool.and_eq_true, beq_iff_eq] at h
    refine ⟨X.reverse, a, b, ?_, wkB_ok _ _ _ h.1, h.2⟩
    have := congrArg List.reverse e
    simpa using this
  · cases h
def inB (q : Zp) : Bool := decide (-1000000000 ≤ q.1) && decide (q.1 ≤ 1000000000) && decide (-1000000000 ≤ q.2) && decide (q.2 ≤ 1000000000)
def rnB (c : List Zp) : Bool := !c.isEmpty && decide (c.length ≤ 8) && decide c.Nodup && (decide (c.length < 3) || rgB c) && c.all inB
theorem rnB_ok {c : List Zp} (h : rnB c = true) : Rn c ∧ ∀ q ∈ c, In9 q := by
  unfold rnB at h
  simp only [Bool.and_eq_true, decide_eq_true_eq, Bool.or_eq_true, List.all_eq_true] at h
  obtain ⟨⟨⟨⟨h1, h2⟩, h3⟩, h4⟩, h5⟩ := h
  refine ⟨⟨fun e => (by subst e; cases h1), h2, h3, fun k => rgB_ok (h4.resolve_left (by omega))⟩, fun q hq => ?_⟩
  have := h5 q hq
  unfold inB at this
  simp only [Bool.and_eq_true, decide_eq_true_eq] at this
  exact ⟨this.1.1.1, this.1.1.2, this.1.2, this.2⟩
section
variable {h : Hq} {Φ : Rs D → Prop} {m p : Nat} {n : Int}
theorem dZ_tz {q : Zp} (i : In9 q) : Tz h (dZ q) (.tuple [.int q.1, .int q.2]) 1 404 := by
  obtain ⟨q1, q2, q3, q4⟩ := i
  exact Tz.tup (Tzs.cons (Tz.int (Bd.of (by omega) (by omega))) (Tzs.cons (Tz.int (Bd.of (by omega) (by omega))) Tzs.nil))
end
end MI
end
section
set_option Elab.async false
set_option linter.all false
set_option autoImplicit false
set_option maxRecDepth 100000
set_option exponentiation.threshold 20000
set_option maxHeartbeats 4000000
open PySem L2
namespace MI
structure Row where
  m : Int
  c : List Zp
  u : Int
  v : Int
abbrev dRw (r : Row) : D := .tup [.int r.m, .tup (r.c.map dZ), .tup [.int r.u, .int r.v]]
structure RwOk (r : Row) : Prop where
  m0 : 0 ≤ r.m
  m1 : r.m ≤ 1000000
  rn : Rn r.c
  ib : ∀ q ∈ r.c, In9 q
  u0 : -1000000 ≤ r.u
  u1 : r.u ≤ 1000000
  v0 : -1000000 ≤ r.v
  v1 : r.v ≤ 1000000
def pZ (q : Zp) : PyData := .tuple [.int q.1, .int q.2]
section
variable {h : Hq} {Φ : Rs D → Prop} {m p : Nat} {n : Int}
theorem cs_tz {c : List Zp} (ib : ∀ q ∈ c, In9 q) : Tz h (.tup (c.map dZ)) (.tuple (c.map pZ)) 2 (c.length * 405) := Tz.tup (Tzs.map fun q hq => dZ_tz (ib q hq))
theorem eq_csN {c : List Zp} {neg : Bool} (ib : ∀ q ∈ c, In9 q) : W (dEqs neg (.tup (c.map dZ)) .non h) Φ = Φ (.ok (.bl neg) h) := by
  rw [tz_eq (cs_tz ib) Tz.non (by decide) (by decide) rfl]
  cases neg <;> rfl
theorem isTN {l : List D} {neg : Bool} : W (dIsN neg (.tup l) .non h) Φ = Φ (.ok (.bl neg) h) := rfl
theorem isrow_w {r : Row} (k : RwOk r) (kk : Φ (.ok (.bl true) h)) : W (S_is_row [dRw r] h) Φ := by
  obtain ⟨m0, m1, rn, ib, u0, u1, v0, v1⟩ := k
  have d1 : decide ((0 : Int) ≤ r.m) = true := decide_eq_true m0
  have d2 : decide (r.m ≤ (1000000 : Int)) = true := decide_eq_true m1
  have d3 : decide ((-1000000 : Int) ≤ r.u) = true := decide_eq_true u0
  have d4 : decide (r.u ≤ (1000000 : Int)) = true := decide_eq_true u1
  have d5 : decide ((-1000000 : Int) ≤ r.v) = true := decide_eq_true v0
  have d6 : decide (r.v ≤ (1000000 : Int)) = true := decide_eq_true v1
  unfold S_is_row
  simp only [↓w_ok, ↓kB_ok, ↓kI_ok, ↓w_K, ↓w_V, ↓w_vR, ↓w_Op, ↓kO1_ok, ↓kO2_ok, ↓w_Un, ↓w_bOf, ↓w_isB, ↓kBl_ok, ↓kBl_exc, ↓kIf_ok, ↓kIf_exc, ↓w_okB, ↓w_okD, ↓w_bAnd, ↓w_bOr, ↓w_bNot, ↓kNot_ok, ↓kNot_exc, ↓w_eAnd, ↓w_eOr, ↓w_eNot, ↓kNotV_ok, ↓w_eIf, ↓w_aNil, ↓w_aCons, ↓kA1_ok, ↓kA2_ok, ↓kA1_exc, ↓kA2_exc, ↓w_Tup, ↓w_Lst, ↓w_mkT, ↓w_mkL, ↓w_Dct, ↓w_Dct2, ↓w_SoSe, ↓w_Call, ↓w_goS, ↓w_Bi, ↓w_Isi, ↓w_Cut, ↓kC1_ok, ↓kC2_ok, ↓kC3_ok, ↓w_oNone, ↓w_oSome, ↓w_vO, ↓w_Chain, ↓kCh1_ok, ↓kCh2_ok, ↓kCh3_ok, ↓w_chA, ↓w_App, ↓w_Ins, ↓w_insG, ↓z_nx, ↓z_End, ↓z_Seq, ↓kT_nx, ↓kT_rt, ↓kT_bk, ↓kT_ct, ↓kT_exc, ↓z_If, ↓kIfS_ok, ↓kIfS_exc, ↓z_Ret, ↓kRet_ok, ↓kRet_exc, ↓z_Expr, ↓kNx_ok, ↓kNx_exc, ↓z_Asg, ↓kAs_ok, ↓kAs_exc, ↓z_tgO, t_N, t_T, t_nil, t_cons, t_G, t_gnil, t_gcons, t_bind, ↓z_Par, ↓kPar_ok, ↓z_Raise, ↓z_Break, ↓z_Cont, ↓z_For, ↓kSrc_ok, ↓w_Range, ↓w_rgF, ↓w_SeqI, ↓w_sqT, ↓w_Zip, ↓w_zpT, ↓w_Comp, ↓kCo_ok, ↓w_of, ↓kF_rt, ↓kF_nx, ↓kF_exc, ↓w_add, ↓w_sub, ↓w_pow10, ↓w_neg, ↓w_lt, ↓w_le, ↓w_gt, ↓w_ge, ↓w_ix0, ↓w_ix1, ↓w_ix2, ↓w_ix3, ↓w_eqI, ↓w_eqS, ↓w_eqT2, ↓w_abs, ↓w_lenT, ↓w_lenS, ↓w_max, ↓w_min, ↓w_intT, ↓w_intF, ↓w_isBool, ↓w_isTup, ↓w_tupT, ↓w_listT, ↓w_cutT, ↓brw_t, ↓brw_f, ↓brz_t, ↓brz_f, List.getElem?_cons_zero, List.getElem?_cons_succ, List.set_cons_zero, List.set_cons_succ, List.length_cons, List.length_nil, List.map_cons, List.map_nil, List.replicate, List.cons_append, List.nil_append, small, Nat.reduceAdd, Nat.reduceLeDiff, Nat.reduceEqDiff, Int.cast_ofNat_Int, Int.reduceBEq, BEq.rfl, ↓w_Yes, ↓w_bTru, ↓augF_ok, ↓z_Put, ↓putF_ok, ↓putG_ok, ↓w_isNn, ↓w_isNt, wipeF_nil, wipeF_cons, Int.reduceLE, Int.reduceLT, Int.reduceToNat, Int.reducePow, Int.reduceNeg, Int.reduceSub, Int.reduceAdd, Int.reduceMul, decide_true, decide_false, Bool.not_true, Bool.not_false, Bool.bne_false, Bool.bne_true, ↓w_aStar, ↓w_stT, ↓kSt_ok, ↓w_aDef, ↓kDf_ok, ↓w_Cnt, ↓w_Ext, ↓w_isBB, ↓w_isIB, ↓w_Enum, ↓w_enT]
  unfold S_are_parts_of_row
  simp only [↓w_ok, ↓kB_ok, ↓kI_ok, ↓w_K, ↓w_V, ↓w_vR, ↓w_Op, ↓kO1_ok, ↓kO2_ok, ↓w_Un, ↓w_bOf, ↓w_isB, ↓kBl_ok, ↓kBl_exc, ↓kIf_ok, ↓kIf_exc, ↓w_okB, ↓w_okD, ↓w_bAnd, ↓w_bOr, ↓w_bNot, ↓kNot_ok, ↓kNot_exc, ↓w_eAnd, ↓w_eOr, ↓w_eNot, ↓kNotV_ok, ↓w_eIf, ↓w_aNil, ↓w_aCons, ↓kA1_ok, ↓kA2_ok, ↓kA1_exc, ↓kA2_exc, ↓w_Tup, ↓w_Lst, ↓w_mkT, ↓w_mkL, ↓w_Dct, ↓w_Dct2, ↓w_SoSe, ↓w_Call, ↓w_goS, ↓w_Bi, ↓w_Isi, ↓w_Cut, ↓kC1_ok, ↓kC2_ok, ↓kC3_ok, ↓w_oNone, ↓w_oSome, ↓w_vO, ↓w_Chain, ↓kCh1_ok, ↓kCh2_ok, ↓kCh3_ok, ↓w_chA, ↓w_App, ↓w_Ins, ↓w_insG, ↓z_nx, ↓z_End, ↓z_Seq, ↓kT_nx, ↓kT_rt, ↓kT_bk, ↓kT_ct, ↓kT_exc, ↓z_If, ↓kIfS_ok, ↓kIfS_exc, ↓z_Ret, ↓kRet_ok, ↓kRet_exc, ↓z_Expr, ↓kNx_ok, ↓kNx_exc, ↓z_Asg, ↓kAs_ok, ↓kAs_exc, ↓z_tgO, t_N, t_T, t_nil, t_cons, t_G, t_gnil, t_gcons, t_bind, ↓z_Par, ↓kPar_ok, ↓z_Raise, ↓z_Break, ↓z_Cont, ↓z_For, ↓kSrc_ok, ↓w_Range, ↓w_rgF, ↓w_SeqI, ↓w_sqT, ↓w_Zip, ↓w_zpT, ↓w_Comp, ↓kCo_ok, ↓w_of, ↓kF_rt, ↓kF_nx, ↓kF_exc, ↓w_add, ↓w_sub, ↓w_pow10, ↓w_neg, ↓w_lt, ↓w_le, ↓w_gt, ↓w_ge, ↓w_ix0, ↓w_ix1, ↓w_ix2, ↓w_ix3, ↓w_eqI, ↓w_eqS, ↓w_eqT2, ↓w_abs, ↓w_lenT, ↓w_lenS, ↓w_max, ↓w_min, ↓w_intT, ↓w_intF, ↓w_isBool, ↓w_isTup, ↓w_tupT, ↓w_listT, ↓w_cutT, ↓brw_t, ↓brw_f, ↓brz_t, ↓brz_f, List.getElem?_cons_zero, List.getElem?_cons_succ, List.set_cons_zero, List.set_cons_succ, List.length_cons, List.length_nil, List.map_cons, List.map_nil, List.replicate, List.cons_append, List.nil_append, small, Nat.reduceAdd, Nat.reduceLeDiff, Nat.reduceEqDiff, Int.cast_ofNat_Int, Int.reduceBEq, BEq.rfl, ↓w_Yes, ↓w_bTru, ↓augF_ok, ↓z_Put, ↓putF_ok, ↓putG_ok, ↓w_isNn, ↓w_isNt, wipeF_nil, wipeF_cons, Int.reduceLE, Int.reduceLT, Int.reduceToNat, Int.reducePow, Int.reduceNeg, Int.reduceSub, Int.reduceAdd, Int.reduceMul, decide_true, decide_false, Bool.not_true, Bool.not_false, Bool.bne_false, Bool.bne_true, ↓w_aStar, ↓w_stT, ↓kSt_ok, ↓w_aDef, ↓kDf_ok, ↓w_Cnt, ↓w_Ext, ↓w_isBB, ↓w_isIB, ↓w_Enum, ↓w_enT, isi_w, d1, d2, d3, d4, d5, d6, isTN, eq_csN ib]
  refine isring_w rn ib ?_
  simp only [↓w_ok, ↓kB_ok, ↓kI_ok, ↓w_K, ↓w_V, ↓w_vR, ↓w_Op, ↓kO1_ok, ↓kO2_ok, ↓w_Un, ↓w_bOf, ↓w_isB, ↓kBl_ok, ↓kBl_exc, ↓kIf_ok, ↓kIf_exc, ↓w_okB, ↓w_okD, ↓w_bAnd, ↓w_bOr, ↓w_bNot, ↓kNot_ok, ↓kNot_exc, ↓w_eAnd, ↓w_eOr, ↓w_eNot, ↓kNotV_ok, ↓w_eIf, ↓w_aNil, ↓w_aCons, ↓kA1_ok, ↓kA2_ok, ↓kA1_exc, ↓kA2_exc, ↓w_Tup, ↓w_Lst, ↓w_mkT, ↓w_mkL, ↓w_Dct, ↓w_Dct2, ↓w_SoSe, ↓w_Call, ↓w_goS, ↓w_Bi, ↓w_Isi, ↓w_Cut, ↓kC1_ok, ↓kC2_ok, ↓kC3_ok, ↓w_oNone, ↓w_oSome, ↓w_vO, ↓w_Chain, ↓kCh1_ok, ↓kCh2_ok, ↓kCh3_ok, ↓w_chA, ↓w_App, ↓w_Ins, ↓w_insG, ↓z_nx, ↓z_End, ↓z_Seq, ↓kT_nx, ↓kT_rt, ↓kT_bk, ↓kT_ct, ↓kT_exc, ↓z_If, ↓kIfS_ok, ↓kIfS_exc, ↓z_Ret, ↓kRet_ok, ↓kRet_exc, ↓z_Expr, ↓kNx_ok, ↓kNx_exc, ↓z_Asg, ↓kAs_ok, ↓kAs_exc, ↓z_tgO, t_N, t_T, t_nil, t_cons, t_G, t_gnil, t_gcons, t_bind, ↓z_Par, ↓kPar_ok, ↓z_Raise, ↓z_Break, ↓z_Cont, ↓z_For, ↓kSrc_ok, ↓w_Range, ↓w_rgF, ↓w_SeqI, ↓w_sqT, ↓w_Zip, ↓w_zpT, ↓w_Comp, ↓kCo_ok, ↓w_of, ↓kF_rt, ↓kF_nx, ↓kF_exc, ↓w_add, ↓w_sub, ↓w_pow10, ↓w_neg, ↓w_lt, ↓w_le, ↓w_gt, ↓w_ge, ↓w_ix0, ↓w_ix1, ↓w_ix2, ↓w_ix3, ↓w_eqI, ↓w_eqS, ↓w_eqT2, ↓w_abs, ↓w_lenT, ↓w_lenS, ↓w_max, ↓w_min, ↓w_intT, ↓w_intF, ↓w_isBool, ↓w_isTup, ↓w_tupT, ↓w_listT, ↓w_cutT, ↓brw_t, ↓brw_f, ↓brz_t, ↓brz_f, List.getElem?_cons_zero, List.getElem?_cons_succ, List.set_cons_zero, List.set_cons_succ, List.length_cons, List.length_nil, List.map_cons, List.map_nil, List.replicate, List.cons_append, List.nil_append, small, Nat.reduceAdd, Nat.reduceLeDiff, Nat.reduceEqDiff, Int.cast_ofNat_Int, Int.reduceBEq, BEq.rfl, ↓w_Yes, ↓w_bTru, ↓augF_ok, ↓z_Put, ↓putF_ok, ↓putG_ok, ↓w_isNn, ↓w_isNt, wipeF_nil, wipeF_cons, Int.reduceLE, Int.reduceLT, Int.reduceToNat, Int.reducePow, Int.reduceNeg, Int.reduceSub, Int.reduceAdd, Int.reduceMul, decide_true, decide_false, Bool.not_true, Bool.not_false, Bool.bne_false, Bool.bne_true, ↓w_aStar, ↓w_stT, ↓kSt_ok, ↓w_aDef, ↓kDf_ok, ↓w_Cnt, ↓w_Ext, ↓w_isBB, ↓w_isIB, ↓w_Enum, ↓w_enT]
  exact kk
theorem needrow_w {r : Row} (k : RwOk r) (kk : Φ (.ok .non h)) : W (S_need_row [dRw r] h) Φ := by
  unfold S_need_row
  simp only [↓w_ok, ↓kB_ok, ↓kI_ok, ↓w_K, ↓w_V, ↓w_vR, ↓w_Op, ↓kO1_ok, ↓kO2_ok, ↓w_Un, ↓w_bOf, ↓w_isB, ↓kBl_ok, ↓kBl_exc, ↓kIf_ok, ↓kIf_exc, ↓w_okB, ↓w_okD, ↓w_bAnd, ↓w_bOr, ↓w_bNot, ↓kNot_ok, ↓kNot_exc, ↓w_eAnd, ↓w_eOr, ↓w_eNot, ↓kNotV_ok, ↓w_eIf, ↓w_aNil, ↓w_aCons, ↓kA1_ok, ↓kA2_ok, ↓kA1_exc, ↓kA2_exc, ↓w_Tup, ↓w_Lst, ↓w_mkT, ↓w_mkL, ↓w_Dct, ↓w_Dct2, ↓w_SoSe, ↓w_Call, ↓w_goS, ↓w_Bi, ↓w_Isi, ↓w_Cut, ↓kC1_ok, ↓kC2_ok, ↓kC3_ok, ↓w_oNone, ↓w_oSome, ↓w_vO, ↓w_Chain, ↓kCh1_ok, ↓kCh2_ok, ↓kCh3_ok, ↓w_chA, ↓w_App, ↓w_Ins, ↓w_insG, ↓z_nx, ↓z_End, ↓z_Seq, ↓kT_nx, ↓kT_rt, ↓kT_bk, ↓kT_ct, ↓kT_exc, ↓z_If, ↓kIfS_ok, ↓kIfS_exc, ↓z_Ret, ↓kRet_ok, ↓kRet_exc, ↓z_Expr, ↓kNx_ok, ↓kNx_exc, ↓z_Asg, ↓kAs_ok, ↓kAs_exc, ↓z_tgO, t_N, t_T, t_nil, t_cons, t_G, t_gnil, t_gcons, t_bind, ↓z_Par, ↓kPar_ok, ↓z_Raise, ↓z_Break, ↓z_Cont, ↓z_For, ↓kSrc_ok, ↓w_Range, ↓w_rgF, ↓w_SeqI, ↓w_sqT, ↓w_Zip, ↓w_zpT, ↓w_Comp, ↓kCo_ok, ↓w_of, ↓kF_rt, ↓kF_nx, ↓kF_exc, ↓w_add, ↓w_sub, ↓w_pow10, ↓w_neg, ↓w_lt, ↓w_le, ↓w_gt, ↓w_ge, ↓w_ix0, ↓w_ix1, ↓w_ix2, ↓w_ix3, ↓w_eqI, ↓w_eqS, ↓w_eqT2, ↓w_abs, ↓w_lenT, ↓w_lenS, ↓w_max, ↓w_min, ↓w_intT, ↓w_intF, ↓w_isBool, ↓w_isTup, ↓w_tupT, ↓w_listT, ↓w_cutT, ↓brw_t, ↓brw_f, ↓brz_t, ↓brz_f, List.getElem?_cons_zero, List.getElem?_cons_succ, List.set_cons_zero, List.set_cons_succ, List.length_cons, List.length_nil, List.map_cons, List.map_nil, List.replicate, List.cons_append, List.nil_append, small, Nat.reduceAdd, Nat.reduceLeDiff, Nat.reduceEqDiff, Int.cast_ofNat_Int, Int.reduceBEq, BEq.rfl, ↓w_Yes, ↓w_bTru, ↓augF_ok, ↓z_Put, ↓putF_ok, ↓putG_ok, ↓w_isNn, ↓w_isNt, wipeF_nil, wipeF_cons, Int.reduceLE, Int.reduceLT, Int.reduceToNat, Int.reducePow, Int.reduceNeg, Int.reduceSub, Int.reduceAdd, Int.reduceMul, decide_true, decide_false, Bool.not_true, Bool.not_false, Bool.bne_false, Bool.bne_true, ↓w_aStar, ↓w_stT, ↓kSt_ok, ↓w_aDef, ↓kDf_ok, ↓w_Cnt, ↓w_Ext, ↓w_isBB, ↓w_isIB, ↓w_Enum, ↓w_enT]
  refine isrow_w k ?_
  simp only [↓w_ok, ↓kB_ok, ↓kI_ok, ↓w_K, ↓w_V, ↓w_vR, ↓w_Op, ↓kO1_ok, ↓kO2_ok, ↓w_Un, ↓w_bOf, ↓w_isB, ↓kBl_ok, ↓kBl_exc, ↓kIf_ok, ↓kIf_exc, ↓w_okB, ↓w_okD, ↓w_bAnd, ↓w_bOr, ↓w_bNot, ↓kNot_ok, ↓kNot_exc, ↓w_eAnd, ↓w_eOr, ↓w_eNot, ↓kNotV_ok, ↓w_eIf, ↓w_aNil, ↓w_aCons, ↓kA1_ok, ↓kA2_ok, ↓kA1_exc, ↓kA2_exc, ↓w_Tup, ↓w_Lst, ↓w_mkT, ↓w_mkL, ↓w_Dct, ↓w_Dct2, ↓w_SoSe, ↓w_Call, ↓w_goS, ↓w_Bi, ↓w_Isi, ↓w_Cut, ↓kC1_ok, ↓kC2_ok, ↓kC3_ok, ↓w_oNone, ↓w_oSome, ↓w_vO, ↓w_Chain, ↓kCh1_ok, ↓kCh2_ok, ↓kCh3_ok, ↓w_chA, ↓w_App, ↓w_Ins, ↓w_insG, ↓z_nx, ↓z_End, ↓z_Seq, ↓kT_nx, ↓kT_rt, ↓kT_bk, ↓kT_ct, ↓kT_exc, ↓z_If, ↓kIfS_ok, ↓kIfS_exc, ↓z_Ret, ↓kRet_ok, ↓kRet_exc, ↓z_Expr, ↓kNx_ok, ↓kNx_exc, ↓z_Asg, ↓kAs_ok, ↓kAs_exc, ↓z_tgO, t_N, t_T, t_nil, t_cons, t_G, t_gnil, t_gcons, t_bind, ↓z_Par, ↓kPar_ok, ↓z_Raise, ↓z_Break, ↓z_Cont, ↓z_For, ↓kSrc_ok, ↓w_Range, ↓w_rgF, ↓w_SeqI, ↓w_sqT, ↓w_Zip, ↓w_zpT, ↓w_Comp, ↓kCo_ok, ↓w_of, ↓kF_rt, ↓kF_nx, ↓kF_exc, ↓w_add, ↓w_sub, ↓w_pow10, ↓w_neg, ↓w_lt, ↓w_le, ↓w_gt, ↓w_ge, ↓w_ix0, ↓w_ix1, ↓w_ix2, ↓w_ix3, ↓w_eqI, ↓w_eqS, ↓w_eqT2, ↓w_abs, ↓w_lenT, ↓w_lenS, ↓w_max, ↓w_min, ↓w_intT, ↓w_intF, ↓w_isBool, ↓w_isTup, ↓w_tupT, ↓w_listT, ↓w_cutT, ↓brw_t, ↓brw_f, ↓brz_t, ↓brz_f, List.getElem?_cons_zero, List.getElem?_cons_succ, List.set_cons_zero, List.set_cons_succ, List.length_cons, List.length_nil, List.map_cons, List.map_nil, List.replicate, List.cons_append, List.nil_append, small, Nat.reduceAdd, Nat.reduceLeDiff, Nat.reduceEqDiff, Int.cast_ofNat_Int, Int.reduceBEq, BEq.rfl, ↓w_Yes, ↓w_bTru, ↓augF_ok, ↓z_Put, ↓putF_ok, ↓putG_ok, ↓w_isNn, ↓w_isNt, wipeF_nil, wipeF_cons, Int.reduceLE, Int.reduceLT, Int.reduceToNat, Int.reducePow, Int.reduceNeg, Int.reduceSub, Int.reduceAdd, Int.reduceMul, decide_true, decide_false, Bool.not_true, Bool.not_false, Bool.bne_false, Bool.bne_true, ↓w_aStar, ↓w_stT, ↓kSt_ok, ↓w_aDef, ↓kDf_ok, ↓w_Cnt, ↓w_Ext, ↓w_isBB, ↓w_isIB, ↓w_Enum, ↓w_enT]
  exact kk
theorem needrwr_w {r : Row} (k : RwOk r) (kk : Φ (.ok .non h)) : W (S_need_row_with_ring [dRw r] h) Φ := by
  unfold S_need_row_with_ring
  simp only [↓w_ok, ↓kB_ok, ↓kI_ok, ↓w_K, ↓w_V, ↓w_vR, ↓w_Op, ↓kO1_ok, ↓kO2_ok, ↓w_Un, ↓w_bOf, ↓w_isB, ↓kBl_ok, ↓kBl_exc, ↓kIf_ok, ↓kIf_exc, ↓w_okB, ↓w_okD, ↓w_bAnd, ↓w_bOr, ↓w_bNot, ↓kNot_ok, ↓kNot_exc, ↓w_eAnd, ↓w_eOr, ↓w_eNot, ↓kNotV_ok, ↓w_eIf, ↓w_aNil, ↓w_aCons, ↓kA1_ok, ↓kA2_ok, ↓kA1_exc, ↓kA2_exc, ↓w_Tup, ↓w_Lst, ↓w_mkT, ↓w_mkL, ↓w_Dct, ↓w_Dct2, ↓w_SoSe, ↓w_Call, ↓w_goS, ↓w_Bi, ↓w_Isi, ↓w_Cut, ↓kC1_ok, ↓kC2_ok, ↓kC3_ok, ↓w_oNone, ↓w_oSome, ↓w_vO, ↓w_Chain, ↓kCh1_ok, ↓kCh2_ok, ↓kCh3_ok, ↓w_chA, ↓w_App, ↓w_Ins, ↓w_insG, ↓z_nx, ↓z_End, ↓z_Seq, ↓kT_nx, ↓kT_rt, ↓kT_bk, ↓kT_ct, ↓kT_exc, ↓z_If, ↓kIfS_ok, ↓kIfS_exc, ↓z_Ret, ↓kRet_ok, ↓kRet_exc, ↓z_Expr, ↓kNx_ok, ↓kNx_exc, ↓z_Asg, ↓kAs_ok, ↓kAs_exc, ↓z_tgO, t_N, t_T, t_nil, t_cons, t_G, t_gnil, t_gcons, t_bind, ↓z_Par, ↓kPar_ok, ↓z_Raise, ↓z_Break, ↓z_Cont, ↓z_For, ↓kSrc_ok, ↓w_Range, ↓w_rgF, ↓w_SeqI, ↓w_sqT, ↓w_Zip, ↓w_zpT, ↓w_Comp, ↓kCo_ok, ↓w_of, ↓kF_rt, ↓kF_nx, ↓kF_exc, ↓w_add, ↓w_sub, ↓w_pow10, ↓w_neg, ↓w_lt, ↓w_le, ↓w_gt, ↓w_ge, ↓w_ix0, ↓w_ix1, ↓w_ix2, ↓w_ix3, ↓w_eqI, ↓w_eqS, ↓w_eqT2, ↓w_abs, ↓w_lenT, ↓w_lenS, ↓w_max, ↓w_min, ↓w_intT, ↓w_intF, ↓w_isBool, ↓w_isTup, ↓w_tupT, ↓w_listT, ↓w_cutT, ↓brw_t, ↓brw_f, ↓brz_t, ↓brz_f, List.getElem?_cons_zero, List.getElem?_cons_succ, List.set_cons_zero, List.set_cons_succ, List.length_cons, List.length_nil, List.map_cons, List.map_nil, List.replicate, List.cons_append, List.nil_append, small, Nat.reduceAdd, Nat.reduceLeDiff, Nat.reduceEqDiff, Int.cast_ofNat_Int, Int.reduceBEq, BEq.rfl, ↓w_Yes, ↓w_bTru, ↓augF_ok, ↓z_Put, ↓putF_ok, ↓putG_ok, ↓w_isNn, ↓w_isNt, wipeF_nil, wipeF_cons, Int.reduceLE, Int.reduceLT, Int.reduceToNat, Int.reducePow, Int.reduceNeg, Int.reduceSub, Int.reduceAdd, Int.reduceMul, decide_true, decide_false, Bool.not_true, Bool.not_false, Bool.bne_false, Bool.bne_true, ↓w_aStar, ↓w_stT, ↓kSt_ok, ↓w_aDef, ↓kDf_ok, ↓w_Cnt, ↓w_Ext, ↓w_isBB, ↓w_isIB, ↓w_Enum, ↓w_enT]
  refine needrow_w k ?_
  simp only [↓w_ok, ↓kB_ok, ↓kI_ok, ↓w_K, ↓w_V, ↓w_vR, ↓w_Op, ↓kO1_ok, ↓kO2_ok, ↓w_Un, ↓w_bOf, ↓w_isB, ↓kBl_ok, ↓kBl_exc, ↓kIf_ok, ↓kIf_exc, ↓w_okB, ↓w_okD, ↓w_bAnd, ↓w_bOr, ↓w_bNot, ↓kNot_ok, ↓kNot_exc, ↓w_eAnd, ↓w_eOr, ↓w_eNot, ↓kNotV_ok, ↓w_eIf, ↓w_aNil, ↓w_aCons, ↓kA1_ok, ↓kA2_ok, ↓kA1_exc, ↓kA2_exc, ↓w_Tup, ↓w_Lst, ↓w_mkT, ↓w_mkL, ↓w_Dct, ↓w_Dct2, ↓w_SoSe, ↓w_Call, ↓w_goS, ↓w_Bi, ↓w_Isi, ↓w_Cut, ↓kC1_ok, ↓kC2_ok, ↓kC3_ok, ↓w_oNone, ↓w_oSome, ↓w_vO, ↓w_Chain, ↓kCh1_ok, ↓kCh2_ok, ↓kCh3_ok, ↓w_chA, ↓w_App, ↓w_Ins, ↓w_insG, ↓z_nx, ↓z_End, ↓z_Seq, ↓kT_nx, ↓kT_rt, ↓kT_bk, ↓kT_ct, ↓kT_exc, ↓z_If, ↓kIfS_ok, ↓kIfS_exc, ↓z_Ret, ↓kRet_ok, ↓kRet_exc, ↓z_Expr, ↓kNx_ok, ↓kNx_exc, ↓z_Asg, ↓kAs_ok, ↓kAs_exc, ↓z_tgO, t_N, t_T, t_nil, t_cons, t_G, t_gnil, t_gcons, t_bind, ↓z_Par, ↓kPar_ok, ↓z_Raise, ↓z_Break, ↓z_Cont, ↓z_For, ↓kSrc_ok, ↓w_Range, ↓w_rgF, ↓w_SeqI, ↓w_sqT, ↓w_Zip, ↓w_zpT, ↓w_Comp, ↓kCo_ok, ↓w_of, ↓kF_rt, ↓kF_nx, ↓kF_exc, ↓w_add, ↓w_sub, ↓w_pow10, ↓w_neg, ↓w_lt, ↓w_le, ↓w_gt, ↓w_ge, ↓w_ix0, ↓w_ix1, ↓w_ix2, ↓w_ix3, ↓w_eqI, ↓w_eqS, ↓w_eqT2, ↓w_abs, ↓w_lenT, ↓w_lenS, ↓w_max, ↓w_min, ↓w_intT, ↓w_intF, ↓w_isBool, ↓w_isTup, ↓w_tupT, ↓w_listT, ↓w_cutT, ↓brw_t, ↓brw_f, ↓brz_t, ↓brz_f, List.getElem?_cons_zero, List.getElem?_cons_succ, List.set_cons_zero, List.set_cons_succ, List.length_cons, List.length_nil, List.map_cons, List.map_nil, List.replicate, List.cons_append, List.nil_append, small, Nat.reduceAdd, Nat.reduceLeDiff, Nat.reduceEqDiff, Int.cast_ofNat_Int, Int.reduceBEq, BEq.rfl, ↓w_Yes, ↓w_bTru, ↓augF_ok, ↓z_Put, ↓putF_ok, ↓putG_ok, ↓w_isNn, ↓w_isNt, wipeF_nil, wipeF_cons, Int.reduceLE, Int.reduceLT, Int.reduceToNat, Int.reducePow, Int.reduceNeg, Int.reduceSub, Int.reduceAdd, Int.reduceMul, decide_true, decide_false, Bool.not_true, Bool.not_false, Bool.bne_false, Bool.bne_true, ↓w_aStar, ↓w_stT, ↓kSt_ok, ↓w_aDef, ↓kDf_ok, ↓w_Cnt, ↓w_Ext, ↓w_isBB, ↓w_isIB, ↓w_Enum, ↓w_enT, isTN]
  exact kk
/-- a row of a ring that stays -/
def stl (c : List Zp) : Row := ⟨0, c, 0, 0⟩
theorem still_w {c : List Zp} : W (S_still_row [.tup (c.map dZ)] h) Φ = Φ (.ok (dRw (stl c)) h) := by
  unfold S_still_row
  simp only [↓w_ok, ↓kB_ok, ↓kI_ok, ↓w_K, ↓w_V, ↓w_vR, ↓w_Op, ↓kO1_ok, ↓kO2_ok, ↓w_Un, ↓w_bOf, ↓w_isB, ↓kBl_ok, ↓kBl_exc, ↓kIf_ok, ↓kIf_exc, ↓w_okB, ↓w_okD, ↓w_bAnd, ↓w_bOr, ↓w_bNot, ↓kNot_ok, ↓kNot_exc, ↓w_eAnd, ↓w_eOr, ↓w_eNot, ↓kNotV_ok, ↓w_eIf, ↓w_aNil, ↓w_aCons, ↓kA1_ok, ↓kA2_ok, ↓kA1_exc, ↓kA2_exc, ↓w_Tup, ↓w_Lst, ↓w_mkT, ↓w_mkL, ↓w_Dct, ↓w_Dct2, ↓w_SoSe, ↓w_Call, ↓w_goS, ↓w_Bi, ↓w_Isi, ↓w_Cut, ↓kC1_ok, ↓kC2_ok, ↓kC3_ok, ↓w_oNone, ↓w_oSome, ↓w_vO, ↓w_Chain, ↓kCh1_ok, ↓kCh2_ok, ↓kCh3_ok, ↓w_chA, ↓w_App, ↓w_Ins, ↓w_insG, ↓z_nx, ↓z_End, ↓z_Seq, ↓kT_nx, ↓kT_rt, ↓kT_bk, ↓kT_ct, ↓kT_exc, ↓z_If, ↓kIfS_ok, ↓kIfS_exc, ↓z_Ret, ↓kRet_ok, ↓kRet_exc, ↓z_Expr, ↓kNx_ok, ↓kNx_exc, ↓z_Asg, ↓kAs_ok, ↓kAs_exc, ↓z_tgO, t_N, t_T, t_nil, t_cons, t_G, t_gnil, t_gcons, t_bind, ↓z_Par, ↓kPar_ok, ↓z_Raise, ↓z_Break, ↓z_Cont, ↓z_For, ↓kSrc_ok, ↓w_Range, ↓w_rgF, ↓w_SeqI, ↓w_sqT, ↓w_Zip, ↓w_zpT, ↓w_Comp, ↓kCo_ok, ↓w_of, ↓kF_rt, ↓kF_nx, ↓kF_exc, ↓w_add, ↓w_sub, ↓w_pow10, ↓w_neg, ↓w_lt, ↓w_le, ↓w_gt, ↓w_ge, ↓w_ix0, ↓w_ix1, ↓w_ix2, ↓w_ix3, ↓w_eqI, ↓w_eqS, ↓w_eqT2, ↓w_abs, ↓w_lenT, ↓w_lenS, ↓w_max, ↓w_min, ↓w_intT, ↓w_intF, ↓w_isBool, ↓w_isTup, ↓w_tupT, ↓w_listT, ↓w_cutT, ↓brw_t, ↓brw_f, ↓brz_t, ↓brz_f, List.getElem?_cons_zero, List.getElem?_cons_succ, List.set_cons_zero, List.set_cons_succ, List.length_cons, List.length_nil, List.map_cons, List.map_nil, List.replicate, List.cons_append, List.nil_append, small, Nat.reduceAdd, Nat.reduceLeDiff, Nat.reduceEqDiff, Int.cast_ofNat_Int, Int.reduceBEq, BEq.rfl, ↓w_Yes, ↓w_bTru, ↓augF_ok, ↓z_Put, ↓putF_ok, ↓putG_ok, ↓w_isNn, ↓w_isNt, wipeF_nil, wipeF_cons, Int.reduceLE, Int.reduceLT, Int.reduceToNat, Int.reducePow, Int.reduceNeg, Int.reduceSub, Int.reduceAdd, Int.reduceMul, decide_true, decide_false, Bool.not_true, Bool.not_false, Bool.bne_false, Bool.bne_true, ↓w_aStar, ↓w_stT, ↓kSt_ok, ↓w_aDef, ↓kDf_ok, ↓w_Cnt, ↓w_Ext, ↓w_isBB, ↓w_isIB, ↓w_Enum, ↓w_enT]
  rfl
theorem stl_ok {c : List Zp} (rn : Rn c) (ib : ∀ q ∈ c, In9 q) : RwOk (stl c) := by
  refine ⟨?_, ?_, rn, ib, ?_, ?_, ?_, ?_⟩ <;> simp [stl]
/-- the corners at a moment, times its under -/
def mvd (r : Row) (t : Qp) : List Zp := r.c.map fun q => (q.1 * t.2 + r.u * (t.1 - r.m * t.2), q.2 * t.2 + r.v * (t.1 - r.m * t.2))
theorem In9.b1 {q : Zp} (i : In9 q) : Bd 30 q.1 ∧ Bd 30 q.2 := ⟨Bd.of (by have := i.1; omega) (by have := i.2.1; omega), Bd.of (by have := i.2.2.1; omega) (by have := i.2.2.2; omega)⟩
theorem RwOk.bm {r : Row} (k : RwOk r) : Bd 20 r.m := Bd.of (by have := k.m0; omega) (by have := k.m1; omega)
theorem RwOk.bu {r : Row} (k : RwOk r) : Bd 20 r.u := Bd.of (by have := k.u0; omega) (by have := k.u1; omega)
theorem RwOk.bv {r : Row} (k : RwOk r) : Bd 20 r.v := Bd.of (by have := k.v0; omega) (by have := k.v1; omega)
theorem gone_bd {B : Nat} {r : Row} {t : Qp} (k : RwOk r) (f : Bq B t) : Bd (20 + B + 1) (t.1 - r.m * t.2) := (f.b1.mono (by omega)).sub (k.bm.mul f.b2)
theorem movedp_w {B : Nat} {r : Row} {t : Qp} (k : RwOk r) (f : Bq B t) (hB : B ≤ 1000) (kk : ∀ h1, Gr h h1 → Φ (.ok (.tup ((mvd r t).map dZ)) h1)) : W (S_moved_points [dRw r, dq t] h) Φ := by
  have c8 := k.rn.le
  have bg := gone_bd k f
  unfold S_moved_points
  simp only [↓w_ok, ↓kB_ok, ↓kI_ok, ↓w_K, ↓w_V, ↓w_vR, ↓w_Op, ↓kO1_ok, ↓kO2_ok, ↓w_Un, ↓w_bOf, ↓w_isB, ↓kBl_ok, ↓kBl_exc, ↓kIf_ok, ↓kIf_exc, ↓w_okB, ↓w_okD, ↓w_bAnd, ↓w_bOr, ↓w_bNot, ↓kNot_ok, ↓kNot_exc, ↓w_eAnd, ↓w_eOr, ↓w_eNot, ↓kNotV_ok, ↓w_eIf, ↓w_aNil, ↓w_aCons, ↓kA1_ok, ↓kA2_ok, ↓kA1_exc, ↓kA2_exc, ↓w_Tup, ↓w_Lst, ↓w_mkT, ↓w_mkL, ↓w_Dct, ↓w_Dct2, ↓w_SoSe, ↓w_Call, ↓w_goS, ↓w_Bi, ↓w_Isi, ↓w_Cut, ↓kC1_ok, ↓kC2_ok, ↓kC3_ok, ↓w_oNone, ↓w_oSome, ↓w_vO, ↓w_Chain, ↓kCh1_ok, ↓kCh2_ok, ↓kCh3_ok, ↓w_chA, ↓w_App, ↓w_Ins, ↓w_insG, ↓z_nx, ↓z_End, ↓z_Seq, ↓kT_nx, ↓kT_rt, ↓kT_bk, ↓kT_ct, ↓kT_exc, ↓z_If, ↓kIfS_ok, ↓kIfS_exc, ↓z_Ret, ↓kRet_ok, ↓kRet_exc, ↓z_Expr, ↓kNx_ok, ↓kNx_exc, ↓z_Asg, ↓kAs_ok, ↓kAs_exc, ↓z_tgO, t_N, t_T, t_nil, t_cons, t_G, t_gnil, t_gcons, t_bind, ↓z_Par, ↓kPar_ok, ↓z_Raise, ↓z_Break, ↓z_Cont, ↓z_For, ↓kSrc_ok, ↓w_Range, ↓w_rgF, ↓w_SeqI, ↓w_sqT, ↓w_Zip, ↓w_zpT, ↓w_Comp, ↓kCo_ok, ↓w_of, ↓kF_rt, ↓kF_nx, ↓kF_exc, ↓w_add, ↓w_sub, ↓w_pow10, ↓w_neg, ↓w_lt, ↓w_le, ↓w_gt, ↓w_ge, ↓w_ix0, ↓w_ix1, ↓w_ix2, ↓w_ix3, ↓w_eqI, ↓w_eqS, ↓w_eqT2, ↓w_abs, ↓w_lenT, ↓w_lenS, ↓w_max, ↓w_min, ↓w_intT, ↓w_intF, ↓w_isBool, ↓w_isTup, ↓w_tupT, ↓w_listT, ↓w_cutT, ↓brw_t, ↓brw_f, ↓brz_t, ↓brz_f, List.getElem?_cons_zero, List.getElem?_cons_succ, List.set_cons_zero, List.set_cons_succ, List.length_cons, List.length_nil, List.map_cons, List.map_nil, List.replicate, List.cons_append, List.nil_append, small, Nat.reduceAdd, Nat.reduceLeDiff, Nat.reduceEqDiff, Int.cast_ofNat_Int, Int.reduceBEq, BEq.rfl, ↓w_Yes, ↓w_bTru, ↓augF_ok, ↓z_Put, ↓putF_ok, ↓putG_ok, ↓w_isNn, ↓w_isNt, wipeF_nil, wipeF_cons, Int.reduceLE, Int.reduceLT, Int.reduceToNat, Int.reducePow, Int.reduceNeg, Int.reduceSub, Int.reduceAdd, Int.reduceMul, decide_true, decide_false, Bool.not_true, Bool.not_false, Bool.bne_false, Bool.bne_true, ↓w_aStar, ↓w_stT, ↓kSt_ok, ↓w_aDef, ↓kDf_ok, ↓w_Cnt, ↓w_Ext, ↓w_isBB, ↓w_isIB, ↓w_Enum, ↓w_enT, w_mul (k.bm.mk f.b2 (by omega) (by omega))]
  refine comp_mapT r.c dZ (by omega) (fun q => dZ (q.1 * t.2 + r.u * (t.1 - r.m * t.2), q.2 * t.2 + r.v * (t.1 - r.m * t.2))) ?_ fun h1 g1 n1 l1 => ?_
  · intro q hq
    refine ⟨_, rfl, fun h' Ψ g kq => ?_⟩
    have ib := (k.ib q hq).b1
    simp only [↓w_ok, ↓kB_ok, ↓kI_ok, ↓w_K, ↓w_V, ↓w_vR, ↓w_Op, ↓kO1_ok, ↓kO2_ok, ↓w_Un, ↓w_bOf, ↓w_isB, ↓kBl_ok, ↓kBl_exc, ↓kIf_ok, ↓kIf_exc, ↓w_okB, ↓w_okD, ↓w_bAnd, ↓w_bOr, ↓w_bNot, ↓kNot_ok, ↓kNot_exc, ↓w_eAnd, ↓w_eOr, ↓w_eNot, ↓kNotV_ok, ↓w_eIf, ↓w_aNil, ↓w_aCons, ↓kA1_ok, ↓kA2_ok, ↓kA1_exc, ↓kA2_exc, ↓w_Tup, ↓w_Lst, ↓w_mkT, ↓w_mkL, ↓w_Dct, ↓w_Dct2, ↓w_SoSe, ↓w_Call, ↓w_goS, ↓w_Bi, ↓w_Isi, ↓w_Cut, ↓kC1_ok, ↓kC2_ok, ↓kC3_ok, ↓w_oNone, ↓w_oSome, ↓w_vO, ↓w_Chain, ↓kCh1_ok, ↓kCh2_ok, ↓kCh3_ok, ↓w_chA, ↓w_App, ↓w_Ins, ↓w_insG, ↓z_nx, ↓z_End, ↓z_Seq, ↓kT_nx, ↓kT_rt, ↓kT_bk, ↓kT_ct, ↓kT_exc, ↓z_If, ↓kIfS_ok, ↓kIfS_exc, ↓z_Ret, ↓kRet_ok, ↓kRet_exc, ↓z_Expr, ↓kNx_ok, ↓kNx_exc, ↓z_Asg, ↓kAs_ok, ↓kAs_exc, ↓z_tgO, t_N, t_T, t_nil, t_cons, t_G, t_gnil, t_gcons, t_bind, ↓z_Par, ↓kPar_ok, ↓z_Raise, ↓z_Break, ↓z_Cont, ↓z_For, ↓kSrc_ok, ↓w_Range, ↓w_rgF, ↓w_SeqI, ↓w_sqT, ↓w_Zip, ↓w_zpT, ↓w_Comp, ↓kCo_ok, ↓w_of, ↓kF_rt, ↓kF_nx, ↓kF_exc, ↓w_add, ↓w_sub, ↓w_pow10, ↓w_neg, ↓w_lt, ↓w_le, ↓w_gt, ↓w_ge, ↓w_ix0, ↓w_ix1, ↓w_ix2, ↓w_ix3, ↓w_eqI, ↓w_eqS, ↓w_eqT2, ↓w_abs, ↓w_lenT, ↓w_lenS, ↓w_max, ↓w_min, ↓w_intT, ↓w_intF, ↓w_isBool, ↓w_isTup, ↓w_tupT, ↓w_listT, ↓w_cutT, ↓brw_t, ↓brw_f, ↓brz_t, ↓brz_f, List.getElem?_cons_zero, List.getElem?_cons_succ, List.set_cons_zero, List.set_cons_succ, List.length_cons, List.length_nil, List.map_cons, List.map_nil, List.replicate, List.cons_append, List.nil_append, small, Nat.reduceAdd, Nat.reduceLeDiff, Nat.reduceEqDiff, Int.cast_ofNat_Int, Int.reduceBEq, BEq.rfl, ↓w_Yes, ↓w_bTru, ↓augF_ok, ↓z_Put, ↓putF_ok, ↓putG_ok, ↓w_isNn, ↓w_isNt, wipeF_nil, wipeF_cons, Int.reduceLE, Int.reduceLT, Int.reduceToNat, Int.reducePow, Int.reduceNeg, Int.reduceSub, Int.reduceAdd, Int.reduceMul, decide_true, decide_false, Bool.not_true, Bool.not_false, Bool.bne_false, Bool.bne_true, ↓w_aStar, ↓w_stT, ↓kSt_ok, ↓w_aDef, ↓kDf_ok, ↓w_Cnt, ↓w_Ext, ↓w_isBB, ↓w_isIB, ↓w_Enum, ↓w_enT, w_mul (ib.1.mk f.b2 (by omega) (by omega)), w_mul (ib.2.mk f.b2 (by omega) (by omega)), w_mul (k.bu.mk bg (by omega) (by omega)), w_mul (k.bv.mk bg (by omega) (by omega))]
    exact kq h' (Gr.refl _)
  simp only [↓w_ok, ↓kB_ok, ↓kI_ok, ↓w_K, ↓w_V, ↓w_vR, ↓w_Op, ↓kO1_ok, ↓kO2_ok, ↓w_Un, ↓w_bOf, ↓w_isB, ↓kBl_ok, ↓kBl_exc, ↓kIf_ok, ↓kIf_exc, ↓w_okB, ↓w_okD, ↓w_bAnd, ↓w_bOr, ↓w_bNot, ↓kNot_ok, ↓kNot_exc, ↓w_eAnd, ↓w_eOr, ↓w_eNot, ↓kNotV_ok, ↓w_eIf, ↓w_aNil, ↓w_aCons, ↓kA1_ok, ↓kA2_ok, ↓kA1_exc, ↓kA2_exc, ↓w_Tup, ↓w_Lst, ↓w_mkT, ↓w_mkL, ↓w_Dct, ↓w_Dct2, ↓w_SoSe, ↓w_Call, ↓w_goS, ↓w_Bi, ↓w_Isi, ↓w_Cut, ↓kC1_ok, ↓kC2_ok, ↓kC3_ok, ↓w_oNone, ↓w_oSome, ↓w_vO, ↓w_Chain, ↓kCh1_ok, ↓kCh2_ok, ↓kCh3_ok, ↓w_chA, ↓w_App, ↓w_Ins, ↓w_insG, ↓z_nx, ↓z_End, ↓z_Seq, ↓kT_nx, ↓kT_rt, ↓kT_bk, ↓kT_ct, ↓kT_exc, ↓z_If, ↓kIfS_ok, ↓kIfS_exc, ↓z_Ret, ↓kRet_ok, ↓kRet_exc, ↓z_Expr, ↓kNx_ok, ↓kNx_exc, ↓z_Asg, ↓kAs_ok, ↓kAs_exc, ↓z_tgO, t_N, t_T, t_nil, t_cons, t_G, t_gnil, t_gcons, t_bind, ↓z_Par, ↓kPar_ok, ↓z_Raise, ↓z_Break, ↓z_Cont, ↓z_For, ↓kSrc_ok, ↓w_Range, ↓w_rgF, ↓w_SeqI, ↓w_sqT, ↓w_Zip, ↓w_zpT, ↓w_Comp, ↓kCo_ok, ↓w_of, ↓kF_rt, ↓kF_nx, ↓kF_exc, ↓w_add, ↓w_sub, ↓w_pow10, ↓w_neg, ↓w_lt, ↓w_le, ↓w_gt, ↓w_ge, ↓w_ix0, ↓w_ix1, ↓w_ix2, ↓w_ix3, ↓w_eqI, ↓w_eqS, ↓w_eqT2, ↓w_abs, ↓w_lenT, ↓w_lenS, ↓w_max, ↓w_min, ↓w_intT, ↓w_intF, ↓w_isBool, ↓w_isTup, ↓w_tupT, ↓w_listT, ↓w_cutT, ↓brw_t, ↓brw_f, ↓brz_t, ↓brz_f, List.getElem?_cons_zero, List.getElem?_cons_succ, List.set_cons_zero, List.set_cons_succ, List.length_cons, List.length_nil, List.map_cons, List.map_nil, List.replicate, List.cons_append, List.nil_append, small, Nat.reduceAdd, Nat.reduceLeDiff, Nat.reduceEqDiff, Int.cast_ofNat_Int, Int.reduceBEq, BEq.rfl, ↓w_Yes, ↓w_bTru, ↓augF_ok, ↓z_Put, ↓putF_ok, ↓putG_ok, ↓w_isNn, ↓w_isNt, wipeF_nil, wipeF_cons, Int.reduceLE, Int.reduceLT, Int.reduceToNat, Int.reducePow, Int.reduceNeg, Int.reduceSub, Int.reduceAdd, Int.reduceMul, decide_true, decide_false, Bool.not_true, Bool.not_false, Bool.bne_false, Bool.bne_true, ↓w_aStar, ↓w_stT, ↓kSt_ok, ↓w_aDef, ↓kDf_ok, ↓w_Cnt, ↓w_Ext, ↓w_isBB, ↓w_isIB, ↓w_Enum, ↓w_enT, w_tupL l1]
  have e : r.c.map (fun q => dZ (q.1 * t.2 + r.u * (t.1 - r.m * t.2), q.2 * t.2 + r.v * (t.1 - r.m * t.2))) = (mvd r t).map dZ := by
    unfold mvd; rw [List.map_map]; rfl
  rw [e]
  exact kk h1 g1
/-- as the law has them: a list -/
theorem lawat_w {B : Nat} {r : Row} {t : Qp} (k : RwOk r) (f : Bq B t) (hB : B ≤ 1000) (kk : ∀ h1, Gr h h1 → h.length < h1.length → lstAt h1 h.length = some ((mvd r t).map dZ) → Φ (.ok (.ref h.length) h1)) : W (S__law_at [dRw r, dq t] h) Φ := by
  have c8 := k.rn.le
  have bg := gone_bd k f
  unfold S__law_at
  simp only [↓w_ok, ↓kB_ok, ↓kI_ok, ↓w_K, ↓w_V, ↓w_vR, ↓w_Op, ↓kO1_ok, ↓kO2_ok, ↓w_Un, ↓w_bOf, ↓w_isB, ↓kBl_ok, ↓kBl_exc, ↓kIf_ok, ↓kIf_exc, ↓w_okB, ↓w_okD, ↓w_bAnd, ↓w_bOr, ↓w_bNot, ↓kNot_ok, ↓kNot_exc, ↓w_eAnd, ↓w_eOr, ↓w_eNot, ↓kNotV_ok, ↓w_eIf, ↓w_aNil, ↓w_aCons, ↓kA1_ok, ↓kA2_ok, ↓kA1_exc, ↓kA2_exc, ↓w_Tup, ↓w_Lst, ↓w_mkT, ↓w_mkL, ↓w_Dct, ↓w_Dct2, ↓w_SoSe, ↓w_Call, ↓w_goS, ↓w_Bi, ↓w_Isi, ↓w_Cut, ↓kC1_ok, ↓kC2_ok, ↓kC3_ok, ↓w_oNone, ↓w_oSome, ↓w_vO, ↓w_Chain, ↓kCh1_ok, ↓kCh2_ok, ↓kCh3_ok, ↓w_chA, ↓w_App, ↓w_Ins, ↓w_insG, ↓z_nx, ↓z_End, ↓z_Seq, ↓kT_nx, ↓kT_rt, ↓kT_bk, ↓kT_ct, ↓kT_exc, ↓z_If, ↓kIfS_ok, ↓kIfS_exc, ↓z_Ret, ↓kRet_ok, ↓kRet_exc, ↓z_Expr, ↓kNx_ok, ↓kNx_exc, ↓z_Asg, ↓kAs_ok, ↓kAs_exc, ↓z_tgO, t_N, t_T, t_nil, t_cons, t_G, t_gnil, t_gcons, t_bind, ↓z_Par, ↓kPar_ok, ↓z_Raise, ↓z_Break, ↓z_Cont, ↓z_For, ↓kSrc_ok, ↓w_Range, ↓w_rgF, ↓w_SeqI, ↓w_sqT, ↓w_Zip, ↓w_zpT, ↓w_Comp, ↓kCo_ok, ↓w_of, ↓kF_rt, ↓kF_nx, ↓kF_exc, ↓w_add, ↓w_sub, ↓w_pow10, ↓w_neg, ↓w_lt, ↓w_le, ↓w_gt, ↓w_ge, ↓w_ix0, ↓w_ix1, ↓w_ix2, ↓w_ix3, ↓w_eqI, ↓w_eqS, ↓w_eqT2, ↓w_abs, ↓w_lenT, ↓w_lenS, ↓w_max, ↓w_min, ↓w_intT, ↓w_intF, ↓w_isBool, ↓w_isTup, ↓w_tupT, ↓w_listT, ↓w_cutT, ↓brw_t, ↓brw_f, ↓brz_t, ↓brz_f, List.getElem?_cons_zero, List.getElem?_cons_succ, List.set_cons_zero, List.set_cons_succ, List.length_cons, List.length_nil, List.map_cons, List.map_nil, List.replicate, List.cons_append, List.nil_append, small, Nat.reduceAdd, Nat.reduceLeDiff, Nat.reduceEqDiff, Int.cast_ofNat_Int, Int.reduceBEq, BEq.rfl, ↓w_Yes, ↓w_bTru, ↓augF_ok, ↓z_Put, ↓putF_ok, ↓putG_ok, ↓w_isNn, ↓w_isNt, wipeF_nil, wipeF_cons, Int.reduceLE, Int.reduceLT, Int.reduceToNat, Int.reducePow, Int.reduceNeg, Int.reduceSub, Int.reduceAdd, Int.reduceMul, decide_true, decide_false, Bool.not_true, Bool.not_false, Bool.bne_false, Bool.bne_true, ↓w_aStar, ↓w_stT, ↓kSt_ok, ↓w_aDef, ↓kDf_ok, ↓w_Cnt, ↓w_Ext, ↓w_isBB, ↓w_isIB, ↓w_Enum, ↓w_enT, isTN, w_mul (k.bm.mk f.b2 (by omega) (by omega))]
  refine comp_mapT r.c dZ (by omega) (fun q => dZ (q.1 * t.2 + r.u * (t.1 - r.m * t.2), q.2 * t.2 + r.v * (t.1 - r.m * t.2))) ?_ fun h1 g1 n1 l1 => ?_
  · intro q hq
    refine ⟨_, rfl, fun h' Ψ g kq => ?_⟩
    have ib := (k.ib q hq).b1
    simp only [↓w_ok, ↓kB_ok, ↓kI_ok, ↓w_K, ↓w_V, ↓w_vR, ↓w_Op, ↓kO1_ok, ↓kO2_ok, ↓w_Un, ↓w_bOf, ↓w_isB, ↓kBl_ok, ↓kBl_exc, ↓kIf_ok, ↓kIf_exc, ↓w_okB, ↓w_okD, ↓w_bAnd, ↓w_bOr, ↓w_bNot, ↓kNot_ok, ↓kNot_exc, ↓w_eAnd, ↓w_eOr, ↓w_eNot, ↓kNotV_ok, ↓w_eIf, ↓w_aNil, ↓w_aCons, ↓kA1_ok, ↓kA2_ok, ↓kA1_exc, ↓kA2_exc, ↓w_Tup, ↓w_Lst, ↓w_mkT, ↓w_mkL, ↓w_Dct, ↓w_Dct2, ↓w_SoSe, ↓w_Call, ↓w_goS, ↓w_Bi, ↓w_Isi, ↓w_Cut, ↓kC1_ok, ↓kC2_ok, ↓kC3_ok, ↓w_oNone, ↓w_oSome, ↓w_vO, ↓w_Chain, ↓kCh1_ok, ↓kCh2_ok, ↓kCh3_ok, ↓w_chA, ↓w_App, ↓w_Ins, ↓w_insG, ↓z_nx, ↓z_End, ↓z_Seq, ↓kT_nx, ↓kT_rt, ↓kT_bk, ↓kT_ct, ↓kT_exc, ↓z_If, ↓kIfS_ok, ↓kIfS_exc, ↓z_Ret, ↓kRet_ok, ↓kRet_exc, ↓z_Expr, ↓kNx_ok, ↓kNx_exc, ↓z_Asg, ↓kAs_ok, ↓kAs_exc, ↓z_tgO, t_N, t_T, t_nil, t_cons, t_G, t_gnil, t_gcons, t_bind, ↓z_Par, ↓kPar_ok, ↓z_Raise, ↓z_Break, ↓z_Cont, ↓z_For, ↓kSrc_ok, ↓w_Range, ↓w_rgF, ↓w_SeqI, ↓w_sqT, ↓w_Zip, ↓w_zpT, ↓w_Comp, ↓kCo_ok, ↓w_of, ↓kF_rt, ↓kF_nx, ↓kF_exc, ↓w_add, ↓w_sub, ↓w_pow10, ↓w_neg, ↓w_lt, ↓w_le, ↓w_gt, ↓w_ge, ↓w_ix0, ↓w_ix1, ↓w_ix2, ↓w_ix3, ↓w_eqI, ↓w_eqS, ↓w_eqT2, ↓w_abs, ↓w_lenT, ↓w_lenS, ↓w_max, ↓w_min, ↓w_intT, ↓w_intF, ↓w_isBool, ↓w_isTup, ↓w_tupT, ↓w_listT, ↓w_cutT, ↓brw_t, ↓brw_f, ↓brz_t, ↓brz_f, List.getElem?_cons_zero, List.getElem?_cons_succ, List.set_cons_zero, List.set_cons_succ, List.length_cons, List.length_nil, List.map_cons, List.map_nil, List.replicate, List.cons_append, List.nil_append, small, Nat.reduceAdd, Nat.reduceLeDiff, Nat.reduceEqDiff, Int.cast_ofNat_Int, Int.reduceBEq, BEq.rfl, ↓w_Yes, ↓w_bTru, ↓augF_ok, ↓z_Put, ↓putF_ok, ↓putG_ok, ↓w_isNn, ↓w_isNt, wipeF_nil, wipeF_cons, Int.reduceLE, Int.reduceLT, Int.reduceToNat, Int.reducePow, Int.reduceNeg, Int.reduceSub, Int.reduceAdd, Int.reduceMul, decide_true, decide_false, Bool.not_true, Bool.not_false, Bool.bne_false, Bool.bne_true, ↓w_aStar, ↓w_stT, ↓kSt_ok, ↓w_aDef, ↓kDf_ok, ↓w_Cnt, ↓w_Ext, ↓w_isBB, ↓w_isIB, ↓w_Enum, ↓w_enT, w_mul (ib.1.mk f.b2 (by omega) (by omega)), w_mul (ib.2.mk f.b2 (by omega) (by omega)), w_mul (k.bu.mk bg (by omega) (by omega)), w_mul (k.bv.mk bg (by omega) (by omega))]
    exact kq h' (Gr.refl _)
  have e : r.c.map (fun q => dZ (q.1 * t.2 + r.u * (t.1 - r.m * t.2), q.2 * t.2 + r.v * (t.1 - r.m * t.2))) = (mvd r t).map dZ := by
    unfold mvd; rw [List.map_map]; rfl
  rw [e] at l1
  simp only [↓w_ok, ↓kB_ok, ↓kI_ok, ↓w_K, ↓w_V, ↓w_vR, ↓w_Op, ↓kO1_ok, ↓kO2_ok, ↓w_Un, ↓w_bOf, ↓w_isB, ↓kBl_ok, ↓kBl_exc, ↓kIf_ok, ↓kIf_exc, ↓w_okB, ↓w_okD, ↓w_bAnd, ↓w_bOr, ↓w_bNot, ↓kNot_ok, ↓kNot_exc, ↓w_eAnd, ↓w_eOr, ↓w_eNot, ↓kNotV_ok, ↓w_eIf, ↓w_aNil, ↓w_aCons, ↓kA1_ok, ↓kA2_ok, ↓kA1_exc, ↓kA2_exc, ↓w_Tup, ↓w_Lst, ↓w_mkT, ↓w_mkL, ↓w_Dct, ↓w_Dct2, ↓w_SoSe, ↓w_Call, ↓w_goS, ↓w_Bi, ↓w_Isi, ↓w_Cut, ↓kC1_ok, ↓kC2_ok, ↓kC3_ok, ↓w_oNone, ↓w_oSome, ↓w_vO, ↓w_Chain, ↓kCh1_ok, ↓kCh2_ok, ↓kCh3_ok, ↓w_chA, ↓w_App, ↓w_Ins, ↓w_insG, ↓z_nx, ↓z_End, ↓z_Seq, ↓kT_nx, ↓kT_rt, ↓kT_bk, ↓kT_ct, ↓kT_exc, ↓z_If, ↓kIfS_ok, ↓kIfS_exc, ↓z_Ret, ↓kRet_ok, ↓kRet_exc, ↓z_Expr, ↓kNx_ok, ↓kNx_exc, ↓z_Asg, ↓kAs_ok, ↓kAs_exc, ↓z_tgO, t_N, t_T, t_nil, t_cons, t_G, t_gnil, t_gcons, t_bind, ↓z_Par, ↓kPar_ok, ↓z_Raise, ↓z_Break, ↓z_Cont, ↓z_For, ↓kSrc_ok, ↓w_Range, ↓w_rgF, ↓w_SeqI, ↓w_sqT, ↓w_Zip, ↓w_zpT, ↓w_Comp, ↓kCo_ok, ↓w_of, ↓kF_rt, ↓kF_nx, ↓kF_exc, ↓w_add, ↓w_sub, ↓w_pow10, ↓w_neg, ↓w_lt, ↓w_le, ↓w_gt, ↓w_ge, ↓w_ix0, ↓w_ix1, ↓w_ix2, ↓w_ix3, ↓w_eqI, ↓w_eqS, ↓w_eqT2, ↓w_abs, ↓w_lenT, ↓w_lenS, ↓w_max, ↓w_min, ↓w_intT, ↓w_intF, ↓w_isBool, ↓w_isTup, ↓w_tupT, ↓w_listT, ↓w_cutT, ↓brw_t, ↓brw_f, ↓brz_t, ↓brz_f, List.getElem?_cons_zero, List.getElem?_cons_succ, List.set_cons_zero, List.set_cons_succ, List.length_cons, List.length_nil, List.map_cons, List.map_nil, List.replicate, List.cons_append, List.nil_append, small, Nat.reduceAdd, Nat.reduceLeDiff, Nat.reduceEqDiff, Int.cast_ofNat_Int, Int.reduceBEq, BEq.rfl, ↓w_Yes, ↓w_bTru, ↓augF_ok, ↓z_Put, ↓putF_ok, ↓putG_ok, ↓w_isNn, ↓w_isNt, wipeF_nil, wipeF_cons, Int.reduceLE, Int.reduceLT, Int.reduceToNat, Int.reducePow, Int.reduceNeg, Int.reduceSub, Int.reduceAdd, Int.reduceMul, decide_true, decide_false, Bool.not_true, Bool.not_false, Bool.bne_false, Bool.bne_true, ↓w_aStar, ↓w_stT, ↓kSt_ok, ↓w_aDef, ↓kDf_ok, ↓w_Cnt, ↓w_Ext, ↓w_isBB, ↓w_isIB, ↓w_Enum, ↓w_enT]
  exact kk h1 g1 n1 l1
/-- a drawn pace -/
theorem pace_w (P : PotAt h p n) (hn : n < 990000) (k : ∀ (u v : Int) h1, -1000000 ≤ u → u ≤ 1000000 → -1000000 ≤ v → v ≤ 1000000 → PotAt h1 p (n + 3) → Step p h h1 → Φ (.ok (.tup [.int u, .int v]) h1)) : W (S__law_pace [.ref p] h) Φ := by
  unfold S__law_pace
  simp only [↓w_ok, ↓kB_ok, ↓kI_ok, ↓w_K, ↓w_V, ↓w_vR, ↓w_Op, ↓kO1_ok, ↓kO2_ok, ↓w_Un, ↓w_bOf, ↓w_isB, ↓kBl_ok, ↓kBl_exc, ↓kIf_ok, ↓kIf_exc, ↓w_okB, ↓w_okD, ↓w_bAnd, ↓w_bOr, ↓w_bNot, ↓kNot_ok, ↓kNot_exc, ↓w_eAnd, ↓w_eOr, ↓w_eNot, ↓kNotV_ok, ↓w_eIf, ↓w_aNil, ↓w_aCons, ↓kA1_ok, ↓kA2_ok, ↓kA1_exc, ↓kA2_exc, ↓w_Tup, ↓w_Lst, ↓w_mkT, ↓w_mkL, ↓w_Dct, ↓w_Dct2, ↓w_SoSe, ↓w_Call, ↓w_goS, ↓w_Bi, ↓w_Isi, ↓w_Cut, ↓kC1_ok, ↓kC2_ok, ↓kC3_ok, ↓w_oNone, ↓w_oSome, ↓w_vO, ↓w_Chain, ↓kCh1_ok, ↓kCh2_ok, ↓kCh3_ok, ↓w_chA, ↓w_App, ↓w_Ins, ↓w_insG, ↓z_nx, ↓z_End, ↓z_Seq, ↓kT_nx, ↓kT_rt, ↓kT_bk, ↓kT_ct, ↓kT_exc, ↓z_If, ↓kIfS_ok, ↓kIfS_exc, ↓z_Ret, ↓kRet_ok, ↓kRet_exc, ↓z_Expr, ↓kNx_ok, ↓kNx_exc, ↓z_Asg, ↓kAs_ok, ↓kAs_exc, ↓z_tgO, t_N, t_T, t_nil, t_cons, t_G, t_gnil, t_gcons, t_bind, ↓z_Par, ↓kPar_ok, ↓z_Raise, ↓z_Break, ↓z_Cont, ↓z_For, ↓kSrc_ok, ↓w_Range, ↓w_rgF, ↓w_SeqI, ↓w_sqT, ↓w_Zip, ↓w_zpT, ↓w_Comp, ↓kCo_ok, ↓w_of, ↓kF_rt, ↓kF_nx, ↓kF_exc, ↓w_add, ↓w_sub, ↓w_pow10, ↓w_neg, ↓w_lt, ↓w_le, ↓w_gt, ↓w_ge, ↓w_ix0, ↓w_ix1, ↓w_ix2, ↓w_ix3, ↓w_eqI, ↓w_eqS, ↓w_eqT2, ↓w_abs, ↓w_lenT, ↓w_lenS, ↓w_max, ↓w_min, ↓w_intT, ↓w_intF, ↓w_isBool, ↓w_isTup, ↓w_tupT, ↓w_listT, ↓w_cutT, ↓brw_t, ↓brw_f, ↓brz_t, ↓brz_f, List.getElem?_cons_zero, List.getElem?_cons_succ, List.set_cons_zero, List.set_cons_succ, List.length_cons, List.length_nil, List.map_cons, List.map_nil, List.replicate, List.cons_append, List.nil_append, small, Nat.reduceAdd, Nat.reduceLeDiff, Nat.reduceEqDiff, Int.cast_ofNat_Int, Int.reduceBEq, BEq.rfl, ↓w_Yes, ↓w_bTru, ↓augF_ok, ↓z_Put, ↓putF_ok, ↓putG_ok, ↓w_isNn, ↓w_isNt, wipeF_nil, wipeF_cons, Int.reduceLE, Int.reduceLT, Int.reduceToNat, Int.reducePow, Int.reduceNeg, Int.reduceSub, Int.reduceAdd, Int.reduceMul, decide_true, decide_false, Bool.not_true, Bool.not_false, Bool.bne_false, Bool.bne_true, ↓w_aStar, ↓w_stT, ↓kSt_ok, ↓w_aDef, ↓kDf_ok, ↓w_Cnt, ↓w_Ext, ↓w_isBB, ↓w_isIB, ↓w_Enum, ↓w_enT]
  refine take_w (P.app _) (by omega) (by decide) (by decide) fun i h1 i0 i1 P1 S1 => ?_
  have l1 := S1.lst (by have := P.lt; omega) (lst_new h _)
  simp only [↓w_ok, ↓kB_ok, ↓kI_ok, ↓w_K, ↓w_V, ↓w_vR, ↓w_Op, ↓kO1_ok, ↓kO2_ok, ↓w_Un, ↓w_bOf, ↓w_isB, ↓kBl_ok, ↓kBl_exc, ↓kIf_ok, ↓kIf_exc, ↓w_okB, ↓w_okD, ↓w_bAnd, ↓w_bOr, ↓w_bNot, ↓kNot_ok, ↓kNot_exc, ↓w_eAnd, ↓w_eOr, ↓w_eNot, ↓kNotV_ok, ↓w_eIf, ↓w_aNil, ↓w_aCons, ↓kA1_ok, ↓kA2_ok, ↓kA1_exc, ↓kA2_exc, ↓w_Tup, ↓w_Lst, ↓w_mkT, ↓w_mkL, ↓w_Dct, ↓w_Dct2, ↓w_SoSe, ↓w_Call, ↓w_goS, ↓w_Bi, ↓w_Isi, ↓w_Cut, ↓kC1_ok, ↓kC2_ok, ↓kC3_ok, ↓w_oNone, ↓w_oSome, ↓w_vO, ↓w_Chain, ↓kCh1_ok, ↓kCh2_ok, ↓kCh3_ok, ↓w_chA, ↓w_App, ↓w_Ins, ↓w_insG, ↓z_nx, ↓z_End, ↓z_Seq, ↓kT_nx, ↓kT_rt, ↓kT_bk, ↓kT_ct, ↓kT_exc, ↓z_If, ↓kIfS_ok, ↓kIfS_exc, ↓z_Ret, ↓kRet_ok, ↓kRet_exc, ↓z_Expr, ↓kNx_ok, ↓kNx_exc, ↓z_Asg, ↓kAs_ok, ↓kAs_exc, ↓z_tgO, t_N, t_T, t_nil, t_cons, t_G, t_gnil, t_gcons, t_bind, ↓z_Par, ↓kPar_ok, ↓z_Raise, ↓z_Break, ↓z_Cont, ↓z_For, ↓kSrc_ok, ↓w_Range, ↓w_rgF, ↓w_SeqI, ↓w_sqT, ↓w_Zip, ↓w_zpT, ↓w_Comp, ↓kCo_ok, ↓w_of, ↓kF_rt, ↓kF_nx, ↓kF_exc, ↓w_add, ↓w_sub, ↓w_pow10, ↓w_neg, ↓w_lt, ↓w_le, ↓w_gt, ↓w_ge, ↓w_ix0, ↓w_ix1, ↓w_ix2, ↓w_ix3, ↓w_eqI, ↓w_eqS, ↓w_eqT2, ↓w_abs, ↓w_lenT, ↓w_lenS, ↓w_max, ↓w_min, ↓w_intT, ↓w_intF, ↓w_isBool, ↓w_isTup, ↓w_tupT, ↓w_listT, ↓w_cutT, ↓brw_t, ↓brw_f, ↓brz_t, ↓brz_f, List.getElem?_cons_zero, List.getElem?_cons_succ, List.set_cons_zero, List.set_cons_succ, List.length_cons, List.length_nil, List.map_cons, List.map_nil, List.replicate, List.cons_append, List.nil_append, small, Nat.reduceAdd, Nat.reduceLeDiff, Nat.reduceEqDiff, Int.cast_ofNat_Int, Int.reduceBEq, BEq.rfl, ↓w_Yes, ↓w_bTru, ↓augF_ok, ↓z_Put, ↓putF_ok, ↓putG_ok, ↓w_isNn, ↓w_isNt, wipeF_nil, wipeF_cons, Int.reduceLE, Int.reduceLT, Int.reduceToNat, Int.reducePow, Int.reduceNeg, Int.reduceSub, Int.reduceAdd, Int.reduceMul, decide_true, decide_false, Bool.not_true, Bool.not_false, Bool.bne_false, Bool.bne_true, ↓w_aStar, ↓w_stT, ↓kSt_ok, ↓w_aDef, ↓kDf_ok, ↓w_Cnt, ↓w_Ext, ↓w_isBB, ↓w_isIB, ↓w_Enum, ↓w_enT]
  refine w_ixP (intIn 0 1000000) l1 i0 (by simpa using i1) (by simp [intIn]) ?_
  rintro _ ⟨top, rfl, t0, t1⟩
  have mo : mulOk 2 top = true := Bd.mk (A := 3) (B := 40) (Bd.of (by decide) (by decide)) (Bd.of (by omega) (by omega))
  simp only [↓w_ok, ↓kB_ok, ↓kI_ok, ↓w_K, ↓w_V, ↓w_vR, ↓w_Op, ↓kO1_ok, ↓kO2_ok, ↓w_Un, ↓w_bOf, ↓w_isB, ↓kBl_ok, ↓kBl_exc, ↓kIf_ok, ↓kIf_exc, ↓w_okB, ↓w_okD, ↓w_bAnd, ↓w_bOr, ↓w_bNot, ↓kNot_ok, ↓kNot_exc, ↓w_eAnd, ↓w_eOr, ↓w_eNot, ↓kNotV_ok, ↓w_eIf, ↓w_aNil, ↓w_aCons, ↓kA1_ok, ↓kA2_ok, ↓kA1_exc, ↓kA2_exc, ↓w_Tup, ↓w_Lst, ↓w_mkT, ↓w_mkL, ↓w_Dct, ↓w_Dct2, ↓w_SoSe, ↓w_Call, ↓w_goS, ↓w_Bi, ↓w_Isi, ↓w_Cut, ↓kC1_ok, ↓kC2_ok, ↓kC3_ok, ↓w_oNone, ↓w_oSome, ↓w_vO, ↓w_Chain, ↓kCh1_ok, ↓kCh2_ok, ↓kCh3_ok, ↓w_chA, ↓w_App, ↓w_Ins, ↓w_insG, ↓z_nx, ↓z_End, ↓z_Seq, ↓kT_nx, ↓kT_rt, ↓kT_bk, ↓kT_ct, ↓kT_exc, ↓z_If, ↓kIfS_ok, ↓kIfS_exc, ↓z_Ret, ↓kRet_ok, ↓kRet_exc, ↓z_Expr, ↓kNx_ok, ↓kNx_exc, ↓z_Asg, ↓kAs_ok, ↓kAs_exc, ↓z_tgO, t_N, t_T, t_nil, t_cons, t_G, t_gnil, t_gcons, t_bind, ↓z_Par, ↓kPar_ok, ↓z_Raise, ↓z_Break, ↓z_Cont, ↓z_For, ↓kSrc_ok, ↓w_Range, ↓w_rgF, ↓w_SeqI, ↓w_sqT, ↓w_Zip, ↓w_zpT, ↓w_Comp, ↓kCo_ok, ↓w_of, ↓kF_rt, ↓kF_nx, ↓kF_exc, ↓w_add, ↓w_sub, ↓w_pow10, ↓w_neg, ↓w_lt, ↓w_le, ↓w_gt, ↓w_ge, ↓w_ix0, ↓w_ix1, ↓w_ix2, ↓w_ix3, ↓w_eqI, ↓w_eqS, ↓w_eqT2, ↓w_abs, ↓w_lenT, ↓w_lenS, ↓w_max, ↓w_min, ↓w_intT, ↓w_intF, ↓w_isBool, ↓w_isTup, ↓w_tupT, ↓w_listT, ↓w_cutT, ↓brw_t, ↓brw_f, ↓brz_t, ↓brz_f, List.getElem?_cons_zero, List.getElem?_cons_succ, List.set_cons_zero, List.set_cons_succ, List.length_cons, List.length_nil, List.map_cons, List.map_nil, List.replicate, List.cons_append, List.nil_append, small, Nat.reduceAdd, Nat.reduceLeDiff, Nat.reduceEqDiff, Int.cast_ofNat_Int, Int.reduceBEq, BEq.rfl, ↓w_Yes, ↓w_bTru, ↓augF_ok, ↓z_Put, ↓putF_ok, ↓putG_ok, ↓w_isNn, ↓w_isNt, wipeF_nil, wipeF_cons, Int.reduceLE, Int.reduceLT, Int.reduceToNat, Int.reducePow, Int.reduceNeg, Int.reduceSub, Int.reduceAdd, Int.reduceMul, decide_true, decide_false, Bool.not_true, Bool.not_false, Bool.bne_false, Bool.bne_true, ↓w_aStar, ↓w_stT, ↓kSt_ok, ↓w_aDef, ↓kDf_ok, ↓w_Cnt, ↓w_Ext, ↓w_isBB, ↓w_isIB, ↓w_Enum, ↓w_enT, w_mul mo]
  refine take_w P1 (by omega) (by omega) (Int.lt_of_le_of_lt (show 2 * top + 1 ≤ 2 * 1000000 + 1 by omega) (by decide)) fun x h2 x0 x1 P2 S2 => ?_
  simp only [↓w_ok, ↓kB_ok, ↓kI_ok, ↓w_K, ↓w_V, ↓w_vR, ↓w_Op, ↓kO1_ok, ↓kO2_ok, ↓w_Un, ↓w_bOf, ↓w_isB, ↓kBl_ok, ↓kBl_exc, ↓kIf_ok, ↓kIf_exc, ↓w_okB, ↓w_okD, ↓w_bAnd, ↓w_bOr, ↓w_bNot, ↓kNot_ok, ↓kNot_exc, ↓w_eAnd, ↓w_eOr, ↓w_eNot, ↓kNotV_ok, ↓w_eIf, ↓w_aNil, ↓w_aCons, ↓kA1_ok, ↓kA2_ok, ↓kA1_exc, ↓kA2_exc, ↓w_Tup, ↓w_Lst, ↓w_mkT, ↓w_mkL, ↓w_Dct, ↓w_Dct2, ↓w_SoSe, ↓w_Call, ↓w_goS, ↓w_Bi, ↓w_Isi, ↓w_Cut, ↓kC1_ok, ↓kC2_ok, ↓kC3_ok, ↓w_oNone, ↓w_oSome, ↓w_vO, ↓w_Chain, ↓kCh1_ok, ↓kCh2_ok, ↓kCh3_ok, ↓w_chA, ↓w_App, ↓w_Ins, ↓w_insG, ↓z_nx, ↓z_End, ↓z_Seq, ↓kT_nx, ↓kT_rt, ↓kT_bk, ↓kT_ct, ↓kT_exc, ↓z_If, ↓kIfS_ok, ↓kIfS_exc, ↓z_Ret, ↓kRet_ok, ↓kRet_exc, ↓z_Expr, ↓kNx_ok, ↓kNx_exc, ↓z_Asg, ↓kAs_ok, ↓kAs_exc, ↓z_tgO, t_N, t_T, t_nil, t_cons, t_G, t_gnil, t_gcons, t_bind, ↓z_Par, ↓kPar_ok, ↓z_Raise, ↓z_Break, ↓z_Cont, ↓z_For, ↓kSrc_ok, ↓w_Range, ↓w_rgF, ↓w_SeqI, ↓w_sqT, ↓w_Zip, ↓w_zpT, ↓w_Comp, ↓kCo_ok, ↓w_of, ↓kF_rt, ↓kF_nx, ↓kF_exc, ↓w_add, ↓w_sub, ↓w_pow10, ↓w_neg, ↓w_lt, ↓w_le, ↓w_gt, ↓w_ge, ↓w_ix0, ↓w_ix1, ↓w_ix2, ↓w_ix3, ↓w_eqI, ↓w_eqS, ↓w_eqT2, ↓w_abs, ↓w_lenT, ↓w_lenS, ↓w_max, ↓w_min, ↓w_intT, ↓w_intF, ↓w_isBool, ↓w_isTup, ↓w_tupT, ↓w_listT, ↓w_cutT, ↓brw_t, ↓brw_f, ↓brz_t, ↓brz_f, List.getElem?_cons_zero, List.getElem?_cons_succ, List.set_cons_zero, List.set_cons_succ, List.length_cons, List.length_nil, List.map_cons, List.map_nil, List.replicate, List.cons_append, List.nil_append, small, Nat.reduceAdd, Nat.reduceLeDiff, Nat.reduceEqDiff, Int.cast_ofNat_Int, Int.reduceBEq, BEq.rfl, ↓w_Yes, ↓w_bTru, ↓augF_ok, ↓z_Put, ↓putF_ok, ↓putG_ok, ↓w_isNn, ↓w_isNt, wipeF_nil, wipeF_cons, Int.reduceLE, Int.reduceLT, Int.reduceToNat, Int.reducePow, Int.reduceNeg, Int.reduceSub, Int.reduceAdd, Int.reduceMul, decide_true, decide_false, Bool.not_true, Bool.not_false, Bool.bne_false, Bool.bne_true, ↓w_aStar, ↓w_stT, ↓kSt_ok, ↓w_aDef, ↓kDf_ok, ↓w_Cnt, ↓w_Ext, ↓w_isBB, ↓w_isIB, ↓w_Enum, ↓w_enT, w_mul mo]
  refine take_w P2 (by omega) (by omega) (Int.lt_of_le_of_lt (show 2 * top + 1 ≤ 2 * 1000000 + 1 by omega) (by decide)) fun y h3 y0 y1 P3 S3 => ?_
  simp only [↓w_ok, ↓kB_ok, ↓kI_ok, ↓w_K, ↓w_V, ↓w_vR, ↓w_Op, ↓kO1_ok, ↓kO2_ok, ↓w_Un, ↓w_bOf, ↓w_isB, ↓kBl_ok, ↓kBl_exc, ↓kIf_ok, ↓kIf_exc, ↓w_okB, ↓w_okD, ↓w_bAnd, ↓w_bOr, ↓w_bNot, ↓kNot_ok, ↓kNot_exc, ↓w_eAnd, ↓w_eOr, ↓w_eNot, ↓kNotV_ok, ↓w_eIf, ↓w_aNil, ↓w_aCons, ↓kA1_ok, ↓kA2_ok, ↓kA1_exc, ↓kA2_exc, ↓w_Tup, ↓w_Lst, ↓w_mkT, ↓w_mkL, ↓w_Dct, ↓w_Dct2, ↓w_SoSe, ↓w_Call, ↓w_goS, ↓w_Bi, ↓w_Isi, ↓w_Cut, ↓kC1_ok, ↓kC2_ok, ↓kC3_ok, ↓w_oNone, ↓w_oSome, ↓w_vO, ↓w_Chain, ↓kCh1_ok, ↓kCh2_ok, ↓kCh3_ok, ↓w_chA, ↓w_App, ↓w_Ins, ↓w_insG, ↓z_nx, ↓z_End, ↓z_Seq, ↓kT_nx, ↓kT_rt, ↓kT_bk, ↓kT_ct, ↓kT_exc, ↓z_If, ↓kIfS_ok, ↓kIfS_exc, ↓z_Ret, ↓kRet_ok, ↓kRet_exc, ↓z_Expr, ↓kNx_ok, ↓kNx_exc, ↓z_Asg, ↓kAs_ok, ↓kAs_exc, ↓z_tgO, t_N, t_T, t_nil, t_cons, t_G, t_gnil, t_gcons, t_bind, ↓z_Par, ↓kPar_ok, ↓z_Raise, ↓z_Break, ↓z_Cont, ↓z_For, ↓kSrc_ok, ↓w_Range, ↓w_rgF, ↓w_SeqI, ↓w_sqT, ↓w_Zip, ↓w_zpT, ↓w_Comp, ↓kCo_ok, ↓w_of, ↓kF_rt, ↓kF_nx, ↓kF_exc, ↓w_add, ↓w_sub, ↓w_pow10, ↓w_neg, ↓w_lt, ↓w_le, ↓w_gt, ↓w_ge, ↓w_ix0, ↓w_ix1, ↓w_ix2, ↓w_ix3, ↓w_eqI, ↓w_eqS, ↓w_eqT2, ↓w_abs, ↓w_lenT, ↓w_lenS, ↓w_max, ↓w_min, ↓w_intT, ↓w_intF, ↓w_isBool, ↓w_isTup, ↓w_tupT, ↓w_listT, ↓w_cutT, ↓brw_t, ↓brw_f, ↓brz_t, ↓brz_f, List.getElem?_cons_zero, List.getElem?_cons_succ, List.set_cons_zero, List.set_cons_succ, List.length_cons, List.length_nil, List.map_cons, List.map_nil, List.replicate, List.cons_append, List.nil_append, small, Nat.reduceAdd, Nat.reduceLeDiff, Nat.reduceEqDiff, Int.cast_ofNat_Int, Int.reduceBEq, BEq.rfl, ↓w_Yes, ↓w_bTru, ↓augF_ok, ↓z_Put, ↓putF_ok, ↓putG_ok, ↓w_isNn, ↓w_isNt, wipeF_nil, wipeF_cons, Int.reduceLE, Int.reduceLT, Int.reduceToNat, Int.reducePow, Int.reduceNeg, Int.reduceSub, Int.reduceAdd, Int.reduceMul, decide_true, decide_false, Bool.not_true, Bool.not_false, Bool.bne_false, Bool.bne_true, ↓w_aStar, ↓w_stT, ↓kSt_ok, ↓w_aDef, ↓kDf_ok, ↓w_Cnt, ↓w_Ext, ↓w_isBB, ↓w_isIB, ↓w_Enum, ↓w_enT]
  exact k _ _ _ (by omega) (by omega) (by omega) (by omega) (P3.mono (by omega)) (S1.cut.trans (S2.trans S3))
def bxN (r : Row) : Zp × Zp × Zp × Zp := ((bxL r.c - r.u * r.m, r.u), (bxD r.c - r.v * r.m, r.v), (bxR r.c - r.u * r.m, r.u), (bxU r.c - r.v * r.m, r.v))
theorem boxn_w {r : Row} (k : RwOk r) (kk : ∀ h1, Gr h h1 → Φ (.ok (.tup [dZ (bxN r).1, dZ (bxN r).2.1, dZ (bxN r).2.2.1, dZ (bxN r).2.2.2]) h1)) : W (S_box_numbers [dRw r] h) Φ := by
  have c8 := k.rn.le
  unfold S_box_numbers
  simp only [↓w_ok, ↓kB_ok, ↓kI_ok, ↓w_K, ↓w_V, ↓w_vR, ↓w_Op, ↓kO1_ok, ↓kO2_ok, ↓w_Un, ↓w_bOf, ↓w_isB, ↓kBl_ok, ↓kBl_exc, ↓kIf_ok, ↓kIf_exc, ↓w_okB, ↓w_okD, ↓w_bAnd, ↓w_bOr, ↓w_bNot, ↓kNot_ok, ↓kNot_exc, ↓w_eAnd, ↓w_eOr, ↓w_eNot, ↓kNotV_ok, ↓w_eIf, ↓w_aNil, ↓w_aCons, ↓kA1_ok, ↓kA2_ok, ↓kA1_exc, ↓kA2_exc, ↓w_Tup, ↓w_Lst, ↓w_mkT, ↓w_mkL, ↓w_Dct, ↓w_Dct2, ↓w_SoSe, ↓w_Call, ↓w_goS, ↓w_Bi, ↓w_Isi, ↓w_Cut, ↓kC1_ok, ↓kC2_ok, ↓kC3_ok, ↓w_oNone, ↓w_oSome, ↓w_vO, ↓w_Chain, ↓kCh1_ok, ↓kCh2_ok, ↓kCh3_ok, ↓w_chA, ↓w_App, ↓w_Ins, ↓w_insG, ↓z_nx, ↓z_End, ↓z_Seq, ↓kT_nx, ↓kT_rt, ↓kT_bk, ↓kT_ct, ↓kT_exc, ↓z_If, ↓kIfS_ok, ↓kIfS_exc, ↓z_Ret, ↓kRet_ok, ↓kRet_exc, ↓z_Expr, ↓kNx_ok, ↓kNx_exc, ↓z_Asg, ↓kAs_ok, ↓kAs_exc, ↓z_tgO, t_N, t_T, t_nil, t_cons, t_G, t_gnil, t_gcons, t_bind, ↓z_Par, ↓kPar_ok, ↓z_Raise, ↓z_Break, ↓z_Cont, ↓z_For, ↓kSrc_ok, ↓w_Range, ↓w_rgF, ↓w_SeqI, ↓w_sqT, ↓w_Zip, ↓w_zpT, ↓w_Comp, ↓kCo_ok, ↓w_of, ↓kF_rt, ↓kF_nx, ↓kF_exc, ↓w_add, ↓w_sub, ↓w_pow10, ↓w_neg, ↓w_lt, ↓w_le, ↓w_gt, ↓w_ge, ↓w_ix0, ↓w_ix1, ↓w_ix2, ↓w_ix3, ↓w_eqI, ↓w_eqS, ↓w_eqT2, ↓w_abs, ↓w_lenT, ↓w_lenS, ↓w_max, ↓w_min, ↓w_intT, ↓w_intF, ↓w_isBool, ↓w_isTup, ↓w_tupT, ↓w_listT, ↓w_cutT, ↓brw_t, ↓brw_f, ↓brz_t, ↓brz_f, List.getElem?_cons_zero, List.getElem?_cons_succ, List.set_cons_zero, List.set_cons_succ, List.length_cons, List.length_nil, List.map_cons, List.map_nil, List.replicate, List.cons_append, List.nil_append, small, Nat.reduceAdd, Nat.reduceLeDiff, Nat.reduceEqDiff, Int.cast_ofNat_Int, Int.reduceBEq, BEq.rfl, ↓w_Yes, ↓w_bTru, ↓augF_ok, ↓z_Put, ↓putF_ok, ↓putG_ok, ↓w_isNn, ↓w_isNt, wipeF_nil, wipeF_cons, Int.reduceLE, Int.reduceLT, Int.reduceToNat, Int.reducePow, Int.reduceNeg, Int.reduceSub, Int.reduceAdd, Int.reduceMul, decide_true, decide_false, Bool.not_true, Bool.not_false, Bool.bne_false, Bool.bne_true, ↓w_aStar, ↓w_stT, ↓kSt_ok, ↓w_aDef, ↓kDf_ok, ↓w_Cnt, ↓w_Ext, ↓w_isBB, ↓w_isIB, ↓w_Enum, ↓w_enT]
  refine bounds_w k.rn.ne (by omega) fun h1 g1 => ?_
  simp only [↓w_ok, ↓kB_ok, ↓kI_ok, ↓w_K, ↓w_V, ↓w_vR, ↓w_Op, ↓kO1_ok, ↓kO2_ok, ↓w_Un, ↓w_bOf, ↓w_isB, ↓kBl_ok, ↓kBl_exc, ↓kIf_ok, ↓kIf_exc, ↓w_okB, ↓w_okD, ↓w_bAnd, ↓w_bOr, ↓w_bNot, ↓kNot_ok, ↓kNot_exc, ↓w_eAnd, ↓w_eOr, ↓w_eNot, ↓kNotV_ok, ↓w_eIf, ↓w_aNil, ↓w_aCons, ↓kA1_ok, ↓kA2_ok, ↓kA1_exc, ↓kA2_exc, ↓w_Tup, ↓w_Lst, ↓w_mkT, ↓w_mkL, ↓w_Dct, ↓w_Dct2, ↓w_SoSe, ↓w_Call, ↓w_goS, ↓w_Bi, ↓w_Isi, ↓w_Cut, ↓kC1_ok, ↓kC2_ok, ↓kC3_ok, ↓w_oNone, ↓w_oSome, ↓w_vO, ↓w_Chain, ↓kCh1_ok, ↓kCh2_ok, ↓kCh3_ok, ↓w_chA, ↓w_App, ↓w_Ins, ↓w_insG, ↓z_nx, ↓z_End, ↓z_Seq, ↓kT_nx, ↓kT_rt, ↓kT_bk, ↓kT_ct, ↓kT_exc, ↓z_If, ↓kIfS_ok, ↓kIfS_exc, ↓z_Ret, ↓kRet_ok, ↓kRet_exc, ↓z_Expr, ↓kNx_ok, ↓kNx_exc, ↓z_Asg, ↓kAs_ok, ↓kAs_exc, ↓z_tgO, t_N, t_T, t_nil, t_cons, t_G, t_gnil, t_gcons, t_bind, ↓z_Par, ↓kPar_ok, ↓z_Raise, ↓z_Break, ↓z_Cont, ↓z_For, ↓kSrc_ok, ↓w_Range, ↓w_rgF, ↓w_SeqI, ↓w_sqT, ↓w_Zip, ↓w_zpT, ↓w_Comp, ↓kCo_ok, ↓w_of, ↓kF_rt, ↓kF_nx, ↓kF_exc, ↓w_add, ↓w_sub, ↓w_pow10, ↓w_neg, ↓w_lt, ↓w_le, ↓w_gt, ↓w_ge, ↓w_ix0, ↓w_ix1, ↓w_ix2, ↓w_ix3, ↓w_eqI, ↓w_eqS, ↓w_eqT2, ↓w_abs, ↓w_lenT, ↓w_lenS, ↓w_max, ↓w_min, ↓w_intT, ↓w_intF, ↓w_isBool, ↓w_isTup, ↓w_tupT, ↓w_listT, ↓w_cutT, ↓brw_t, ↓brw_f, ↓brz_t, ↓brz_f, List.getElem?_cons_zero, List.getElem?_cons_succ, List.set_cons_zero, List.set_cons_succ, List.length_cons, List.length_nil, List.map_cons, List.map_nil, List.replicate, List.cons_append, List.nil_append, small, Nat.reduceAdd, Nat.reduceLeDiff, Nat.reduceEqDiff, Int.cast_ofNat_Int, Int.reduceBEq, BEq.rfl, ↓w_Yes, ↓w_bTru, ↓augF_ok, ↓z_Put, ↓putF_ok, ↓putG_ok, ↓w_isNn, ↓w_isNt, wipeF_nil, wipeF_cons, Int.reduceLE, Int.reduceLT, Int.reduceToNat, Int.reducePow, Int.reduceNeg, Int.reduceSub, Int.reduceAdd, Int.reduceMul, decide_true, decide_false, Bool.not_true, Bool.not_false, Bool.bne_false, Bool.bne_true, ↓w_aStar, ↓w_stT, ↓kSt_ok, ↓w_aDef, ↓kDf_ok, ↓w_Cnt, ↓w_Ext, ↓w_isBB, ↓w_isIB, ↓w_Enum, ↓w_enT, w_mul (k.bu.mk k.bm), w_mul (k.bv.mk k.bm)]
  exact kk h1 g1
def sub2 (a b : Zp) : Zp := (a.1 - b.1, a.2 - b.2)
/-- start and slope of the five -/
def gpN (r s : Row) : List Zp := [(0, 0), sub2 (bxN s).1 (bxN r).2.2.1, sub2 (bxN r).1 (bxN s).2.2.1, sub2 (bxN s).2.1 (bxN r).2.2.2, sub2 (bxN r).2.1 (bxN s).2.2.2]
theorem gapn_w {r s : Row} (k : RwOk r) (k2 : RwOk s) (kk : ∀ m h1, Gr h h1 → h.length ≤ m → lstAt h1 m = some ((gpN r s).map dZ) → Φ (.ok (.ref m) h1)) : W (S_gap_numbers [dRw r, dRw s] h) Φ := by
  unfold S_gap_numbers
  simp only [↓w_ok, ↓kB_ok, ↓kI_ok, ↓w_K, ↓w_V, ↓w_vR, ↓w_Op, ↓kO1_ok, ↓kO2_ok, ↓w_Un, ↓w_bOf, ↓w_isB, ↓kBl_ok, ↓kBl_exc, ↓kIf_ok, ↓kIf_exc, ↓w_okB, ↓w_okD, ↓w_bAnd, ↓w_bOr, ↓w_bNot, ↓kNot_ok, ↓kNot_exc, ↓w_eAnd, ↓w_eOr, ↓w_eNot, ↓kNotV_ok, ↓w_eIf, ↓w_aNil, ↓w_aCons, ↓kA1_ok, ↓kA2_ok, ↓kA1_exc, ↓kA2_exc, ↓w_Tup, ↓w_Lst, ↓w_mkT, ↓w_mkL, ↓w_Dct, ↓w_Dct2, ↓w_SoSe, ↓w_Call, ↓w_goS, ↓w_Bi, ↓w_Isi, ↓w_Cut, ↓kC1_ok, ↓kC2_ok, ↓kC3_ok, ↓w_oNone, ↓w_oSome, ↓w_vO, ↓w_Chain, ↓kCh1_ok, ↓kCh2_ok, ↓kCh3_ok, ↓w_chA, ↓w_App, ↓w_Ins, ↓w_insG, ↓z_nx, ↓z_End, ↓z_Seq, ↓kT_nx, ↓kT_rt, ↓kT_bk, ↓kT_ct, ↓kT_exc, ↓z_If, ↓kIfS_ok, ↓kIfS_exc, ↓z_Ret, ↓kRet_ok, ↓kRet_exc, ↓z_Expr, ↓kNx_ok, ↓kNx_exc, ↓z_Asg, ↓kAs_ok, ↓kAs_exc, ↓z_tgO, t_N, t_T, t_nil, t_cons, t_G, t_gnil, t_gcons, t_bind, ↓z_Par, ↓kPar_ok, ↓z_Raise, ↓z_Break, ↓z_Cont, ↓z_For, ↓kSrc_ok, ↓w_Range, ↓w_rgF, ↓w_SeqI, ↓w_sqT, ↓w_Zip, ↓w_zpT, ↓w_Comp, ↓kCo_ok, ↓w_of, ↓kF_rt, ↓kF_nx, ↓kF_exc, ↓w_add, ↓w_sub, ↓w_pow10, ↓w_neg, ↓w_lt, ↓w_le, ↓w_gt, ↓w_ge, ↓w_ix0, ↓w_ix1, ↓w_ix2, ↓w_ix3, ↓w_eqI, ↓w_eqS, ↓w_eqT2, ↓w_abs, ↓w_lenT, ↓w_lenS, ↓w_max, ↓w_min, ↓w_intT, ↓w_intF, ↓w_isBool, ↓w_isTup, ↓w_tupT, ↓w_listT, ↓w_cutT, ↓brw_t, ↓brw_f, ↓brz_t, ↓brz_f, List.getElem?_cons_zero, List.getElem?_cons_succ, List.set_cons_zero, List.set_cons_succ, List.length_cons, List.length_nil, List.map_cons, List.map_nil, List.replicate, List.cons_append, List.nil_append, small, Nat.reduceAdd, Nat.reduceLeDiff, Nat.reduceEqDiff, Int.cast_ofNat_Int, Int.reduceBEq, BEq.rfl, ↓w_Yes, ↓w_bTru, ↓augF_ok, ↓z_Put, ↓putF_ok, ↓putG_ok, ↓w_isNn, ↓w_isNt, wipeF_nil, wipeF_cons, Int.reduceLE, Int.reduceLT, Int.reduceToNat, Int.reducePow, Int.reduceNeg, Int.reduceSub, Int.reduceAdd, Int.reduceMul, decide_true, decide_false, Bool.not_true, Bool.not_false, Bool.bne_false, Bool.bne_true, ↓w_aStar, ↓w_stT, ↓kSt_ok, ↓w_aDef, ↓kDf_ok, ↓w_Cnt, ↓w_Ext, ↓w_isBB, ↓w_isIB, ↓w_Enum, ↓w_enT]
  refine boxn_w k fun h1 g1 => ?_
  simp only [↓w_ok, ↓kB_ok, ↓kI_ok, ↓w_K, ↓w_V, ↓w_vR, ↓w_Op, ↓kO1_ok, ↓kO2_ok, ↓w_Un, ↓w_bOf, ↓w_isB, ↓kBl_ok, ↓kBl_exc, ↓kIf_ok, ↓kIf_exc, ↓w_okB, ↓w_okD, ↓w_bAnd, ↓w_bOr, ↓w_bNot, ↓kNot_ok, ↓kNot_exc, ↓w_eAnd, ↓w_eOr, ↓w_eNot, ↓kNotV_ok, ↓w_eIf, ↓w_aNil, ↓w_aCons, ↓kA1_ok, ↓kA2_ok, ↓kA1_exc, ↓kA2_exc, ↓w_Tup, ↓w_Lst, ↓w_mkT, ↓w_mkL, ↓w_Dct, ↓w_Dct2, ↓w_SoSe, ↓w_Call, ↓w_goS, ↓w_Bi, ↓w_Isi, ↓w_Cut, ↓kC1_ok, ↓kC2_ok, ↓kC3_ok, ↓w_oNone, ↓w_oSome, ↓w_vO, ↓w_Chain, ↓kCh1_ok, ↓kCh2_ok, ↓kCh3_ok, ↓w_chA, ↓w_App, ↓w_Ins, ↓w_insG, ↓z_nx, ↓z_End, ↓z_Seq, ↓kT_nx, ↓kT_rt, ↓kT_bk, ↓kT_ct, ↓kT_exc, ↓z_If, ↓kIfS_ok, ↓kIfS_exc, ↓z_Ret, ↓kRet_ok, ↓kRet_exc, ↓z_Expr, ↓kNx_ok, ↓kNx_exc, ↓z_Asg, ↓kAs_ok, ↓kAs_exc, ↓z_tgO, t_N, t_T, t_nil, t_cons, t_G, t_gnil, t_gcons, t_bind, ↓z_Par, ↓kPar_ok, ↓z_Raise, ↓z_Break, ↓z_Cont, ↓z_For, ↓kSrc_ok, ↓w_Range, ↓w_rgF, ↓w_SeqI, ↓w_sqT, ↓w_Zip, ↓w_zpT, ↓w_Comp, ↓kCo_ok, ↓w_of, ↓kF_rt, ↓kF_nx, ↓kF_exc, ↓w_add, ↓w_sub, ↓w_pow10, ↓w_neg, ↓w_lt, ↓w_le, ↓w_gt, ↓w_ge, ↓w_ix0, ↓w_ix1, ↓w_ix2, ↓w_ix3, ↓w_eqI, ↓w_eqS, ↓w_eqT2, ↓w_abs, ↓w_lenT, ↓w_lenS, ↓w_max, ↓w_min, ↓w_intT, ↓w_intF, ↓w_isBool, ↓w_isTup, ↓w_tupT, ↓w_listT, ↓w_cutT, ↓brw_t, ↓brw_f, ↓brz_t, ↓brz_f, List.getElem?_cons_zero, List.getElem?_cons_succ, List.set_cons_zero, List.set_cons_succ, List.length_cons, List.length_nil, List.map_cons, List.map_nil, List.replicate, List.cons_append, List.nil_append, small, Nat.reduceAdd, Nat.reduceLeDiff, Nat.reduceEqDiff, Int.cast_ofNat_Int, Int.reduceBEq, BEq.rfl, ↓w_Yes, ↓w_bTru, ↓augF_ok, ↓z_Put, ↓putF_ok, ↓putG_ok, ↓w_isNn, ↓w_isNt, wipeF_nil, wipeF_cons, Int.reduceLE, Int.reduceLT, Int.reduceToNat, Int.reducePow, Int.reduceNeg, Int.reduceSub, Int.reduceAdd, Int.reduceMul, decide_true, decide_false, Bool.not_true, Bool.not_false, Bool.bne_false, Bool.bne_true, ↓w_aStar, ↓w_stT, ↓kSt_ok, ↓w_aDef, ↓kDf_ok, ↓w_Cnt, ↓w_Ext, ↓w_isBB, ↓w_isIB, ↓w_Enum, ↓w_enT]
  refine boxn_w k2 fun h2 g2 => ?_
  unfold gpN at kk
  generalize bxN r = a at *
  generalize bxN s = b at *
  simp only [↓w_ok, ↓kB_ok, ↓kI_ok, ↓w_K, ↓w_V, ↓w_vR, ↓w_Op, ↓kO1_ok, ↓kO2_ok, ↓w_Un, ↓w_bOf, ↓w_isB, ↓kBl_ok, ↓kBl_exc, ↓kIf_ok, ↓kIf_exc, ↓w_okB, ↓w_okD, ↓w_bAnd, ↓w_bOr, ↓w_bNot, ↓kNot_ok, ↓kNot_exc, ↓w_eAnd, ↓w_eOr, ↓w_eNot, ↓kNotV_ok, ↓w_eIf, ↓w_aNil, ↓w_aCons, ↓kA1_ok, ↓kA2_ok, ↓kA1_exc, ↓kA2_exc, ↓w_Tup, ↓w_Lst, ↓w_mkT, ↓w_mkL, ↓w_Dct, ↓w_Dct2, ↓w_SoSe, ↓w_Call, ↓w_goS, ↓w_Bi, ↓w_Isi, ↓w_Cut, ↓kC1_ok, ↓kC2_ok, ↓kC3_ok, ↓w_oNone, ↓w_oSome, ↓w_vO, ↓w_Chain, ↓kCh1_ok, ↓kCh2_ok, ↓kCh3_ok, ↓w_chA, ↓w_App, ↓w_Ins, ↓w_insG, ↓z_nx, ↓z_End, ↓z_Seq, ↓kT_nx, ↓kT_rt, ↓kT_bk, ↓kT_ct, ↓kT_exc, ↓z_If, ↓kIfS_ok, ↓kIfS_exc, ↓z_Ret, ↓kRet_ok, ↓kRet_exc, ↓z_Expr, ↓kNx_ok, ↓kNx_exc, ↓z_Asg, ↓kAs_ok, ↓kAs_exc, ↓z_tgO, t_N, t_T, t_nil, t_cons, t_G, t_gnil, t_gcons, t_bind, ↓z_Par, ↓kPar_ok, ↓z_Raise, ↓z_Break, ↓z_Cont, ↓z_For, ↓kSrc_ok, ↓w_Range, ↓w_rgF, ↓w_SeqI, ↓w_sqT, ↓w_Zip, ↓w_zpT, ↓w_Comp, ↓kCo_ok, ↓w_of, ↓kF_rt, ↓kF_nx, ↓kF_exc, ↓w_add, ↓w_sub, ↓w_pow10, ↓w_neg, ↓w_lt, ↓w_le, ↓w_gt, ↓w_ge, ↓w_ix0, ↓w_ix1, ↓w_ix2, ↓w_ix3, ↓w_eqI, ↓w_eqS, ↓w_eqT2, ↓w_abs, ↓w_lenT, ↓w_lenS, ↓w_max, ↓w_min, ↓w_intT, ↓w_intF, ↓w_isBool, ↓w_isTup, ↓w_tupT, ↓w_listT, ↓w_cutT, ↓brw_t, ↓brw_f, ↓brz_t, ↓brz_f, List.getElem?_cons_zero, List.getElem?_cons_succ, List.set_cons_zero, List.set_cons_succ, List.length_cons, List.length_nil, List.map_cons, List.map_nil, List.replicate, List.cons_append, List.nil_append, small, Nat.reduceAdd, Nat.reduceLeDiff, Nat.reduceEqDiff, Int.cast_ofNat_Int, Int.reduceBEq, BEq.rfl, ↓w_Yes, ↓w_bTru, ↓augF_ok, ↓z_Put, ↓putF_ok, ↓putG_ok, ↓w_isNn, ↓w_isNt, wipeF_nil, wipeF_cons, Int.reduceLE, Int.reduceLT, Int.reduceToNat, Int.reducePow, Int.reduceNeg, Int.reduceSub, Int.reduceAdd, Int.reduceMul, decide_true, decide_false, Bool.not_true, Bool.not_false, Bool.bne_false, Bool.bne_true, ↓w_aStar, ↓w_stT, ↓kSt_ok, ↓w_aDef, ↓kDf_ok, ↓w_Cnt, ↓w_Ext, ↓w_isBB, ↓w_isIB, ↓w_Enum, ↓w_enT]
  have l3 := lst_new h2 (([(b.1, a.2.2.1), (a.1, b.2.2.1), (b.2.1, a.2.2.2), (a.2.1, b.2.2.2)] : List (Zp × Zp)).map fun z => D.tup [dZ z.1, dZ z.2])
  have g3 := Gr.app h2 [Cell.lst (([(b.1, a.2.2.1), (a.1, b.2.2.1), (b.2.1, a.2.2.2), (a.2.1, b.2.2.2)] : List (Zp × Zp)).map fun z => D.tup [dZ z.1, dZ z.2])]
  simp only [List.map_cons, List.map_nil] at l3 g3
  generalize h2 ++ [Cell.lst _] = h3 at *
  have g4 := Gr.app h3 [Cell.lst [dZ (0, 0)]]
  have l4 := lst_new h3 [dZ (0, 0)]
  generalize h3 ++ [Cell.lst _] = h4 at *
  have l5 : lstAt h4 h2.length = some (([(b.1, a.2.2.1), (a.1, b.2.2.1), (b.2.1, a.2.2.2), (a.2.1, b.2.2.2)] : List (Zp × Zp)).map fun z => D.tup [dZ z.1, dZ z.2]) := g4.lst l3
  refine comp_map [(b.1, a.2.2.1), (a.1, b.2.2.1), (b.2.1, a.2.2.2), (a.2.1, b.2.2.2)] (fun z => D.tup [dZ z.1, dZ z.2]) (.lst _ _ l5) (by simp) (fun z => dZ (sub2 z.1 z.2)) ?_ fun h5 g5 n5 l6 => ?_
  · intro z hz
    refine ⟨_, rfl, fun h' Ψ g kq => ?_⟩
    simp only [↓w_ok, ↓kB_ok, ↓kI_ok, ↓w_K, ↓w_V, ↓w_vR, ↓w_Op, ↓kO1_ok, ↓kO2_ok, ↓w_Un, ↓w_bOf, ↓w_isB, ↓kBl_ok, ↓kBl_exc, ↓kIf_ok, ↓kIf_exc, ↓w_okB, ↓w_okD, ↓w_bAnd, ↓w_bOr, ↓w_bNot, ↓kNot_ok, ↓kNot_exc, ↓w_eAnd, ↓w_eOr, ↓w_eNot, ↓kNotV_ok, ↓w_eIf, ↓w_aNil, ↓w_aCons, ↓kA1_ok, ↓kA2_ok, ↓kA1_exc, ↓kA2_exc, ↓w_Tup, ↓w_Lst, ↓w_mkT, ↓w_mkL, ↓w_Dct, ↓w_Dct2, ↓w_SoSe, ↓w_Call, ↓w_goS, ↓w_Bi, ↓w_Isi, ↓w_Cut, ↓kC1_ok, ↓kC2_ok, ↓kC3_ok, ↓w_oNone, ↓w_oSome, ↓w_vO, ↓w_Chain, ↓kCh1_ok, ↓kCh2_ok, ↓kCh3_ok, ↓w_chA, ↓w_App, ↓w_Ins, ↓w_insG, ↓z_nx, ↓z_End, ↓z_Seq, ↓kT_nx, ↓kT_rt, ↓kT_bk, ↓kT_ct, ↓kT_exc, ↓z_If, ↓kIfS_ok, ↓kIfS_exc, ↓z_Ret, ↓kRet_ok, ↓kRet_exc, ↓z_Expr, ↓kNx_ok, ↓kNx_exc, ↓z_Asg, ↓kAs_ok, ↓kAs_exc, ↓z_tgO, t_N, t_T, t_nil, t_cons, t_G, t_gnil, t_gcons, t_bind, ↓z_Par, ↓kPar_ok, ↓z_Raise, ↓z_Break, ↓z_Cont, ↓z_For, ↓kSrc_ok, ↓w_Range, ↓w_rgF, ↓w_SeqI, ↓w_sqT, ↓w_Zip, ↓w_zpT, ↓w_Comp, ↓kCo_ok, ↓w_of, ↓kF_rt, ↓kF_nx, ↓kF_exc, ↓w_add, ↓w_sub, ↓w_pow10, ↓w_neg, ↓w_lt, ↓w_le, ↓w_gt, ↓w_ge, ↓w_ix0, ↓w_ix1, ↓w_ix2, ↓w_ix3, ↓w_eqI, ↓w_eqS, ↓w_eqT2, ↓w_abs, ↓w_lenT, ↓w_lenS, ↓w_max, ↓w_min, ↓w_intT, ↓w_intF, ↓w_isBool, ↓w_isTup, ↓w_tupT, ↓w_listT, ↓w_cutT, ↓brw_t, ↓brw_f, ↓brz_t, ↓brz_f, List.getElem?_cons_zero, List.getElem?_cons_succ, List.set_cons_zero, List.set_cons_succ, List.length_cons, List.length_nil, List.map_cons, List.map_nil, List.replicate, List.cons_append, List.nil_append, small, Nat.reduceAdd, Nat.reduceLeDiff, Nat.reduceEqDiff, Int.cast_ofNat_Int, Int.reduceBEq, BEq.rfl, ↓w_Yes, ↓w_bTru, ↓augF_ok, ↓z_Put, ↓putF_ok, ↓putG_ok, ↓w_isNn, ↓w_isNt, wipeF_nil, wipeF_cons, Int.reduceLE, Int.reduceLT, Int.reduceToNat, Int.reducePow, Int.reduceNeg, Int.reduceSub, Int.reduceAdd, Int.reduceMul, decide_true, decide_false, Bool.not_true, Bool.not_false, Bool.bne_false, Bool.bne_true, ↓w_aStar, ↓w_stT, ↓kSt_ok, ↓w_aDef, ↓kDf_ok, ↓w_Cnt, ↓w_Ext, ↓w_isBB, ↓w_isIB, ↓w_Enum, ↓w_enT]
    exact kq h' (Gr.refl _)
  simp only [↓w_ok, ↓kB_ok, ↓kI_ok, ↓w_K, ↓w_V, ↓w_vR, ↓w_Op, ↓kO1_ok, ↓kO2_ok, ↓w_Un, ↓w_bOf, ↓w_isB, ↓kBl_ok, ↓kBl_exc, ↓kIf_ok, ↓kIf_exc, ↓w_okB, ↓w_okD, ↓w_bAnd, ↓w_bOr, ↓w_bNot, ↓kNot_ok, ↓kNot_exc, ↓w_eAnd, ↓w_eOr, ↓w_eNot, ↓kNotV_ok, ↓w_eIf, ↓w_aNil, ↓w_aCons, ↓kA1_ok, ↓kA2_ok, ↓kA1_exc, ↓kA2_exc, ↓w_Tup, ↓w_Lst, ↓w_mkT, ↓w_mkL, ↓w_Dct, ↓w_Dct2, ↓w_SoSe, ↓w_Call, ↓w_goS, ↓w_Bi, ↓w_Isi, ↓w_Cut, ↓kC1_ok, ↓kC2_ok, ↓kC3_ok, ↓w_oNone, ↓w_oSome, ↓w_vO, ↓w_Chain, ↓kCh1_ok, ↓kCh2_ok, ↓kCh3_ok, ↓w_chA, ↓w_App, ↓w_Ins, ↓w_insG, ↓z_nx, ↓z_End, ↓z_Seq, ↓kT_nx, ↓kT_rt, ↓kT_bk, ↓kT_ct, ↓kT_exc, ↓z_If, ↓kIfS_ok, ↓kIfS_exc, ↓z_Ret, ↓kRet_ok, ↓kRet_exc, ↓z_Expr, ↓kNx_ok, ↓kNx_exc, ↓z_Asg, ↓kAs_ok, ↓kAs_exc, ↓z_tgO, t_N, t_T, t_nil, t_cons, t_G, t_gnil, t_gcons, t_bind, ↓z_Par, ↓kPar_ok, ↓z_Raise, ↓z_Break, ↓z_Cont, ↓z_For, ↓kSrc_ok, ↓w_Range, ↓w_rgF, ↓w_SeqI, ↓w_sqT, ↓w_Zip, ↓w_zpT, ↓w_Comp, ↓kCo_ok, ↓w_of, ↓kF_rt, ↓kF_nx, ↓kF_exc, ↓w_add, ↓w_sub, ↓w_pow10, ↓w_neg, ↓w_lt, ↓w_le, ↓w_gt, ↓w_ge, ↓w_ix0, ↓w_ix1, ↓w_ix2, ↓w_ix3, ↓w_eqI, ↓w_eqS, ↓w_eqT2, ↓w_abs, ↓w_lenT, ↓w_lenS, ↓w_max, ↓w_min, ↓w_intT, ↓w_intF, ↓w_isBool, ↓w_isTup, ↓w_tupT, ↓w_listT, ↓w_cutT, ↓brw_t, ↓brw_f, ↓brz_t, ↓brz_f, List.getElem?_cons_zero, List.getElem?_cons_succ, List.set_cons_zero, List.set_cons_succ, List.length_cons, List.length_nil, List.map_cons, List.map_nil, List.replicate, List.cons_append, List.nil_append, small, Nat.reduceAdd, Nat.reduceLeDiff, Nat.reduceEqDiff, Int.cast_ofNat_Int, Int.reduceBEq, BEq.rfl, ↓w_Yes, ↓w_bTru, ↓augF_ok, ↓z_Put, ↓putF_ok, ↓putG_ok, ↓w_isNn, ↓w_isNt, wipeF_nil, wipeF_cons, Int.reduceLE, Int.reduceLT, Int.reduceToNat, Int.reducePow, Int.reduceNeg, Int.reduceSub, Int.reduceAdd, Int.reduceMul, decide_true, decide_false, Bool.not_true, Bool.not_false, Bool.bne_false, Bool.bne_true, ↓w_aStar, ↓w_stT, ↓kSt_ok, ↓w_aDef, ↓kDf_ok, ↓w_Cnt, ↓w_Ext, ↓w_isBB, ↓w_isIB, ↓w_Enum, ↓w_enT, w_addL (g5.lst l4) l6 (show small _ = true from decide_eq_true (by simp))]
  have g6 := g1.trans (g2.trans (g3.trans (g4.trans g5)))
  exact kk _ _ (g6.trans (Gr.app _ _)) g6.len (lst_new _ _)
end
end MI
end
section
set_option Elab.async false
set_option linter.all false
set_option autoImplicit false
set_option maxRecDepth 100000
set_option exponentiation.threshold 20000
set_option maxHeartbeats 4000000
open PySem L2
namespace MI
theorem mxz_lin {l : List Int} (ne : l ≠ []) {t g : Int} (ht : 0 ≤ t) : mxz (l.map fun x => x * t + g) = mxz l * t + g := by
  have ne2 : l.map (fun x => x * t + g) ≠ [] := by simpa using ne
  refine Int.le_antisymm ?_ ?_
  · obtain ⟨x, hx, e⟩ := List.mem_map.1 (mxz_mem ne2)
    rw [← e]
    have := Int.mul_le_mul_of_nonneg_right (mxz_le hx) ht
    omega
  · exact mxz_le (List.mem_map.2 ⟨_, mxz_mem ne, rfl⟩)
theorem mnz_lin {l : List Int} (ne : l ≠ []) {t g : Int} (ht : 0 ≤ t) : mnz (l.map fun x => x * t + g) = mnz l * t + g := by
  have ne2 : l.map (fun x => x * t + g) ≠ [] := by simpa using ne
  refine Int.le_antisymm ?_ ?_
  · exact mnz_le (List.mem_map.2 ⟨_, mnz_mem ne, rfl⟩)
  · obtain ⟨x, hx, e⟩ := List.mem_map.1 (mnz_mem ne2)
    rw [← e]
    have := Int.mul_le_mul_of_nonneg_right (mnz_le hx) ht
    omega
theorem mxz_same {k l : List Int} (ne : k ≠ []) (e : ∀ x, x ∈ k ↔ x ∈ l) : mxz k = mxz l := by
  have ne2 : l ≠ [] := by
    intro z; subst z
    match k, ne with
    | x :: k, _ => have := (e x).1 (by simp); cases this
  exact Int.le_antisymm (mxz_le ((e _).1 (mxz_mem ne))) (mxz_le ((e _).2 (mxz_mem ne2)))
theorem mnz_same {k l : List Int} (ne : k ≠ []) (e : ∀ x, x ∈ k ↔ x ∈ l) : mnz k = mnz l := by
  have ne2 : l ≠ [] := by
    intro z; subst z
    match k, ne with
    | x :: k, _ => have := (e x).1 (by simp); cases this
  exact Int.le_antisymm (mnz_le ((e _).2 (mnz_mem ne2))) (mnz_le ((e _).1 (mnz_mem ne)))
theorem bx_same {c d : List Zp} (ne : c ≠ []) (e : ∀ x, x ∈ c ↔ x ∈ d) : bxL c = bxL d ∧ bxD c = bxD d ∧ bxR c = bxR d ∧ bxU c = bxU d := by
  have n1 : c.map (·.1) ≠ [] := by simpa using ne
  have n2 : c.map (·.2) ≠ [] := by simpa using ne
  have e1 : ∀ x, x ∈ c.map (·.1) ↔ x ∈ d.map (·.1) := fun x => by simp only [List.mem_map, e]
  have e2 : ∀ x, x ∈ c.map (·.2) ↔ x ∈ d.map (·.2) := fun x => by simp only [List.mem_map, e]
  exact ⟨mnz_same n1 e1, mnz_same n2 e2, mxz_same n1 e1, mxz_same n2 e2⟩
theorem bx_mvd {r : Row} {t : Qp} (ne : r.c ≠ []) (ht : 0 ≤ t.2) : bxL (mvd r t) = bxL r.c * t.2 + r.u * (t.1 - r.m * t.2) ∧ bxD (mvd r t) = bxD r.c * t.2 + r.v * (t.1 - r.m * t.2) ∧ bxR (mvd r t) = bxR r.c * t.2 + r.u * (t.1 - r.m * t.2) ∧ bxU (mvd r t) = bxU r.c * t.2 + r.v * (t.1 - r.m * t.2) := by
  have n1 : r.c.map (·.1) ≠ [] := by simpa using ne
  have n2 : r.c.map (·.2) ≠ [] := by simpa using ne
  have e1 : (mvd r t).map (·.1) = (r.c.map (·.1)).map fun x => x * t.2 + r.u * (t.1 - r.m * t.2) := by unfold mvd; rw [List.map_map, List.map_map]; rfl
  have e2 : (mvd r t).map (·.2) = (r.c.map (·.2)).map fun x => x * t.2 + r.v * (t.1 - r.m * t.2) := by unfold mvd; rw [List.map_map, List.map_map]; rfl
  unfold bxL bxD bxR bxU
  rw [e1, e2]
  exact ⟨mnz_lin n1 ht, mnz_lin n2 ht, mxz_lin n1 ht, mxz_lin n2 ht⟩
/-- a line of whole numbers -/
abbrev dWl (z : Zp) : D := .tup [dq (z.1, 1), dq (z.2, 1)]
section
variable {h : Hq} {Φ : Rs D → Prop} {m p : Nat} {n : Int}
theorem wline_w {z : Zp} : W (S_whole_line [.int z.1, .int z.2] h) Φ = Φ (.ok (dWl z) h) := by
  unfold S_whole_line
  simp only [↓w_ok, ↓kB_ok, ↓kI_ok, ↓w_K, ↓w_V, ↓w_vR, ↓w_Op, ↓kO1_ok, ↓kO2_ok, ↓w_Un, ↓w_bOf, ↓w_isB, ↓kBl_ok, ↓kBl_exc, ↓kIf_ok, ↓kIf_exc, ↓w_okB, ↓w_okD, ↓w_bAnd, ↓w_bOr, ↓w_bNot, ↓kNot_ok, ↓kNot_exc, ↓w_eAnd, ↓w_eOr, ↓w_eNot, ↓kNotV_ok, ↓w_eIf, ↓w_aNil, ↓w_aCons, ↓kA1_ok, ↓kA2_ok, ↓kA1_exc, ↓kA2_exc, ↓w_Tup, ↓w_Lst, ↓w_mkT, ↓w_mkL, ↓w_Dct, ↓w_Dct2, ↓w_SoSe, ↓w_Call, ↓w_goS, ↓w_Bi, ↓w_Isi, ↓w_Cut, ↓kC1_ok, ↓kC2_ok, ↓kC3_ok, ↓w_oNone, ↓w_oSome, ↓w_vO, ↓w_Chain, ↓kCh1_ok, ↓kCh2_ok, ↓kCh3_ok, ↓w_chA, ↓w_App, ↓w_Ins, ↓w_insG, ↓z_nx, ↓z_End, ↓z_Seq, ↓kT_nx, ↓kT_rt, ↓kT_bk, ↓kT_ct, ↓kT_exc, ↓z_If, ↓kIfS_ok, ↓kIfS_exc, ↓z_Ret, ↓kRet_ok, ↓kRet_exc, ↓z_Expr, ↓kNx_ok, ↓kNx_exc, ↓z_Asg, ↓kAs_ok, ↓kAs_exc, ↓z_tgO, t_N, t_T, t_nil, t_cons, t_G, t_gnil, t_gcons, t_bind, ↓z_Par, ↓kPar_ok, ↓z_Raise, ↓z_Break, ↓z_Cont, ↓z_For, ↓kSrc_ok, ↓w_Range, ↓w_rgF, ↓w_SeqI, ↓w_sqT, ↓w_Zip, ↓w_zpT, ↓w_Comp, ↓kCo_ok, ↓w_of, ↓kF_rt, ↓kF_nx, ↓kF_exc, ↓w_add, ↓w_sub, ↓w_pow10, ↓w_neg, ↓w_lt, ↓w_le, ↓w_gt, ↓w_ge, ↓w_ix0, ↓w_ix1, ↓w_ix2, ↓w_ix3, ↓w_eqI, ↓w_eqS, ↓w_eqT2, ↓w_abs, ↓w_lenT, ↓w_lenS, ↓w_max, ↓w_min, ↓w_intT, ↓w_intF, ↓w_isBool, ↓w_isTup, ↓w_tupT, ↓w_listT, ↓w_cutT, ↓brw_t, ↓brw_f, ↓brz_t, ↓brz_f, List.getElem?_cons_zero, List.getElem?_cons_succ, List.set_cons_zero, List.set_cons_succ, List.length_cons, List.length_nil, List.map_cons, List.map_nil, List.replicate, List.cons_append, List.nil_append, small, Nat.reduceAdd, Nat.reduceLeDiff, Nat.reduceEqDiff, Int.cast_ofNat_Int, Int.reduceBEq, BEq.rfl, ↓w_Yes, ↓w_bTru, ↓augF_ok, ↓z_Put, ↓putF_ok, ↓putG_ok, ↓w_isNn, ↓w_isNt, wipeF_nil, wipeF_cons, Int.reduceLE, Int.reduceLT, Int.reduceToNat, Int.reducePow, Int.reduceNeg, Int.reduceSub, Int.reduceAdd, Int.reduceMul, decide_true, decide_false, Bool.not_true, Bool.not_false, Bool.bne_false, Bool.bne_true, ↓w_aStar, ↓w_stT, ↓kSt_ok, ↓w_aDef, ↓kDf_ok, ↓w_Cnt, ↓w_Ext, ↓w_isBB, ↓w_isIB, ↓w_Enum, ↓w_enT]
end
end MI
namespace K33
open MI
section
variable {h : Hq} {Φ : Rs D → Prop} {m p : Nat} {n : Int}
theorem gaplines_w {r : Row} {c : List Zp} (k : RwOk r) (rc : Rn c) (ic : ∀ q ∈ c, In9 q) (kk : ∀ h1, Gr h h1 → Φ (.ok (.tup ((gpN r (stl c)).map dWl)) h1)) : W (fgap_lines [dRw r, .tup (c.map dZ)] h) Φ := by
  unfold fgap_lines bgap_lines
  simp only [↓w_ok, ↓kB_ok, ↓kI_ok, ↓w_K, ↓w_V, ↓w_vR, ↓w_Op, ↓kO1_ok, ↓kO2_ok, ↓w_Un, ↓w_bOf, ↓w_isB, ↓kBl_ok, ↓kBl_exc, ↓kIf_ok, ↓kIf_exc, ↓w_okB, ↓w_okD, ↓w_bAnd, ↓w_bOr, ↓w_bNot, ↓kNot_ok, ↓kNot_exc, ↓w_eAnd, ↓w_eOr, ↓w_eNot, ↓kNotV_ok, ↓w_eIf, ↓w_aNil, ↓w_aCons, ↓kA1_ok, ↓kA2_ok, ↓kA1_exc, ↓kA2_exc, ↓w_Tup, ↓w_Lst, ↓w_mkT, ↓w_mkL, ↓w_Dct, ↓w_Dct2, ↓w_SoSe, ↓w_Call, ↓w_goS, ↓w_Bi, ↓w_Isi, ↓w_Cut, ↓kC1_ok, ↓kC2_ok, ↓kC3_ok, ↓w_oNone, ↓w_oSome, ↓w_vO, ↓w_Chain, ↓kCh1_ok, ↓kCh2_ok, ↓kCh3_ok, ↓w_chA, ↓w_App, ↓w_Ins, ↓w_insG, ↓z_nx, ↓z_End, ↓z_Seq, ↓kT_nx, ↓kT_rt, ↓kT_bk, ↓kT_ct, ↓kT_exc, ↓z_If, ↓kIfS_ok, ↓kIfS_exc, ↓z_Ret, ↓kRet_ok, ↓kRet_exc, ↓z_Expr, ↓kNx_ok, ↓kNx_exc, ↓z_Asg, ↓kAs_ok, ↓kAs_exc, ↓z_tgO, t_N, t_T, t_nil, t_cons, t_G, t_gnil, t_gcons, t_bind, ↓z_Par, ↓kPar_ok, ↓z_Raise, ↓z_Break, ↓z_Cont, ↓z_For, ↓kSrc_ok, ↓w_Range, ↓w_rgF, ↓w_SeqI, ↓w_sqT, ↓w_Zip, ↓w_zpT, ↓w_Comp, ↓kCo_ok, ↓w_of, ↓kF_rt, ↓kF_nx, ↓kF_exc, ↓w_add, ↓w_sub, ↓w_pow10, ↓w_neg, ↓w_lt, ↓w_le, ↓w_gt, ↓w_ge, ↓w_ix0, ↓w_ix1, ↓w_ix2, ↓w_ix3, ↓w_eqI, ↓w_eqS, ↓w_eqT2, ↓w_abs, ↓w_lenT, ↓w_lenS, ↓w_max, ↓w_min, ↓w_intT, ↓w_intF, ↓w_isBool, ↓w_isTup, ↓w_tupT, ↓w_listT, ↓w_cutT, ↓brw_t, ↓brw_f, ↓brz_t, ↓brz_f, List.getElem?_cons_zero, List.getElem?_cons_succ, List.set_cons_zero, List.set_cons_succ, List.length_cons, List.length_nil, List.map_cons, List.map_nil, List.replicate, List.cons_append, List.nil_append, small, Nat.reduceAdd, Nat.reduceLeDiff, Nat.reduceEqDiff, Int.cast_ofNat_Int, Int.reduceBEq, BEq.rfl, ↓w_Yes, ↓w_bTru, ↓augF_ok, ↓z_Put, ↓putF_ok, ↓putG_ok, ↓w_isNn, ↓w_isNt, wipeF_nil, wipeF_cons, Int.reduceLE, Int.reduceLT, Int.reduceToNat, Int.reducePow, Int.reduceNeg, Int.reduceSub, Int.reduceAdd, Int.reduceMul, decide_true, decide_false, Bool.not_true, Bool.not_false, Bool.bne_false, Bool.bne_true, ↓w_aStar, ↓w_stT, ↓kSt_ok, ↓w_aDef, ↓kDf_ok, ↓w_Cnt, ↓w_Ext, ↓w_isBB, ↓w_isIB, ↓w_Enum, ↓w_enT]
  refine needrwr_w k ?_
  simp only [↓w_ok, ↓kB_ok, ↓kI_ok, ↓w_K, ↓w_V, ↓w_vR, ↓w_Op, ↓kO1_ok, ↓kO2_ok, ↓w_Un, ↓w_bOf, ↓w_isB, ↓kBl_ok, ↓kBl_exc, ↓kIf_ok, ↓kIf_exc, ↓w_okB, ↓w_okD, ↓w_bAnd, ↓w_bOr, ↓w_bNot, ↓kNot_ok, ↓kNot_exc, ↓w_eAnd, ↓w_eOr, ↓w_eNot, ↓kNotV_ok, ↓w_eIf, ↓w_aNil, ↓w_aCons, ↓kA1_ok, ↓kA2_ok, ↓kA1_exc, ↓kA2_exc, ↓w_Tup, ↓w_Lst, ↓w_mkT, ↓w_mkL, ↓w_Dct, ↓w_Dct2, ↓w_SoSe, ↓w_Call, ↓w_goS, ↓w_Bi, ↓w_Isi, ↓w_Cut, ↓kC1_ok, ↓kC2_ok, ↓kC3_ok, ↓w_oNone, ↓w_oSome, ↓w_vO, ↓w_Chain, ↓kCh1_ok, ↓kCh2_ok, ↓kCh3_ok, ↓w_chA, ↓w_App, ↓w_Ins, ↓w_insG, ↓z_nx, ↓z_End, ↓z_Seq, ↓kT_nx, ↓kT_rt, ↓kT_bk, ↓kT_ct, ↓kT_exc, ↓z_If, ↓kIfS_ok, ↓kIfS_exc, ↓z_Ret, ↓kRet_ok, ↓kRet_exc, ↓z_Expr, ↓kNx_ok, ↓kNx_exc, ↓z_Asg, ↓kAs_ok, ↓kAs_exc, ↓z_tgO, t_N, t_T, t_nil, t_cons, t_G, t_gnil, t_gcons, t_bind, ↓z_Par, ↓kPar_ok, ↓z_Raise, ↓z_Break, ↓z_Cont, ↓z_For, ↓kSrc_ok, ↓w_Range, ↓w_rgF, ↓w_SeqI, ↓w_sqT, ↓w_Zip, ↓w_zpT, ↓w_Comp, ↓kCo_ok, ↓w_of, ↓kF_rt, ↓kF_nx, ↓kF_exc, ↓w_add, ↓w_sub, ↓w_pow10, ↓w_neg, ↓w_lt, ↓w_le, ↓w_gt, ↓w_ge, ↓w_ix0, ↓w_ix1, ↓w_ix2, ↓w_ix3, ↓w_eqI, ↓w_eqS, ↓w_eqT2, ↓w_abs, ↓w_lenT, ↓w_lenS, ↓w_max, ↓w_min, ↓w_intT, ↓w_intF, ↓w_isBool, ↓w_isTup, ↓w_tupT, ↓w_listT, ↓w_cutT, ↓brw_t, ↓brw_f, ↓brz_t, ↓brz_f, List.getElem?_cons_zero, List.getElem?_cons_succ, List.set_cons_zero, List.set_cons_succ, List.length_cons, List.length_nil, List.map_cons, List.map_nil, List.replicate, List.cons_append, List.nil_append, small, Nat.reduceAdd, Nat.reduceLeDiff, Nat.reduceEqDiff, Int.cast_ofNat_Int, Int.reduceBEq, BEq.rfl, ↓w_Yes, ↓w_bTru, ↓augF_ok, ↓z_Put, ↓putF_ok, ↓putG_ok, ↓w_isNn, ↓w_isNt, wipeF_nil, wipeF_cons, Int.reduceLE, Int.reduceLT, Int.reduceToNat, Int.reducePow, Int.reduceNeg, Int.reduceSub, Int.reduceAdd, Int.reduceMul, decide_true, decide_false, Bool.not_true, Bool.not_false, Bool.bne_false, Bool.bne_true, ↓w_aStar, ↓w_stT, ↓kSt_ok, ↓w_aDef, ↓kDf_ok, ↓w_Cnt, ↓w_Ext, ↓w_isBB, ↓w_isIB, ↓w_Enum, ↓w_enT]
  refine needring_w rc ic ?_
  simp only [↓w_ok, ↓kB_ok, ↓kI_ok, ↓w_K, ↓w_V, ↓w_vR, ↓w_Op, ↓kO1_ok, ↓kO2_ok, ↓w_Un, ↓w_bOf, ↓w_isB, ↓kBl_ok, ↓kBl_exc, ↓kIf_ok, ↓kIf_exc, ↓w_okB, ↓w_okD, ↓w_bAnd, ↓w_bOr, ↓w_bNot, ↓kNot_ok, ↓kNot_exc, ↓w_eAnd, ↓w_eOr, ↓w_eNot, ↓kNotV_ok, ↓w_eIf, ↓w_aNil, ↓w_aCons, ↓kA1_ok, ↓kA2_ok, ↓kA1_exc, ↓kA2_exc, ↓w_Tup, ↓w_Lst, ↓w_mkT, ↓w_mkL, ↓w_Dct, ↓w_Dct2, ↓w_SoSe, ↓w_Call, ↓w_goS, ↓w_Bi, ↓w_Isi, ↓w_Cut, ↓kC1_ok, ↓kC2_ok, ↓kC3_ok, ↓w_oNone, ↓w_oSome, ↓w_vO, ↓w_Chain, ↓kCh1_ok, ↓kCh2_ok, ↓kCh3_ok, ↓w_chA, ↓w_App, ↓w_Ins, ↓w_insG, ↓z_nx, ↓z_End, ↓z_Seq, ↓kT_nx, ↓kT_rt, ↓kT_bk, ↓kT_ct, ↓kT_exc, ↓z_If, ↓kIfS_ok, ↓kIfS_exc, ↓z_Ret, ↓kRet_ok, ↓kRet_exc, ↓z_Expr, ↓kNx_ok, ↓kNx_exc, ↓z_Asg, ↓kAs_ok, ↓kAs_exc, ↓z_tgO, t_N, t_T, t_nil, t_cons, t_G, t_gnil, t_gcons, t_bind, ↓z_Par, ↓kPar_ok, ↓z_Raise, ↓z_Break, ↓z_Cont, ↓z_For, ↓kSrc_ok, ↓w_Range, ↓w_rgF, ↓w_SeqI, ↓w_sqT, ↓w_Zip, ↓w_zpT, ↓w_Comp, ↓kCo_ok, ↓w_of, ↓kF_rt, ↓kF_nx, ↓kF_exc, ↓w_add, ↓w_sub, ↓w_pow10, ↓w_neg, ↓w_lt, ↓w_le, ↓w_gt, ↓w_ge, ↓w_ix0, ↓w_ix1, ↓w_ix2, ↓w_ix3, ↓w_eqI, ↓w_eqS, ↓w_eqT2, ↓w_abs, ↓w_lenT, ↓w_lenS, ↓w_max, ↓w_min, ↓w_intT, ↓w_intF, ↓w_isBool, ↓w_isTup, ↓w_tupT, ↓w_listT, ↓w_cutT, ↓brw_t, ↓brw_f, ↓brz_t, ↓brz_f, List.getElem?_cons_zero, List.getElem?_cons_succ, List.set_cons_zero, List.set_cons_succ, List.length_cons, List.length_nil, List.map_cons, List.map_nil, List.replicate, List.cons_append, List.nil_append, small, Nat.reduceAdd, Nat.reduceLeDiff, Nat.reduceEqDiff, Int.cast_ofNat_Int, Int.reduceBEq, BEq.rfl, ↓w_Yes, ↓w_bTru, ↓augF_ok, ↓z_Put, ↓putF_ok, ↓putG_ok, ↓w_isNn, ↓w_isNt, wipeF_nil, wipeF_cons, Int.reduceLE, Int.reduceLT, Int.reduceToNat, Int.reducePow, Int.reduceNeg, Int.reduceSub, Int.reduceAdd, Int.reduceMul, decide_true, decide_false, Bool.not_true, Bool.not_false, Bool.bne_false, Bool.bne_true, ↓w_aStar, ↓w_stT, ↓kSt_ok, ↓w_aDef, ↓kDf_ok, ↓w_Cnt, ↓w_Ext, ↓w_isBB, ↓w_isIB, ↓w_Enum, ↓w_enT, still_w]
  refine gapn_w k (stl_ok rc ic) fun m1 h1 g1 n1 l1 => ?_
  simp only [↓w_ok, ↓kB_ok, ↓kI_ok, ↓w_K, ↓w_V, ↓w_vR, ↓w_Op, ↓kO1_ok, ↓kO2_ok, ↓w_Un, ↓w_bOf, ↓w_isB, ↓kBl_ok, ↓kBl_exc, ↓kIf_ok, ↓kIf_exc, ↓w_okB, ↓w_okD, ↓w_bAnd, ↓w_bOr, ↓w_bNot, ↓kNot_ok, ↓kNot_exc, ↓w_eAnd, ↓w_eOr, ↓w_eNot, ↓kNotV_ok, ↓w_eIf, ↓w_aNil, ↓w_aCons, ↓kA1_ok, ↓kA2_ok, ↓kA1_exc, ↓kA2_exc, ↓w_Tup, ↓w_Lst, ↓w_mkT, ↓w_mkL, ↓w_Dct, ↓w_Dct2, ↓w_SoSe, ↓w_Call, ↓w_goS, ↓w_Bi, ↓w_Isi, ↓w_Cut, ↓kC1_ok, ↓kC2_ok, ↓kC3_ok, ↓w_oNone, ↓w_oSome, ↓w_vO, ↓w_Chain, ↓kCh1_ok, ↓kCh2_ok, ↓kCh3_ok, ↓w_chA, ↓w_App, ↓w_Ins, ↓w_insG, ↓z_nx, ↓z_End, ↓z_Seq, ↓kT_nx, ↓kT_rt, ↓kT_bk, ↓kT_ct, ↓kT_exc, ↓z_If, ↓kIfS_ok, ↓kIfS_exc, ↓z_Ret, ↓kRet_ok, ↓kRet_exc, ↓z_Expr, ↓kNx_ok, ↓kNx_exc, ↓z_Asg, ↓kAs_ok, ↓kAs_exc, ↓z_tgO, t_N, t_T, t_nil, t_cons, t_G, t_gnil, t_gcons, t_bind, ↓z_Par, ↓kPar_ok, ↓z_Raise, ↓z_Break, ↓z_Cont, ↓z_For, ↓kSrc_ok, ↓w_Range, ↓w_rgF, ↓w_SeqI, ↓w_sqT, ↓w_Zip, ↓w_zpT, ↓w_Comp, ↓kCo_ok, ↓w_of, ↓kF_rt, ↓kF_nx, ↓kF_exc, ↓w_add, ↓w_sub, ↓w_pow10, ↓w_neg, ↓w_lt, ↓w_le, ↓w_gt, ↓w_ge, ↓w_ix0, ↓w_ix1, ↓w_ix2, ↓w_ix3, ↓w_eqI, ↓w_eqS, ↓w_eqT2, ↓w_abs, ↓w_lenT, ↓w_lenS, ↓w_max, ↓w_min, ↓w_intT, ↓w_intF, ↓w_isBool, ↓w_isTup, ↓w_tupT, ↓w_listT, ↓w_cutT, ↓brw_t, ↓brw_f, ↓brz_t, ↓brz_f, List.getElem?_cons_zero, List.getElem?_cons_succ, List.set_cons_zero, List.set_cons_succ, List.length_cons, List.length_nil, List.map_cons, List.map_nil, List.replicate, List.cons_append, List.nil_append, small, Nat.reduceAdd, Nat.reduceLeDiff, Nat.reduceEqDiff, Int.cast_ofNat_Int, Int.reduceBEq, BEq.rfl, ↓w_Yes, ↓w_bTru, ↓augF_ok, ↓z_Put, ↓putF_ok, ↓putG_ok, ↓w_isNn, ↓w_isNt, wipeF_nil, wipeF_cons, Int.reduceLE, Int.reduceLT, Int.reduceToNat, Int.reducePow, Int.reduceNeg, Int.reduceSub, Int.reduceAdd, Int.reduceMul, decide_true, decide_false, Bool.not_true, Bool.not_false, Bool.bne_false, Bool.bne_true, ↓w_aStar, ↓w_stT, ↓kSt_ok, ↓w_aDef, ↓kDf_ok, ↓w_Cnt, ↓w_Ext, ↓w_isBB, ↓w_isIB, ↓w_Enum, ↓w_enT]
  refine comp_map (gpN r (stl c)) dZ (.lst _ _ l1) (by simp [gpN]) dWl ?_ fun h2 g2 n2 l2 => ?_
  · intro z hz
    refine ⟨_, rfl, fun h' Ψ g kq => ?_⟩
    simp only [↓w_ok, ↓kB_ok, ↓kI_ok, ↓w_K, ↓w_V, ↓w_vR, ↓w_Op, ↓kO1_ok, ↓kO2_ok, ↓w_Un, ↓w_bOf, ↓w_isB, ↓kBl_ok, ↓kBl_exc, ↓kIf_ok, ↓kIf_exc, ↓w_okB, ↓w_okD, ↓w_bAnd, ↓w_bOr, ↓w_bNot, ↓kNot_ok, ↓kNot_exc, ↓w_eAnd, ↓w_eOr, ↓w_eNot, ↓kNotV_ok, ↓w_eIf, ↓w_aNil, ↓w_aCons, ↓kA1_ok, ↓kA2_ok, ↓kA1_exc, ↓kA2_exc, ↓w_Tup, ↓w_Lst, ↓w_mkT, ↓w_mkL, ↓w_Dct, ↓w_Dct2, ↓w_SoSe, ↓w_Call, ↓w_goS, ↓w_Bi, ↓w_Isi, ↓w_Cut, ↓kC1_ok, ↓kC2_ok, ↓kC3_ok, ↓w_oNone, ↓w_oSome, ↓w_vO, ↓w_Chain, ↓kCh1_ok, ↓kCh2_ok, ↓kCh3_ok, ↓w_chA, ↓w_App, ↓w_Ins, ↓w_insG, ↓z_nx, ↓z_End, ↓z_Seq, ↓kT_nx, ↓kT_rt, ↓kT_bk, ↓kT_ct, ↓kT_exc, ↓z_If, ↓kIfS_ok, ↓kIfS_exc, ↓z_Ret, ↓kRet_ok, ↓kRet_exc, ↓z_Expr, ↓kNx_ok, ↓kNx_exc, ↓z_Asg, ↓kAs_ok, ↓kAs_exc, ↓z_tgO, t_N, t_T, t_nil, t_cons, t_G, t_gnil, t_gcons, t_bind, ↓z_Par, ↓kPar_ok, ↓z_Raise, ↓z_Break, ↓z_Cont, ↓z_For, ↓kSrc_ok, ↓w_Range, ↓w_rgF, ↓w_SeqI, ↓w_sqT, ↓w_Zip, ↓w_zpT, ↓w_Comp, ↓kCo_ok, ↓w_of, ↓kF_rt, ↓kF_nx, ↓kF_exc, ↓w_add, ↓w_sub, ↓w_pow10, ↓w_neg, ↓w_lt, ↓w_le, ↓w_gt, ↓w_ge, ↓w_ix0, ↓w_ix1, ↓w_ix2, ↓w_ix3, ↓w_eqI, ↓w_eqS, ↓w_eqT2, ↓w_abs, ↓w_lenT, ↓w_lenS, ↓w_max, ↓w_min, ↓w_intT, ↓w_intF, ↓w_isBool, ↓w_isTup, ↓w_tupT, ↓w_listT, ↓w_cutT, ↓brw_t, ↓brw_f, ↓brz_t, ↓brz_f, List.getElem?_cons_zero, List.getElem?_cons_succ, List.set_cons_zero, List.set_cons_succ, List.length_cons, List.length_nil, List.map_cons, List.map_nil, List.replicate, List.cons_append, List.nil_append, small, Nat.reduceAdd, Nat.reduceLeDiff, Nat.reduceEqDiff, Int.cast_ofNat_Int, Int.reduceBEq, BEq.rfl, ↓w_Yes, ↓w_bTru, ↓augF_ok, ↓z_Put, ↓putF_ok, ↓putG_ok, ↓w_isNn, ↓w_isNt, wipeF_nil, wipeF_cons, Int.reduceLE, Int.reduceLT, Int.reduceToNat, Int.reducePow, Int.reduceNeg, Int.reduceSub, Int.reduceAdd, Int.reduceMul, decide_true, decide_false, Bool.not_true, Bool.not_false, Bool.bne_false, Bool.bne_true, ↓w_aStar, ↓w_stT, ↓kSt_ok, ↓w_aDef, ↓kDf_ok, ↓w_Cnt, ↓w_Ext, ↓w_isBB, ↓w_isIB, ↓w_Enum, ↓w_enT, wline_w]
    exact kq h' (Gr.refl _)
  simp only [↓w_ok, ↓kB_ok, ↓kI_ok, ↓w_K, ↓w_V, ↓w_vR, ↓w_Op, ↓kO1_ok, ↓kO2_ok, ↓w_Un, ↓w_bOf, ↓w_isB, ↓kBl_ok, ↓kBl_exc, ↓kIf_ok, ↓kIf_exc, ↓w_okB, ↓w_okD, ↓w_bAnd, ↓w_bOr, ↓w_bNot, ↓kNot_ok, ↓kNot_exc, ↓w_eAnd, ↓w_eOr, ↓w_eNot, ↓kNotV_ok, ↓w_eIf, ↓w_aNil, ↓w_aCons, ↓kA1_ok, ↓kA2_ok, ↓kA1_exc, ↓kA2_exc, ↓w_Tup, ↓w_Lst, ↓w_mkT, ↓w_mkL, ↓w_Dct, ↓w_Dct2, ↓w_SoSe, ↓w_Call, ↓w_goS, ↓w_Bi, ↓w_Isi, ↓w_Cut, ↓kC1_ok, ↓kC2_ok, ↓kC3_ok, ↓w_oNone, ↓w_oSome, ↓w_vO, ↓w_Chain, ↓kCh1_ok, ↓kCh2_ok, ↓kCh3_ok, ↓w_chA, ↓w_App, ↓w_Ins, ↓w_insG, ↓z_nx, ↓z_End, ↓z_Seq, ↓kT_nx, ↓kT_rt, ↓kT_bk, ↓kT_ct, ↓kT_exc, ↓z_If, ↓kIfS_ok, ↓kIfS_exc, ↓z_Ret, ↓kRet_ok, ↓kRet_exc, ↓z_Expr, ↓kNx_ok, ↓kNx_exc, ↓z_Asg, ↓kAs_ok, ↓kAs_exc, ↓z_tgO, t_N, t_T, t_nil, t_cons, t_G, t_gnil, t_gcons, t_bind, ↓z_Par, ↓kPar_ok, ↓z_Raise, ↓z_Break, ↓z_Cont, ↓z_For, ↓kSrc_ok, ↓w_Range, ↓w_rgF, ↓w_SeqI, ↓w_sqT, ↓w_Zip, ↓w_zpT, ↓w_Comp, ↓kCo_ok, ↓w_of, ↓kF_rt, ↓kF_nx, ↓kF_exc, ↓w_add, ↓w_sub, ↓w_pow10, ↓w_neg, ↓w_lt, ↓w_le, ↓w_gt, ↓w_ge, ↓w_ix0, ↓w_ix1, ↓w_ix2, ↓w_ix3, ↓w_eqI, ↓w_eqS, ↓w_eqT2, ↓w_abs, ↓w_lenT, ↓w_lenS, ↓w_max, ↓w_min, ↓w_intT, ↓w_intF, ↓w_isBool, ↓w_isTup, ↓w_tupT, ↓w_listT, ↓w_cutT, ↓brw_t, ↓brw_f, ↓brz_t, ↓brz_f, List.getElem?_cons_zero, List.getElem?_cons_succ, List.set_cons_zero, List.set_cons_succ, List.length_cons, List.length_nil, List.map_cons, List.map_nil, List.replicate, List.cons_append, List.nil_append, small, Nat.reduceAdd, Nat.reduceLeDiff, Nat.reduceEqDiff, Int.cast_ofNat_Int, Int.reduceBEq, BEq.rfl, ↓w_Yes, ↓w_bTru, ↓augF_ok, ↓z_Put, ↓putF_ok, ↓putG_ok, ↓w_isNn, ↓w_isNt, wipeF_nil, wipeF_cons, Int.reduceLE, Int.reduceLT, Int.reduceToNat, Int.reducePow, Int.reduceNeg, Int.reduceSub, Int.reduceAdd, Int.reduceMul, decide_true, decide_false, Bool.not_true, Bool.not_false, Bool.bne_false, Bool.bne_true, ↓w_aStar, ↓w_stT, ↓kSt_ok, ↓w_aDef, ↓kDf_ok, ↓w_Cnt, ↓w_Ext, ↓w_isBB, ↓w_isIB, ↓w_Enum, ↓w_enT, w_tupL l2]
  exact kk h2 (g1.trans g2)
theorem mvd_bd {B : Nat} {r : Row} {t : Qp} (k : RwOk r) (f : Bq B t) : ∀ q ∈ mvd r t, Bd (B + 42) q.1 ∧ Bd (B + 42) q.2 := by
  intro q hq
  obtain ⟨z, hz, rfl⟩ := List.mem_map.1 hq
  have ib := (k.ib z hz).b1
  have bg := gone_bd k f
  exact ⟨(((ib.1.mul f.b2).mono (by omega)).add ((k.bu.mul bg).mono (show _ ≤ B + 41 by omega))).mono (by omega), (((ib.2.mul f.b2).mono (by omega)).add ((k.bv.mul bg).mono (show _ ≤ B + 41 by omega))).mono (by omega)⟩
theorem mvd_ne {r : Row} {t : Qp} (k : RwOk r) : mvd r t ≠ [] := by
  have := k.rn.ne
  unfold mvd; simpa using this
theorem mvd_len {r : Row} {t : Qp} : (mvd r t).length = r.c.length := by unfold mvd; simp
theorem gapat_w {r : Row} {c : List Zp} {t : Qp} (k : RwOk r) (rc : Rn c) (ic : ∀ q ∈ c, In9 q) (f : Fq 150 t) (mt : mom t) (kk : ∀ h1, Gr h h1 → Φ (.ok (dq (lowQ (gapZ (mvd r t) (mvd (stl c) t)) t.2)) h1)) : W (fgap_at [dRw r, .tup (c.map dZ), dq t] h) Φ := by
  have k2 := stl_ok rc ic
  have c8 := k.rn.le
  have d8 := k2.rn.le
  unfold fgap_at bgap_at
  simp only [↓w_ok, ↓kB_ok, ↓kI_ok, ↓w_K, ↓w_V, ↓w_vR, ↓w_Op, ↓kO1_ok, ↓kO2_ok, ↓w_Un, ↓w_bOf, ↓w_isB, ↓kBl_ok, ↓kBl_exc, ↓kIf_ok, ↓kIf_exc, ↓w_okB, ↓w_okD, ↓w_bAnd, ↓w_bOr, ↓w_bNot, ↓kNot_ok, ↓kNot_exc, ↓w_eAnd, ↓w_eOr, ↓w_eNot, ↓kNotV_ok, ↓w_eIf, ↓w_aNil, ↓w_aCons, ↓kA1_ok, ↓kA2_ok, ↓kA1_exc, ↓kA2_exc, ↓w_Tup, ↓w_Lst, ↓w_mkT, ↓w_mkL, ↓w_Dct, ↓w_Dct2, ↓w_SoSe, ↓w_Call, ↓w_goS, ↓w_Bi, ↓w_Isi, ↓w_Cut, ↓kC1_ok, ↓kC2_ok, ↓kC3_ok, ↓w_oNone, ↓w_oSome, ↓w_vO, ↓w_Chain, ↓kCh1_ok, ↓kCh2_ok, ↓kCh3_ok, ↓w_chA, ↓w_App, ↓w_Ins, ↓w_insG, ↓z_nx, ↓z_End, ↓z_Seq, ↓kT_nx, ↓kT_rt, ↓kT_bk, ↓kT_ct, ↓kT_exc, ↓z_If, ↓kIfS_ok, ↓kIfS_exc, ↓z_Ret, ↓kRet_ok, ↓kRet_exc, ↓z_Expr, ↓kNx_ok, ↓kNx_exc, ↓z_Asg, ↓kAs_ok, ↓kAs_exc, ↓z_tgO, t_N, t_T, t_nil, t_cons, t_G, t_gnil, t_gcons, t_bind, ↓z_Par, ↓kPar_ok, ↓z_Raise, ↓z_Break, ↓z_Cont, ↓z_For, ↓kSrc_ok, ↓w_Range, ↓w_rgF, ↓w_SeqI, ↓w_sqT, ↓w_Zip, ↓w_zpT, ↓w_Comp, ↓kCo_ok, ↓w_of, ↓kF_rt, ↓kF_nx, ↓kF_exc, ↓w_add, ↓w_sub, ↓w_pow10, ↓w_neg, ↓w_lt, ↓w_le, ↓w_gt, ↓w_ge, ↓w_ix0, ↓w_ix1, ↓w_ix2, ↓w_ix3, ↓w_eqI, ↓w_eqS, ↓w_eqT2, ↓w_abs, ↓w_lenT, ↓w_lenS, ↓w_max, ↓w_min, ↓w_intT, ↓w_intF, ↓w_isBool, ↓w_isTup, ↓w_tupT, ↓w_listT, ↓w_cutT, ↓brw_t, ↓brw_f, ↓brz_t, ↓brz_f, List.getElem?_cons_zero, List.getElem?_cons_succ, List.set_cons_zero, List.set_cons_succ, List.length_cons, List.length_nil, List.map_cons, List.map_nil, List.replicate, List.cons_append, List.nil_append, small, Nat.reduceAdd, Nat.reduceLeDiff, Nat.reduceEqDiff, Int.cast_ofNat_Int, Int.reduceBEq, BEq.rfl, ↓w_Yes, ↓w_bTru, ↓augF_ok, ↓z_Put, ↓putF_ok, ↓putG_ok, ↓w_isNn, ↓w_isNt, wipeF_nil, wipeF_cons, Int.reduceLE, Int.reduceLT, Int.reduceToNat, Int.reducePow, Int.reduceNeg, Int.reduceSub, Int.reduceAdd, Int.reduceMul, decide_true, decide_false, Bool.not_true, Bool.not_false, Bool.bne_false, Bool.bne_true, ↓w_aStar, ↓w_stT, ↓kSt_ok, ↓w_aDef, ↓kDf_ok, ↓w_Cnt, ↓w_Ext, ↓w_isBB, ↓w_isIB, ↓w_Enum, ↓w_enT]
  refine needrwr_w k ?_
  simp only [↓w_ok, ↓kB_ok, ↓kI_ok, ↓w_K, ↓w_V, ↓w_vR, ↓w_Op, ↓kO1_ok, ↓kO2_ok, ↓w_Un, ↓w_bOf, ↓w_isB, ↓kBl_ok, ↓kBl_exc, ↓kIf_ok, ↓kIf_exc, ↓w_okB, ↓w_okD, ↓w_bAnd, ↓w_bOr, ↓w_bNot, ↓kNot_ok, ↓kNot_exc, ↓w_eAnd, ↓w_eOr, ↓w_eNot, ↓kNotV_ok, ↓w_eIf, ↓w_aNil, ↓w_aCons, ↓kA1_ok, ↓kA2_ok, ↓kA1_exc, ↓kA2_exc, ↓w_Tup, ↓w_Lst, ↓w_mkT, ↓w_mkL, ↓w_Dct, ↓w_Dct2, ↓w_SoSe, ↓w_Call, ↓w_goS, ↓w_Bi, ↓w_Isi, ↓w_Cut, ↓kC1_ok, ↓kC2_ok, ↓kC3_ok, ↓w_oNone, ↓w_oSome, ↓w_vO, ↓w_Chain, ↓kCh1_ok, ↓kCh2_ok, ↓kCh3_ok, ↓w_chA, ↓w_App, ↓w_Ins, ↓w_insG, ↓z_nx, ↓z_End, ↓z_Seq, ↓kT_nx, ↓kT_rt, ↓kT_bk, ↓kT_ct, ↓kT_exc, ↓z_If, ↓kIfS_ok, ↓kIfS_exc, ↓z_Ret, ↓kRet_ok, ↓kRet_exc, ↓z_Expr, ↓kNx_ok, ↓kNx_exc, ↓z_Asg, ↓kAs_ok, ↓kAs_exc, ↓z_tgO, t_N, t_T, t_nil, t_cons, t_G, t_gnil, t_gcons, t_bind, ↓z_Par, ↓kPar_ok, ↓z_Raise, ↓z_Break, ↓z_Cont, ↓z_For, ↓kSrc_ok, ↓w_Range, ↓w_rgF, ↓w_SeqI, ↓w_sqT, ↓w_Zip, ↓w_zpT, ↓w_Comp, ↓kCo_ok, ↓w_of, ↓kF_rt, ↓kF_nx, ↓kF_exc, ↓w_add, ↓w_sub, ↓w_pow10, ↓w_neg, ↓w_lt, ↓w_le, ↓w_gt, ↓w_ge, ↓w_ix0, ↓w_ix1, ↓w_ix2, ↓w_ix3, ↓w_eqI, ↓w_eqS, ↓w_eqT2, ↓w_abs, ↓w_lenT, ↓w_lenS, ↓w_max, ↓w_min, ↓w_intT, ↓w_intF, ↓w_isBool, ↓w_isTup, ↓w_tupT, ↓w_listT, ↓w_cutT, ↓brw_t, ↓brw_f, ↓brz_t, ↓brz_f, List.getElem?_cons_zero, List.getElem?_cons_succ, List.set_cons_zero, List.set_cons_succ, List.length_cons, List.length_nil, List.map_cons, List.map_nil, List.replicate, List.cons_append, List.nil_append, small, Nat.reduceAdd, Nat.reduceLeDiff, Nat.reduceEqDiff, Int.cast_ofNat_Int, Int.reduceBEq, BEq.rfl, ↓w_Yes, ↓w_bTru, ↓augF_ok, ↓z_Put, ↓putF_ok, ↓putG_ok, ↓w_isNn, ↓w_isNt, wipeF_nil, wipeF_cons, Int.reduceLE, Int.reduceLT, Int.reduceToNat, Int.reducePow, Int.reduceNeg, Int.reduceSub, Int.reduceAdd, Int.reduceMul, decide_true, decide_false, Bool.not_true, Bool.not_false, Bool.bne_false, Bool.bne_true, ↓w_aStar, ↓w_stT, ↓kSt_ok, ↓w_aDef, ↓kDf_ok, ↓w_Cnt, ↓w_Ext, ↓w_isBB, ↓w_isIB, ↓w_Enum, ↓w_enT]
  refine needring_w rc ic ?_
  simp only [↓w_ok, ↓kB_ok, ↓kI_ok, ↓w_K, ↓w_V, ↓w_vR, ↓w_Op, ↓kO1_ok, ↓kO2_ok, ↓w_Un, ↓w_bOf, ↓w_isB, ↓kBl_ok, ↓kBl_exc, ↓kIf_ok, ↓kIf_exc, ↓w_okB, ↓w_okD, ↓w_bAnd, ↓w_bOr, ↓w_bNot, ↓kNot_ok, ↓kNot_exc, ↓w_eAnd, ↓w_eOr, ↓w_eNot, ↓kNotV_ok, ↓w_eIf, ↓w_aNil, ↓w_aCons, ↓kA1_ok, ↓kA2_ok, ↓kA1_exc, ↓kA2_exc, ↓w_Tup, ↓w_Lst, ↓w_mkT, ↓w_mkL, ↓w_Dct, ↓w_Dct2, ↓w_SoSe, ↓w_Call, ↓w_goS, ↓w_Bi, ↓w_Isi, ↓w_Cut, ↓kC1_ok, ↓kC2_ok, ↓kC3_ok, ↓w_oNone, ↓w_oSome, ↓w_vO, ↓w_Chain, ↓kCh1_ok, ↓kCh2_ok, ↓kCh3_ok, ↓w_chA, ↓w_App, ↓w_Ins, ↓w_insG, ↓z_nx, ↓z_End, ↓z_Seq, ↓kT_nx, ↓kT_rt, ↓kT_bk, ↓kT_ct, ↓kT_exc, ↓z_If, ↓kIfS_ok, ↓kIfS_exc, ↓z_Ret, ↓kRet_ok, ↓kRet_exc, ↓z_Expr, ↓kNx_ok, ↓kNx_exc, ↓z_Asg, ↓kAs_ok, ↓kAs_exc, ↓z_tgO, t_N, t_T, t_nil, t_cons, t_G, t_gnil, t_gcons, t_bind, ↓z_Par, ↓kPar_ok, ↓z_Raise, ↓z_Break, ↓z_Cont, ↓z_For, ↓kSrc_ok, ↓w_Range, ↓w_rgF, ↓w_SeqI, ↓w_sqT, ↓w_Zip, ↓w_zpT, ↓w_Comp, ↓kCo_ok, ↓w_of, ↓kF_rt, ↓kF_nx, ↓kF_exc, ↓w_add, ↓w_sub, ↓w_pow10, ↓w_neg, ↓w_lt, ↓w_le, ↓w_gt, ↓w_ge, ↓w_ix0, ↓w_ix1, ↓w_ix2, ↓w_ix3, ↓w_eqI, ↓w_eqS, ↓w_eqT2, ↓w_abs, ↓w_lenT, ↓w_lenS, ↓w_max, ↓w_min, ↓w_intT, ↓w_intF, ↓w_isBool, ↓w_isTup, ↓w_tupT, ↓w_listT, ↓w_cutT, ↓brw_t, ↓brw_f, ↓brz_t, ↓brz_f, List.getElem?_cons_zero, List.getElem?_cons_succ, List.set_cons_zero, List.set_cons_succ, List.length_cons, List.length_nil, List.map_cons, List.map_nil, List.replicate, List.cons_append, List.nil_append, small, Nat.reduceAdd, Nat.reduceLeDiff, Nat.reduceEqDiff, Int.cast_ofNat_Int, Int.reduceBEq, BEq.rfl, ↓w_Yes, ↓w_bTru, ↓augF_ok, ↓z_Put, ↓putF_ok, ↓putG_ok, ↓w_isNn, ↓w_isNt, wipeF_nil, wipeF_cons, Int.reduceLE, Int.reduceLT, Int.reduceToNat, Int.reducePow, Int.reduceNeg, Int.reduceSub, Int.reduceAdd, Int.reduceMul, decide_true, decide_false, Bool.not_true, Bool.not_false, Bool.bne_false, Bool.bne_true, ↓w_aStar, ↓w_stT, ↓kSt_ok, ↓w_aDef, ↓kDf_ok, ↓w_Cnt, ↓w_Ext, ↓w_isBB, ↓w_isIB, ↓w_Enum, ↓w_enT]
  refine W.of (needmom_ok f mt) ?_
  simp only [↓w_ok, ↓kB_ok, ↓kI_ok, ↓w_K, ↓w_V, ↓w_vR, ↓w_Op, ↓kO1_ok, ↓kO2_ok, ↓w_Un, ↓w_bOf, ↓w_isB, ↓kBl_ok, ↓kBl_exc, ↓kIf_ok, ↓kIf_exc, ↓w_okB, ↓w_okD, ↓w_bAnd, ↓w_bOr, ↓w_bNot, ↓kNot_ok, ↓kNot_exc, ↓w_eAnd, ↓w_eOr, ↓w_eNot, ↓kNotV_ok, ↓w_eIf, ↓w_aNil, ↓w_aCons, ↓kA1_ok, ↓kA2_ok, ↓kA1_exc, ↓kA2_exc, ↓w_Tup, ↓w_Lst, ↓w_mkT, ↓w_mkL, ↓w_Dct, ↓w_Dct2, ↓w_SoSe, ↓w_Call, ↓w_goS, ↓w_Bi, ↓w_Isi, ↓w_Cut, ↓kC1_ok, ↓kC2_ok, ↓kC3_ok, ↓w_oNone, ↓w_oSome, ↓w_vO, ↓w_Chain, ↓kCh1_ok, ↓kCh2_ok, ↓kCh3_ok, ↓w_chA, ↓w_App, ↓w_Ins, ↓w_insG, ↓z_nx, ↓z_End, ↓z_Seq, ↓kT_nx, ↓kT_rt, ↓kT_bk, ↓kT_ct, ↓kT_exc, ↓z_If, ↓kIfS_ok, ↓kIfS_exc, ↓z_Ret, ↓kRet_ok, ↓kRet_exc, ↓z_Expr, ↓kNx_ok, ↓kNx_exc, ↓z_Asg, ↓kAs_ok, ↓kAs_exc, ↓z_tgO, t_N, t_T, t_nil, t_cons, t_G, t_gnil, t_gcons, t_bind, ↓z_Par, ↓kPar_ok, ↓z_Raise, ↓z_Break, ↓z_Cont, ↓z_For, ↓kSrc_ok, ↓w_Range, ↓w_rgF, ↓w_SeqI, ↓w_sqT, ↓w_Zip, ↓w_zpT, ↓w_Comp, ↓kCo_ok, ↓w_of, ↓kF_rt, ↓kF_nx, ↓kF_exc, ↓w_add, ↓w_sub, ↓w_pow10, ↓w_neg, ↓w_lt, ↓w_le, ↓w_gt, ↓w_ge, ↓w_ix0, ↓w_ix1, ↓w_ix2, ↓w_ix3, ↓w_eqI, ↓w_eqS, ↓w_eqT2, ↓w_abs, ↓w_lenT, ↓w_lenS, ↓w_max, ↓w_min, ↓w_intT, ↓w_intF, ↓w_isBool, ↓w_isTup, ↓w_tupT, ↓w_listT, ↓w_cutT, ↓brw_t, ↓brw_f, ↓brz_t, ↓brz_f, List.getElem?_cons_zero, List.getElem?_cons_succ, List.set_cons_zero, List.set_cons_succ, List.length_cons, List.length_nil, List.map_cons, List.map_nil, List.replicate, List.cons_append, List.nil_append, small, Nat.reduceAdd, Nat.reduceLeDiff, Nat.reduceEqDiff, Int.cast_ofNat_Int, Int.reduceBEq, BEq.rfl, ↓w_Yes, ↓w_bTru, ↓augF_ok, ↓z_Put, ↓putF_ok, ↓putG_ok, ↓w_isNn, ↓w_isNt, wipeF_nil, wipeF_cons, Int.reduceLE, Int.reduceLT, Int.reduceToNat, Int.reducePow, Int.reduceNeg, Int.reduceSub, Int.reduceAdd, Int.reduceMul, decide_true, decide_false, Bool.not_true, Bool.not_false, Bool.bne_false, Bool.bne_true, ↓w_aStar, ↓w_stT, ↓kSt_ok, ↓w_aDef, ↓kDf_ok, ↓w_Cnt, ↓w_Ext, ↓w_isBB, ↓w_isIB, ↓w_Enum, ↓w_enT]
  refine movedp_w k f.bq (by decide) fun h1 g1 => ?_
  simp only [↓w_ok, ↓kB_ok, ↓kI_ok, ↓w_K, ↓w_V, ↓w_vR, ↓w_Op, ↓kO1_ok, ↓kO2_ok, ↓w_Un, ↓w_bOf, ↓w_isB, ↓kBl_ok, ↓kBl_exc, ↓kIf_ok, ↓kIf_exc, ↓w_okB, ↓w_okD, ↓w_bAnd, ↓w_bOr, ↓w_bNot, ↓kNot_ok, ↓kNot_exc, ↓w_eAnd, ↓w_eOr, ↓w_eNot, ↓kNotV_ok, ↓w_eIf, ↓w_aNil, ↓w_aCons, ↓kA1_ok, ↓kA2_ok, ↓kA1_exc, ↓kA2_exc, ↓w_Tup, ↓w_Lst, ↓w_mkT, ↓w_mkL, ↓w_Dct, ↓w_Dct2, ↓w_SoSe, ↓w_Call, ↓w_goS, ↓w_Bi, ↓w_Isi, ↓w_Cut, ↓kC1_ok, ↓kC2_ok, ↓kC3_ok, ↓w_oNone, ↓w_oSome, ↓w_vO, ↓w_Chain, ↓kCh1_ok, ↓kCh2_ok, ↓kCh3_ok, ↓w_chA, ↓w_App, ↓w_Ins, ↓w_insG, ↓z_nx, ↓z_End, ↓z_Seq, ↓kT_nx, ↓kT_rt, ↓kT_bk, ↓kT_ct, ↓kT_exc, ↓z_If, ↓kIfS_ok, ↓kIfS_exc, ↓z_Ret, ↓kRet_ok, ↓kRet_exc, ↓z_Expr, ↓kNx_ok, ↓kNx_exc, ↓z_Asg, ↓kAs_ok, ↓kAs_exc, ↓z_tgO, t_N, t_T, t_nil, t_cons, t_G, t_gnil, t_gcons, t_bind, ↓z_Par, ↓kPar_ok, ↓z_Raise, ↓z_Break, ↓z_Cont, ↓z_For, ↓kSrc_ok, ↓w_Range, ↓w_rgF, ↓w_SeqI, ↓w_sqT, ↓w_Zip, ↓w_zpT, ↓w_Comp, ↓kCo_ok, ↓w_of, ↓kF_rt, ↓kF_nx, ↓kF_exc, ↓w_add, ↓w_sub, ↓w_pow10, ↓w_neg, ↓w_lt, ↓w_le, ↓w_gt, ↓w_ge, ↓w_ix0, ↓w_ix1, ↓w_ix2, ↓w_ix3, ↓w_eqI, ↓w_eqS, ↓w_eqT2, ↓w_abs, ↓w_lenT, ↓w_lenS, ↓w_max, ↓w_min, ↓w_intT, ↓w_intF, ↓w_isBool, ↓w_isTup, ↓w_tupT, ↓w_listT, ↓w_cutT, ↓brw_t, ↓brw_f, ↓brz_t, ↓brz_f, List.getElem?_cons_zero, List.getElem?_cons_succ, List.set_cons_zero, List.set_cons_succ, List.length_cons, List.length_nil, List.map_cons, List.map_nil, List.replicate, List.cons_append, List.nil_append, small, Nat.reduceAdd, Nat.reduceLeDiff, Nat.reduceEqDiff, Int.cast_ofNat_Int, Int.reduceBEq, BEq.rfl, ↓w_Yes, ↓w_bTru, ↓augF_ok, ↓z_Put, ↓putF_ok, ↓putG_ok, ↓w_isNn, ↓w_isNt, wipeF_nil, wipeF_cons, Int.reduceLE, Int.reduceLT, Int.reduceToNat, Int.reducePow, Int.reduceNeg, Int.reduceSub, Int.reduceAdd, Int.reduceMul, decide_true, decide_false, Bool.not_true, Bool.not_false, Bool.bne_false, Bool.bne_true, ↓w_aStar, ↓w_stT, ↓kSt_ok, ↓w_aDef, ↓kDf_ok, ↓w_Cnt, ↓w_Ext, ↓w_isBB, ↓w_isIB, ↓w_Enum, ↓w_enT, still_w]
  refine movedp_w k2 f.bq (by decide) fun h2 g2 => ?_
  simp only [↓w_ok, ↓kB_ok, ↓kI_ok, ↓w_K, ↓w_V, ↓w_vR, ↓w_Op, ↓kO1_ok, ↓kO2_ok, ↓w_Un, ↓w_bOf, ↓w_isB, ↓kBl_ok, ↓kBl_exc, ↓kIf_ok, ↓kIf_exc, ↓w_okB, ↓w_okD, ↓w_bAnd, ↓w_bOr, ↓w_bNot, ↓kNot_ok, ↓kNot_exc, ↓w_eAnd, ↓w_eOr, ↓w_eNot, ↓kNotV_ok, ↓w_eIf, ↓w_aNil, ↓w_aCons, ↓kA1_ok, ↓kA2_ok, ↓kA1_exc, ↓kA2_exc, ↓w_Tup, ↓w_Lst, ↓w_mkT, ↓w_mkL, ↓w_Dct, ↓w_Dct2, ↓w_SoSe, ↓w_Call, ↓w_goS, ↓w_Bi, ↓w_Isi, ↓w_Cut, ↓kC1_ok, ↓kC2_ok, ↓kC3_ok, ↓w_oNone, ↓w_oSome, ↓w_vO, ↓w_Chain, ↓kCh1_ok, ↓kCh2_ok, ↓kCh3_ok, ↓w_chA, ↓w_App, ↓w_Ins, ↓w_insG, ↓z_nx, ↓z_End, ↓z_Seq, ↓kT_nx, ↓kT_rt, ↓kT_bk, ↓kT_ct, ↓kT_exc, ↓z_If, ↓kIfS_ok, ↓kIfS_exc, ↓z_Ret, ↓kRet_ok, ↓kRet_exc, ↓z_Expr, ↓kNx_ok, ↓kNx_exc, ↓z_Asg, ↓kAs_ok, ↓kAs_exc, ↓z_tgO, t_N, t_T, t_nil, t_cons, t_G, t_gnil, t_gcons, t_bind, ↓z_Par, ↓kPar_ok, ↓z_Raise, ↓z_Break, ↓z_Cont, ↓z_For, ↓kSrc_ok, ↓w_Range, ↓w_rgF, ↓w_SeqI, ↓w_sqT, ↓w_Zip, ↓w_zpT, ↓w_Comp, ↓kCo_ok, ↓w_of, ↓kF_rt, ↓kF_nx, ↓kF_exc, ↓w_add, ↓w_sub, ↓w_pow10, ↓w_neg, ↓w_lt, ↓w_le, ↓w_gt, ↓w_ge, ↓w_ix0, ↓w_ix1, ↓w_ix2, ↓w_ix3, ↓w_eqI, ↓w_eqS, ↓w_eqT2, ↓w_abs, ↓w_lenT, ↓w_lenS, ↓w_max, ↓w_min, ↓w_intT, ↓w_intF, ↓w_isBool, ↓w_isTup, ↓w_tupT, ↓w_listT, ↓w_cutT, ↓brw_t, ↓brw_f, ↓brz_t, ↓brz_f, List.getElem?_cons_zero, List.getElem?_cons_succ, List.set_cons_zero, List.set_cons_succ, List.length_cons, List.length_nil, List.map_cons, List.map_nil, List.replicate, List.cons_append, List.nil_append, small, Nat.reduceAdd, Nat.reduceLeDiff, Nat.reduceEqDiff, Int.cast_ofNat_Int, Int.reduceBEq, BEq.rfl, ↓w_Yes, ↓w_bTru, ↓augF_ok, ↓z_Put, ↓putF_ok, ↓putG_ok, ↓w_isNn, ↓w_isNt, wipeF_nil, wipeF_cons, Int.reduceLE, Int.reduceLT, Int.reduceToNat, Int.reducePow, Int.reduceNeg, Int.reduceSub, Int.reduceAdd, Int.reduceMul, decide_true, decide_false, Bool.not_true, Bool.not_false, Bool.bne_false, Bool.bne_true, ↓w_aStar, ↓w_stT, ↓kSt_ok, ↓w_aDef, ↓kDf_ok, ↓w_Cnt, ↓w_Ext, ↓w_isBB, ↓w_isIB, ↓w_Enum, ↓w_enT]
  refine gapof_w (mvd_ne k) (mvd_ne k2) (by rw [mvd_len]; omega) (by rw [mvd_len]; omega) fun h3 g3 => ?_
  simp only [↓w_ok, ↓kB_ok, ↓kI_ok, ↓w_K, ↓w_V, ↓w_vR, ↓w_Op, ↓kO1_ok, ↓kO2_ok, ↓w_Un, ↓w_bOf, ↓w_isB, ↓kBl_ok, ↓kBl_exc, ↓kIf_ok, ↓kIf_exc, ↓w_okB, ↓w_okD, ↓w_bAnd, ↓w_bOr, ↓w_bNot, ↓kNot_ok, ↓kNot_exc, ↓w_eAnd, ↓w_eOr, ↓w_eNot, ↓kNotV_ok, ↓w_eIf, ↓w_aNil, ↓w_aCons, ↓kA1_ok, ↓kA2_ok, ↓kA1_exc, ↓kA2_exc, ↓w_Tup, ↓w_Lst, ↓w_mkT, ↓w_mkL, ↓w_Dct, ↓w_Dct2, ↓w_SoSe, ↓w_Call, ↓w_goS, ↓w_Bi, ↓w_Isi, ↓w_Cut, ↓kC1_ok, ↓kC2_ok, ↓kC3_ok, ↓w_oNone, ↓w_oSome, ↓w_vO, ↓w_Chain, ↓kCh1_ok, ↓kCh2_ok, ↓kCh3_ok, ↓w_chA, ↓w_App, ↓w_Ins, ↓w_insG, ↓z_nx, ↓z_End, ↓z_Seq, ↓kT_nx, ↓kT_rt, ↓kT_bk, ↓kT_ct, ↓kT_exc, ↓z_If, ↓kIfS_ok, ↓kIfS_exc, ↓z_Ret, ↓kRet_ok, ↓kRet_exc, ↓z_Expr, ↓kNx_ok, ↓kNx_exc, ↓z_Asg, ↓kAs_ok, ↓kAs_exc, ↓z_tgO, t_N, t_T, t_nil, t_cons, t_G, t_gnil, t_gcons, t_bind, ↓z_Par, ↓kPar_ok, ↓z_Raise, ↓z_Break, ↓z_Cont, ↓z_For, ↓kSrc_ok, ↓w_Range, ↓w_rgF, ↓w_SeqI, ↓w_sqT, ↓w_Zip, ↓w_zpT, ↓w_Comp, ↓kCo_ok, ↓w_of, ↓kF_rt, ↓kF_nx, ↓kF_exc, ↓w_add, ↓w_sub, ↓w_pow10, ↓w_neg, ↓w_lt, ↓w_le, ↓w_gt, ↓w_ge, ↓w_ix0, ↓w_ix1, ↓w_ix2, ↓w_ix3, ↓w_eqI, ↓w_eqS, ↓w_eqT2, ↓w_abs, ↓w_lenT, ↓w_lenS, ↓w_max, ↓w_min, ↓w_intT, ↓w_intF, ↓w_isBool, ↓w_isTup, ↓w_tupT, ↓w_listT, ↓w_cutT, ↓brw_t, ↓brw_f, ↓brz_t, ↓brz_f, List.getElem?_cons_zero, List.getElem?_cons_succ, List.set_cons_zero, List.set_cons_succ, List.length_cons, List.length_nil, List.map_cons, List.map_nil, List.replicate, List.cons_append, List.nil_append, small, Nat.reduceAdd, Nat.reduceLeDiff, Nat.reduceEqDiff, Int.cast_ofNat_Int, Int.reduceBEq, BEq.rfl, ↓w_Yes, ↓w_bTru, ↓augF_ok, ↓z_Put, ↓putF_ok, ↓putG_ok, ↓w_isNn, ↓w_isNt, wipeF_nil, wipeF_cons, Int.reduceLE, Int.reduceLT, Int.reduceToNat, Int.reducePow, Int.reduceNeg, Int.reduceSub, Int.reduceAdd, Int.reduceMul, decide_true, decide_false, Bool.not_true, Bool.not_false, Bool.bne_false, Bool.bne_true, ↓w_aStar, ↓w_stT, ↓kSt_ok, ↓w_aDef, ↓kDf_ok, ↓w_Cnt, ↓w_Ext, ↓w_isBB, ↓w_isIB, ↓w_Enum, ↓w_enT]
  refine (lowp_w (by have := f.pos; omega) f.b2 (by decide)).mpr ?_
  simp only [↓w_ok, ↓kB_ok, ↓kI_ok, ↓w_K, ↓w_V, ↓w_vR, ↓w_Op, ↓kO1_ok, ↓kO2_ok, ↓w_Un, ↓w_bOf, ↓w_isB, ↓kBl_ok, ↓kBl_exc, ↓kIf_ok, ↓kIf_exc, ↓w_okB, ↓w_okD, ↓w_bAnd, ↓w_bOr, ↓w_bNot, ↓kNot_ok, ↓kNot_exc, ↓w_eAnd, ↓w_eOr, ↓w_eNot, ↓kNotV_ok, ↓w_eIf, ↓w_aNil, ↓w_aCons, ↓kA1_ok, ↓kA2_ok, ↓kA1_exc, ↓kA2_exc, ↓w_Tup, ↓w_Lst, ↓w_mkT, ↓w_mkL, ↓w_Dct, ↓w_Dct2, ↓w_SoSe, ↓w_Call, ↓w_goS, ↓w_Bi, ↓w_Isi, ↓w_Cut, ↓kC1_ok, ↓kC2_ok, ↓kC3_ok, ↓w_oNone, ↓w_oSome, ↓w_vO, ↓w_Chain, ↓kCh1_ok, ↓kCh2_ok, ↓kCh3_ok, ↓w_chA, ↓w_App, ↓w_Ins, ↓w_insG, ↓z_nx, ↓z_End, ↓z_Seq, ↓kT_nx, ↓kT_rt, ↓kT_bk, ↓kT_ct, ↓kT_exc, ↓z_If, ↓kIfS_ok, ↓kIfS_exc, ↓z_Ret, ↓kRet_ok, ↓kRet_exc, ↓z_Expr, ↓kNx_ok, ↓kNx_exc, ↓z_Asg, ↓kAs_ok, ↓kAs_exc, ↓z_tgO, t_N, t_T, t_nil, t_cons, t_G, t_gnil, t_gcons, t_bind, ↓z_Par, ↓kPar_ok, ↓z_Raise, ↓z_Break, ↓z_Cont, ↓z_For, ↓kSrc_ok, ↓w_Range, ↓w_rgF, ↓w_SeqI, ↓w_sqT, ↓w_Zip, ↓w_zpT, ↓w_Comp, ↓kCo_ok, ↓w_of, ↓kF_rt, ↓kF_nx, ↓kF_exc, ↓w_add, ↓w_sub, ↓w_pow10, ↓w_neg, ↓w_lt, ↓w_le, ↓w_gt, ↓w_ge, ↓w_ix0, ↓w_ix1, ↓w_ix2, ↓w_ix3, ↓w_eqI, ↓w_eqS, ↓w_eqT2, ↓w_abs, ↓w_lenT, ↓w_lenS, ↓w_max, ↓w_min, ↓w_intT, ↓w_intF, ↓w_isBool, ↓w_isTup, ↓w_tupT, ↓w_listT, ↓w_cutT, ↓brw_t, ↓brw_f, ↓brz_t, ↓brz_f, List.getElem?_cons_zero, List.getElem?_cons_succ, List.set_cons_zero, List.set_cons_succ, List.length_cons, List.length_nil, List.map_cons, List.map_nil, List.replicate, List.cons_append, List.nil_append, small, Nat.reduceAdd, Nat.reduceLeDiff, Nat.reduceEqDiff, Int.cast_ofNat_Int, Int.reduceBEq, BEq.rfl, ↓w_Yes, ↓w_bTru, ↓augF_ok, ↓z_Put, ↓putF_ok, ↓putG_ok, ↓w_isNn, ↓w_isNt, wipeF_nil, wipeF_cons, Int.reduceLE, Int.reduceLT, Int.reduceToNat, Int.reducePow, Int.reduceNeg, Int.reduceSub, Int.reduceAdd, Int.reduceMul, decide_true, decide_false, Bool.not_true, Bool.not_false, Bool.bne_false, Bool.bne_true, ↓w_aStar, ↓w_stT, ↓kSt_ok, ↓w_aDef, ↓kDf_ok, ↓w_Cnt, ↓w_Ext, ↓w_isBB, ↓w_isIB, ↓w_Enum, ↓w_enT]
  exact kk h3 (g1.trans (g2.trans g3))
end
end K33
end
section
set_option Elab.async false
set_option linter.all false
set_option autoImplicit false
set_option maxRecDepth 100000
set_option exponentiation.threshold 20000
set_option maxHeartbeats 4000000
open PySem L2
namespace K33
open MI
/-- the pace's part -/
def pcs (r : Row) (i : Nat) : Int := if i = 0 then r.u else r.v
def dus (r : Row) (c : List Zp) (i : Nat) : List Zp := [(mnz (c.map (sel i)) - mxz (r.c.map (sel i)) + pcs r i * r.m, 0 - pcs r i), (mnz (r.c.map (sel i)) - mxz (c.map (sel i)) - pcs r i * r.m, pcs r i)]
theorem due_gp (r : Row) (c : List Zp) : ((0, 0) :: (dus r c 0 ++ dus r c 1) : List Zp) = gpN r (stl c) := by
  have e0 : ∀ l : List Zp, l.map (sel 0) = l.map (·.1) := fun l => rfl
  have e1 : ∀ l : List Zp, l.map (sel 1) = l.map (·.2) := fun l => rfl
  unfold dus gpN sub2 bxN stl bxL bxD bxR bxU pcs
  simp only [e0, e1, if_pos, Int.zero_mul, Int.mul_zero, Int.sub_zero]
  simp
  omega
section
variable {h : Hq} {Φ : Rs D → Prop} {m p : Nat} {n : Int}
theorem w_psel {r : Row} {i : Nat} (hi : i < 2) : W (dIx (.tup [.int r.u, .int r.v]) (.int (i : Int)) h) Φ = Φ (.ok (.int (pcs r i)) h) := by
  match i, hi with
  | 0, _ => exact w_ix0
  | 1, _ => exact w_ix1
theorem lawdue_w {r : Row} {c : List Zp} (k : RwOk r) (rc : Rn c) (kk : ∀ h1, Gr h h1 → Φ (.ok (.tup ((gpN r (stl c)).map dWl)) h1)) : W (f_law_due [dRw r, .tup (c.map dZ)] h) Φ := by
  have r8 := k.rn.le
  have c8 := rc.le
  unfold f_law_due b_law_due
  simp only [↓w_ok, ↓kB_ok, ↓kI_ok, ↓w_K, ↓w_V, ↓w_vR, ↓w_Op, ↓kO1_ok, ↓kO2_ok, ↓w_Un, ↓w_bOf, ↓w_isB, ↓kBl_ok, ↓kBl_exc, ↓kIf_ok, ↓kIf_exc, ↓w_okB, ↓w_okD, ↓w_bAnd, ↓w_bOr, ↓w_bNot, ↓kNot_ok, ↓kNot_exc, ↓w_eAnd, ↓w_eOr, ↓w_eNot, ↓kNotV_ok, ↓w_eIf, ↓w_aNil, ↓w_aCons, ↓kA1_ok, ↓kA2_ok, ↓kA1_exc, ↓kA2_exc, ↓w_Tup, ↓w_Lst, ↓w_mkT, ↓w_mkL, ↓w_Dct, ↓w_Dct2, ↓w_SoSe, ↓w_Call, ↓w_goS, ↓w_Bi, ↓w_Isi, ↓w_Cut, ↓kC1_ok, ↓kC2_ok, ↓kC3_ok, ↓w_oNone, ↓w_oSome, ↓w_vO, ↓w_Chain, ↓kCh1_ok, ↓kCh2_ok, ↓kCh3_ok, ↓w_chA, ↓w_App, ↓w_Ins, ↓w_insG, ↓z_nx, ↓z_End, ↓z_Seq, ↓kT_nx, ↓kT_rt, ↓kT_bk, ↓kT_ct, ↓kT_exc, ↓z_If, ↓kIfS_ok, ↓kIfS_exc, ↓z_Ret, ↓kRet_ok, ↓kRet_exc, ↓z_Expr, ↓kNx_ok, ↓kNx_exc, ↓z_Asg, ↓kAs_ok, ↓kAs_exc, ↓z_tgO, t_N, t_T, t_nil, t_cons, t_G, t_gnil, t_gcons, t_bind, ↓z_Par, ↓kPar_ok, ↓z_Raise, ↓z_Break, ↓z_Cont, ↓z_For, ↓kSrc_ok, ↓w_Range, ↓w_rgF, ↓w_SeqI, ↓w_sqT, ↓w_Zip, ↓w_zpT, ↓w_Comp, ↓kCo_ok, ↓w_of, ↓kF_rt, ↓kF_nx, ↓kF_exc, ↓w_add, ↓w_sub, ↓w_pow10, ↓w_neg, ↓w_lt, ↓w_le, ↓w_gt, ↓w_ge, ↓w_ix0, ↓w_ix1, ↓w_ix2, ↓w_ix3, ↓w_eqI, ↓w_eqS, ↓w_eqT2, ↓w_abs, ↓w_lenT, ↓w_lenS, ↓w_max, ↓w_min, ↓w_intT, ↓w_intF, ↓w_isBool, ↓w_isTup, ↓w_tupT, ↓w_listT, ↓w_cutT, ↓brw_t, ↓brw_f, ↓brz_t, ↓brz_f, List.getElem?_cons_zero, List.getElem?_cons_succ, List.set_cons_zero, List.set_cons_succ, List.length_cons, List.length_nil, List.map_cons, List.map_nil, List.replicate, List.cons_append, List.nil_append, small, Nat.reduceAdd, Nat.reduceLeDiff, Nat.reduceEqDiff, Int.cast_ofNat_Int, Int.reduceBEq, BEq.rfl, ↓w_Yes, ↓w_bTru, ↓augF_ok, ↓z_Put, ↓putF_ok, ↓putG_ok, ↓w_isNn, ↓w_isNt, wipeF_nil, wipeF_cons, Int.reduceLE, Int.reduceLT, Int.reduceToNat, Int.reducePow, Int.reduceNeg, Int.reduceSub, Int.reduceAdd, Int.reduceMul, decide_true, decide_false, Bool.not_true, Bool.not_false, Bool.bne_false, Bool.bne_true, ↓w_aStar, ↓w_stT, ↓kSt_ok, ↓w_aDef, ↓kDf_ok, ↓w_Cnt, ↓w_Ext, ↓w_isBB, ↓w_isIB, ↓w_Enum, ↓w_enT]
  rw [show (2 : Int) = ((2 : Nat) : Int) from rfl, iR_ok (by omega), w_ok, kSrc_ok]
  refine range_t (I := fun i fr h' => ∃ (m : Nat) (x6 x7 x8 x9 x10 x11 x12 : Option D), Gr h h' ∧ lstAt h' m = some (((0, 0) :: ((if 0 < i then dus r c 0 else []) ++ (if 1 < i then dus r c 1 else [])) : List Zp).map dZ) ∧ fr = [some (dRw r), some (.tup (c.map dZ)), some (.int r.m), some (.tup (r.c.map dZ)), some (.tup [.int r.u, .int r.v]), some (.ref m), x6, x7, x8, x9, x10, x11, x12]) ⟨_, _, _, _, _, _, _, _, Gr.app _ _, lst_new _ _, rfl⟩ ?_ ?_
  · rintro i fr h' hi ⟨m, x6, x7, x8, x9, x10, x11, x12, g, l, rfl⟩
    have bp : Bd 20 (pcs r i) := by unfold pcs; split; exact k.bu; exact k.bv
    simp only [↓w_ok, ↓kB_ok, ↓kI_ok, ↓w_K, ↓w_V, ↓w_vR, ↓w_Op, ↓kO1_ok, ↓kO2_ok, ↓w_Un, ↓w_bOf, ↓w_isB, ↓kBl_ok, ↓kBl_exc, ↓kIf_ok, ↓kIf_exc, ↓w_okB, ↓w_okD, ↓w_bAnd, ↓w_bOr, ↓w_bNot, ↓kNot_ok, ↓kNot_exc, ↓w_eAnd, ↓w_eOr, ↓w_eNot, ↓kNotV_ok, ↓w_eIf, ↓w_aNil, ↓w_aCons, ↓kA1_ok, ↓kA2_ok, ↓kA1_exc, ↓kA2_exc, ↓w_Tup, ↓w_Lst, ↓w_mkT, ↓w_mkL, ↓w_Dct, ↓w_Dct2, ↓w_SoSe, ↓w_Call, ↓w_goS, ↓w_Bi, ↓w_Isi, ↓w_Cut, ↓kC1_ok, ↓kC2_ok, ↓kC3_ok, ↓w_oNone, ↓w_oSome, ↓w_vO, ↓w_Chain, ↓kCh1_ok, ↓kCh2_ok, ↓kCh3_ok, ↓w_chA, ↓w_App, ↓w_Ins, ↓w_insG, ↓z_nx, ↓z_End, ↓z_Seq, ↓kT_nx, ↓kT_rt, ↓kT_bk, ↓kT_ct, ↓kT_exc, ↓z_If, ↓kIfS_ok, ↓kIfS_exc, ↓z_Ret, ↓kRet_ok, ↓kRet_exc, ↓z_Expr, ↓kNx_ok, ↓kNx_exc, ↓z_Asg, ↓kAs_ok, ↓kAs_exc, ↓z_tgO, t_N, t_T, t_nil, t_cons, t_G, t_gnil, t_gcons, t_bind, ↓z_Par, ↓kPar_ok, ↓z_Raise, ↓z_Break, ↓z_Cont, ↓z_For, ↓kSrc_ok, ↓w_Range, ↓w_rgF, ↓w_SeqI, ↓w_sqT, ↓w_Zip, ↓w_zpT, ↓w_Comp, ↓kCo_ok, ↓w_of, ↓kF_rt, ↓kF_nx, ↓kF_exc, ↓w_add, ↓w_sub, ↓w_pow10, ↓w_neg, ↓w_lt, ↓w_le, ↓w_gt, ↓w_ge, ↓w_ix0, ↓w_ix1, ↓w_ix2, ↓w_ix3, ↓w_eqI, ↓w_eqS, ↓w_eqT2, ↓w_abs, ↓w_lenT, ↓w_lenS, ↓w_max, ↓w_min, ↓w_intT, ↓w_intF, ↓w_isBool, ↓w_isTup, ↓w_tupT, ↓w_listT, ↓w_cutT, ↓brw_t, ↓brw_f, ↓brz_t, ↓brz_f, List.getElem?_cons_zero, List.getElem?_cons_succ, List.set_cons_zero, List.set_cons_succ, List.length_cons, List.length_nil, List.map_cons, List.map_nil, List.replicate, List.cons_append, List.nil_append, small, Nat.reduceAdd, Nat.reduceLeDiff, Nat.reduceEqDiff, Int.cast_ofNat_Int, Int.reduceBEq, BEq.rfl, ↓w_Yes, ↓w_bTru, ↓augF_ok, ↓z_Put, ↓putF_ok, ↓putG_ok, ↓w_isNn, ↓w_isNt, wipeF_nil, wipeF_cons, Int.reduceLE, Int.reduceLT, Int.reduceToNat, Int.reducePow, Int.reduceNeg, Int.reduceSub, Int.reduceAdd, Int.reduceMul, decide_true, decide_false, Bool.not_true, Bool.not_false, Bool.bne_false, Bool.bne_true, ↓w_aStar, ↓w_stT, ↓kSt_ok, ↓w_aDef, ↓kDf_ok, ↓w_Cnt, ↓w_Ext, ↓w_isBB, ↓w_isIB, ↓w_Enum, ↓w_enT]
    refine comp_mapT c dZ (by omega) (fun q => .int (sel i q)) ?_ fun h1 g1 m1 l1 => ?_
    · intro q hq
      refine ⟨_, rfl, fun h' Φ g q => ?_⟩
      simp only [↓w_ok, ↓kB_ok, ↓kI_ok, ↓w_K, ↓w_V, ↓w_vR, ↓w_Op, ↓kO1_ok, ↓kO2_ok, ↓w_Un, ↓w_bOf, ↓w_isB, ↓kBl_ok, ↓kBl_exc, ↓kIf_ok, ↓kIf_exc, ↓w_okB, ↓w_okD, ↓w_bAnd, ↓w_bOr, ↓w_bNot, ↓kNot_ok, ↓kNot_exc, ↓w_eAnd, ↓w_eOr, ↓w_eNot, ↓kNotV_ok, ↓w_eIf, ↓w_aNil, ↓w_aCons, ↓kA1_ok, ↓kA2_ok, ↓kA1_exc, ↓kA2_exc, ↓w_Tup, ↓w_Lst, ↓w_mkT, ↓w_mkL, ↓w_Dct, ↓w_Dct2, ↓w_SoSe, ↓w_Call, ↓w_goS, ↓w_Bi, ↓w_Isi, ↓w_Cut, ↓kC1_ok, ↓kC2_ok, ↓kC3_ok, ↓w_oNone, ↓w_oSome, ↓w_vO, ↓w_Chain, ↓kCh1_ok, ↓kCh2_ok, ↓kCh3_ok, ↓w_chA, ↓w_App, ↓w_Ins, ↓w_insG, ↓z_nx, ↓z_End, ↓z_Seq, ↓kT_nx, ↓kT_rt, ↓kT_bk, ↓kT_ct, ↓kT_exc, ↓z_If, ↓kIfS_ok, ↓kIfS_exc, ↓z_Ret, ↓kRet_ok, ↓kRet_exc, ↓z_Expr, ↓kNx_ok, ↓kNx_exc, ↓z_Asg, ↓kAs_ok, ↓kAs_exc, ↓z_tgO, t_N, t_T, t_nil, t_cons, t_G, t_gnil, t_gcons, t_bind, ↓z_Par, ↓kPar_ok, ↓z_Raise, ↓z_Break, ↓z_Cont, ↓z_For, ↓kSrc_ok, ↓w_Range, ↓w_rgF, ↓w_SeqI, ↓w_sqT, ↓w_Zip, ↓w_zpT, ↓w_Comp, ↓kCo_ok, ↓w_of, ↓kF_rt, ↓kF_nx, ↓kF_exc, ↓w_add, ↓w_sub, ↓w_pow10, ↓w_neg, ↓w_lt, ↓w_le, ↓w_gt, ↓w_ge, ↓w_ix0, ↓w_ix1, ↓w_ix2, ↓w_ix3, ↓w_eqI, ↓w_eqS, ↓w_eqT2, ↓w_abs, ↓w_lenT, ↓w_lenS, ↓w_max, ↓w_min, ↓w_intT, ↓w_intF, ↓w_isBool, ↓w_isTup, ↓w_tupT, ↓w_listT, ↓w_cutT, ↓brw_t, ↓brw_f, ↓brz_t, ↓brz_f, List.getElem?_cons_zero, List.getElem?_cons_succ, List.set_cons_zero, List.set_cons_succ, List.length_cons, List.length_nil, List.map_cons, List.map_nil, List.replicate, List.cons_append, List.nil_append, small, Nat.reduceAdd, Nat.reduceLeDiff, Nat.reduceEqDiff, Int.cast_ofNat_Int, Int.reduceBEq, BEq.rfl, ↓w_Yes, ↓w_bTru, ↓augF_ok, ↓z_Put, ↓putF_ok, ↓putG_ok, ↓w_isNn, ↓w_isNt, wipeF_nil, wipeF_cons, Int.reduceLE, Int.reduceLT, Int.reduceToNat, Int.reducePow, Int.reduceNeg, Int.reduceSub, Int.reduceAdd, Int.reduceMul, decide_true, decide_false, Bool.not_true, Bool.not_false, Bool.bne_false, Bool.bne_true, ↓w_aStar, ↓w_stT, ↓kSt_ok, ↓w_aDef, ↓kDf_ok, ↓w_Cnt, ↓w_Ext, ↓w_isBB, ↓w_isIB, ↓w_Enum, ↓w_enT, w_sel hi]
      exact q h' (Gr.refl _)
    simp only [↓w_ok, ↓kB_ok, ↓kI_ok, ↓w_K, ↓w_V, ↓w_vR, ↓w_Op, ↓kO1_ok, ↓kO2_ok, ↓w_Un, ↓w_bOf, ↓w_isB, ↓kBl_ok, ↓kBl_exc, ↓kIf_ok, ↓kIf_exc, ↓w_okB, ↓w_okD, ↓w_bAnd, ↓w_bOr, ↓w_bNot, ↓kNot_ok, ↓kNot_exc, ↓w_eAnd, ↓w_eOr, ↓w_eNot, ↓kNotV_ok, ↓w_eIf, ↓w_aNil, ↓w_aCons, ↓kA1_ok, ↓kA2_ok, ↓kA1_exc, ↓kA2_exc, ↓w_Tup, ↓w_Lst, ↓w_mkT, ↓w_mkL, ↓w_Dct, ↓w_Dct2, ↓w_SoSe, ↓w_Call, ↓w_goS, ↓w_Bi, ↓w_Isi, ↓w_Cut, ↓kC1_ok, ↓kC2_ok, ↓kC3_ok, ↓w_oNone, ↓w_oSome, ↓w_vO, ↓w_Chain, ↓kCh1_ok, ↓kCh2_ok, ↓kCh3_ok, ↓w_chA, ↓w_App, ↓w_Ins, ↓w_insG, ↓z_nx, ↓z_End, ↓z_Seq, ↓kT_nx, ↓kT_rt, ↓kT_bk, ↓kT_ct, ↓kT_exc, ↓z_If, ↓kIfS_ok, ↓kIfS_exc, ↓z_Ret, ↓kRet_ok, ↓kRet_exc, ↓z_Expr, ↓kNx_ok, ↓kNx_exc, ↓z_Asg, ↓kAs_ok, ↓kAs_exc, ↓z_tgO, t_N, t_T, t_nil, t_cons, t_G, t_gnil, t_gcons, t_bind, ↓z_Par, ↓kPar_ok, ↓z_Raise, ↓z_Break, ↓z_Cont, ↓z_For, ↓kSrc_ok, ↓w_Range, ↓w_rgF, ↓w_SeqI, ↓w_sqT, ↓w_Zip, ↓w_zpT, ↓w_Comp, ↓kCo_ok, ↓w_of, ↓kF_rt, ↓kF_nx, ↓kF_exc, ↓w_add, ↓w_sub, ↓w_pow10, ↓w_neg, ↓w_lt, ↓w_le, ↓w_gt, ↓w_ge, ↓w_ix0, ↓w_ix1, ↓w_ix2, ↓w_ix3, ↓w_eqI, ↓w_eqS, ↓w_eqT2, ↓w_abs, ↓w_lenT, ↓w_lenS, ↓w_max, ↓w_min, ↓w_intT, ↓w_intF, ↓w_isBool, ↓w_isTup, ↓w_tupT, ↓w_listT, ↓w_cutT, ↓brw_t, ↓brw_f, ↓brz_t, ↓brz_f, List.getElem?_cons_zero, List.getElem?_cons_succ, List.set_cons_zero, List.set_cons_succ, List.length_cons, List.length_nil, List.map_cons, List.map_nil, List.replicate, List.cons_append, List.nil_append, small, Nat.reduceAdd, Nat.reduceLeDiff, Nat.reduceEqDiff, Int.cast_ofNat_Int, Int.reduceBEq, BEq.rfl, ↓w_Yes, ↓w_bTru, ↓augF_ok, ↓z_Put, ↓putF_ok, ↓putG_ok, ↓w_isNn, ↓w_isNt, wipeF_nil, wipeF_cons, Int.reduceLE, Int.reduceLT, Int.reduceToNat, Int.reducePow, Int.reduceNeg, Int.reduceSub, Int.reduceAdd, Int.reduceMul, decide_true, decide_false, Bool.not_true, Bool.not_false, Bool.bne_false, Bool.bne_true, ↓w_aStar, ↓w_stT, ↓kSt_ok, ↓w_aDef, ↓kDf_ok, ↓w_Cnt, ↓w_Ext, ↓w_isBB, ↓w_isIB, ↓w_Enum, ↓w_enT]
    refine comp_mapT r.c dZ (by omega) (fun q => .int (sel i q)) ?_ fun h2 g2 m2 l2 => ?_
    · intro q hq
      refine ⟨_, rfl, fun h' Φ g q => ?_⟩
      simp only [↓w_ok, ↓kB_ok, ↓kI_ok, ↓w_K, ↓w_V, ↓w_vR, ↓w_Op, ↓kO1_ok, ↓kO2_ok, ↓w_Un, ↓w_bOf, ↓w_isB, ↓kBl_ok, ↓kBl_exc, ↓kIf_ok, ↓kIf_exc, ↓w_okB, ↓w_okD, ↓w_bAnd, ↓w_bOr, ↓w_bNot, ↓kNot_ok, ↓kNot_exc, ↓w_eAnd, ↓w_eOr, ↓w_eNot, ↓kNotV_ok, ↓w_eIf, ↓w_aNil, ↓w_aCons, ↓kA1_ok, ↓kA2_ok, ↓kA1_exc, ↓kA2_exc, ↓w_Tup, ↓w_Lst, ↓w_mkT, ↓w_mkL, ↓w_Dct, ↓w_Dct2, ↓w_SoSe, ↓w_Call, ↓w_goS, ↓w_Bi, ↓w_Isi, ↓w_Cut, ↓kC1_ok, ↓kC2_ok, ↓kC3_ok, ↓w_oNone, ↓w_oSome, ↓w_vO, ↓w_Chain, ↓kCh1_ok, ↓kCh2_ok, ↓kCh3_ok, ↓w_chA, ↓w_App, ↓w_Ins, ↓w_insG, ↓z_nx, ↓z_End, ↓z_Seq, ↓kT_nx, ↓kT_rt, ↓kT_bk, ↓kT_ct, ↓kT_exc, ↓z_If, ↓kIfS_ok, ↓kIfS_exc, ↓z_Ret, ↓kRet_ok, ↓kRet_exc, ↓z_Expr, ↓kNx_ok, ↓kNx_exc, ↓z_Asg, ↓kAs_ok, ↓kAs_exc, ↓z_tgO, t_N, t_T, t_nil, t_cons, t_G, t_gnil, t_gcons, t_bind, ↓z_Par, ↓kPar_ok, ↓z_Raise, ↓z_Break, ↓z_Cont, ↓z_For, ↓kSrc_ok, ↓w_Range, ↓w_rgF, ↓w_SeqI, ↓w_sqT, ↓w_Zip, ↓w_zpT, ↓w_Comp, ↓kCo_ok, ↓w_of, ↓kF_rt, ↓kF_nx, ↓kF_exc, ↓w_add, ↓w_sub, ↓w_pow10, ↓w_neg, ↓w_lt, ↓w_le, ↓w_gt, ↓w_ge, ↓w_ix0, ↓w_ix1, ↓w_ix2, ↓w_ix3, ↓w_eqI, ↓w_eqS, ↓w_eqT2, ↓w_abs, ↓w_lenT, ↓w_lenS, ↓w_max, ↓w_min, ↓w_intT, ↓w_intF, ↓w_isBool, ↓w_isTup, ↓w_tupT, ↓w_listT, ↓w_cutT, ↓brw_t, ↓brw_f, ↓brz_t, ↓brz_f, List.getElem?_cons_zero, List.getElem?_cons_succ, List.set_cons_zero, List.set_cons_succ, List.length_cons, List.length_nil, List.map_cons, List.map_nil, List.replicate, List.cons_append, List.nil_append, small, Nat.reduceAdd, Nat.reduceLeDiff, Nat.reduceEqDiff, Int.cast_ofNat_Int, Int.reduceBEq, BEq.rfl, ↓w_Yes, ↓w_bTru, ↓augF_ok, ↓z_Put, ↓putF_ok, ↓putG_ok, ↓w_isNn, ↓w_isNt, wipeF_nil, wipeF_cons, Int.reduceLE, Int.reduceLT, Int.reduceToNat, Int.reducePow, Int.reduceNeg, Int.reduceSub, Int.reduceAdd, Int.reduceMul, decide_true, decide_false, Bool.not_true, Bool.not_false, Bool.bne_false, Bool.bne_true, ↓w_aStar, ↓w_stT, ↓kSt_ok, ↓w_aDef, ↓kDf_ok, ↓w_Cnt, ↓w_Ext, ↓w_isBB, ↓w_isIB, ↓w_Enum, ↓w_enT, w_sel hi]
      exact q h' (Gr.refl _)
    have e1 : lstAt h2 h'.length = some ((c.map (sel i)).map D.int) := by rw [g2.lst l1, List.map_map]; rfl
    have e2 : lstAt h2 h1.length = some ((r.c.map (sel i)).map D.int) := by rw [l2, List.map_map]; rfl
    have n1 : c.map (sel i) ≠ [] := by simpa using rc.ne
    have n2 : r.c.map (sel i) ≠ [] := by simpa using k.rn.ne
    simp only [↓w_ok, ↓kB_ok, ↓kI_ok, ↓w_K, ↓w_V, ↓w_vR, ↓w_Op, ↓kO1_ok, ↓kO2_ok, ↓w_Un, ↓w_bOf, ↓w_isB, ↓kBl_ok, ↓kBl_exc, ↓kIf_ok, ↓kIf_exc, ↓w_okB, ↓w_okD, ↓w_bAnd, ↓w_bOr, ↓w_bNot, ↓kNot_ok, ↓kNot_exc, ↓w_eAnd, ↓w_eOr, ↓w_eNot, ↓kNotV_ok, ↓w_eIf, ↓w_aNil, ↓w_aCons, ↓kA1_ok, ↓kA2_ok, ↓kA1_exc, ↓kA2_exc, ↓w_Tup, ↓w_Lst, ↓w_mkT, ↓w_mkL, ↓w_Dct, ↓w_Dct2, ↓w_SoSe, ↓w_Call, ↓w_goS, ↓w_Bi, ↓w_Isi, ↓w_Cut, ↓kC1_ok, ↓kC2_ok, ↓kC3_ok, ↓w_oNone, ↓w_oSome, ↓w_vO, ↓w_Chain, ↓kCh1_ok, ↓kCh2_ok, ↓kCh3_ok, ↓w_chA, ↓w_App, ↓w_Ins, ↓w_insG, ↓z_nx, ↓z_End, ↓z_Seq, ↓kT_nx, ↓kT_rt, ↓kT_bk, ↓kT_ct, ↓kT_exc, ↓z_If, ↓kIfS_ok, ↓kIfS_exc, ↓z_Ret, ↓kRet_ok, ↓kRet_exc, ↓z_Expr, ↓kNx_ok, ↓kNx_exc, ↓z_Asg, ↓kAs_ok, ↓kAs_exc, ↓z_tgO, t_N, t_T, t_nil, t_cons, t_G, t_gnil, t_gcons, t_bind, ↓z_Par, ↓kPar_ok, ↓z_Raise, ↓z_Break, ↓z_Cont, ↓z_For, ↓kSrc_ok, ↓w_Range, ↓w_rgF, ↓w_SeqI, ↓w_sqT, ↓w_Zip, ↓w_zpT, ↓w_Comp, ↓kCo_ok, ↓w_of, ↓kF_rt, ↓kF_nx, ↓kF_exc, ↓w_add, ↓w_sub, ↓w_pow10, ↓w_neg, ↓w_lt, ↓w_le, ↓w_gt, ↓w_ge, ↓w_ix0, ↓w_ix1, ↓w_ix2, ↓w_ix3, ↓w_eqI, ↓w_eqS, ↓w_eqT2, ↓w_abs, ↓w_lenT, ↓w_lenS, ↓w_max, ↓w_min, ↓w_intT, ↓w_intF, ↓w_isBool, ↓w_isTup, ↓w_tupT, ↓w_listT, ↓w_cutT, ↓brw_t, ↓brw_f, ↓brz_t, ↓brz_f, List.getElem?_cons_zero, List.getElem?_cons_succ, List.set_cons_zero, List.set_cons_succ, List.length_cons, List.length_nil, List.map_cons, List.map_nil, List.replicate, List.cons_append, List.nil_append, small, Nat.reduceAdd, Nat.reduceLeDiff, Nat.reduceEqDiff, Int.cast_ofNat_Int, Int.reduceBEq, BEq.rfl, ↓w_Yes, ↓w_bTru, ↓augF_ok, ↓z_Put, ↓putF_ok, ↓putG_ok, ↓w_isNn, ↓w_isNt, wipeF_nil, wipeF_cons, Int.reduceLE, Int.reduceLT, Int.reduceToNat, Int.reducePow, Int.reduceNeg, Int.reduceSub, Int.reduceAdd, Int.reduceMul, decide_true, decide_false, Bool.not_true, Bool.not_false, Bool.bne_false, Bool.bne_true, ↓w_aStar, ↓w_stT, ↓kSt_ok, ↓w_aDef, ↓kDf_ok, ↓w_Cnt, ↓w_Ext, ↓w_isBB, ↓w_isIB, ↓w_Enum, ↓w_enT, w_psel hi, w_mul (bp.mk k.bm), w_minL e1 n1, w_minL e2 n2, w_maxL e1 n1, w_maxL e2 n2]
    have l3 := lst_new h2 ((dus r c i).map dZ)
    have g3 := Gr.app h2 [Cell.lst ((dus r c i).map dZ)]
    have lm := g3.lst (g2.lst (g1.lst l))
    simp only [dus, List.map_cons, List.map_nil] at l3 g3 lm
    simp only [↓w_ok, ↓kB_ok, ↓kI_ok, ↓w_K, ↓w_V, ↓w_vR, ↓w_Op, ↓kO1_ok, ↓kO2_ok, ↓w_Un, ↓w_bOf, ↓w_isB, ↓kBl_ok, ↓kBl_exc, ↓kIf_ok, ↓kIf_exc, ↓w_okB, ↓w_okD, ↓w_bAnd, ↓w_bOr, ↓w_bNot, ↓kNot_ok, ↓kNot_exc, ↓w_eAnd, ↓w_eOr, ↓w_eNot, ↓kNotV_ok, ↓w_eIf, ↓w_aNil, ↓w_aCons, ↓kA1_ok, ↓kA2_ok, ↓kA1_exc, ↓kA2_exc, ↓w_Tup, ↓w_Lst, ↓w_mkT, ↓w_mkL, ↓w_Dct, ↓w_Dct2, ↓w_SoSe, ↓w_Call, ↓w_goS, ↓w_Bi, ↓w_Isi, ↓w_Cut, ↓kC1_ok, ↓kC2_ok, ↓kC3_ok, ↓w_oNone, ↓w_oSome, ↓w_vO, ↓w_Chain, ↓kCh1_ok, ↓kCh2_ok, ↓kCh3_ok, ↓w_chA, ↓w_App, ↓w_Ins, ↓w_insG, ↓z_nx, ↓z_End, ↓z_Seq, ↓kT_nx, ↓kT_rt, ↓kT_bk, ↓kT_ct, ↓kT_exc, ↓z_If, ↓kIfS_ok, ↓kIfS_exc, ↓z_Ret, ↓kRet_ok, ↓kRet_exc, ↓z_Expr, ↓kNx_ok, ↓kNx_exc, ↓z_Asg, ↓kAs_ok, ↓kAs_exc, ↓z_tgO, t_N, t_T, t_nil, t_cons, t_G, t_gnil, t_gcons, t_bind, ↓z_Par, ↓kPar_ok, ↓z_Raise, ↓z_Break, ↓z_Cont, ↓z_For, ↓kSrc_ok, ↓w_Range, ↓w_rgF, ↓w_SeqI, ↓w_sqT, ↓w_Zip, ↓w_zpT, ↓w_Comp, ↓kCo_ok, ↓w_of, ↓kF_rt, ↓kF_nx, ↓kF_exc, ↓w_add, ↓w_sub, ↓w_pow10, ↓w_neg, ↓w_lt, ↓w_le, ↓w_gt, ↓w_ge, ↓w_ix0, ↓w_ix1, ↓w_ix2, ↓w_ix3, ↓w_eqI, ↓w_eqS, ↓w_eqT2, ↓w_abs, ↓w_lenT, ↓w_lenS, ↓w_max, ↓w_min, ↓w_intT, ↓w_intF, ↓w_isBool, ↓w_isTup, ↓w_tupT, ↓w_listT, ↓w_cutT, ↓brw_t, ↓brw_f, ↓brz_t, ↓brz_f, List.getElem?_cons_zero, List.getElem?_cons_succ, List.set_cons_zero, List.set_cons_succ, List.length_cons, List.length_nil, List.map_cons, List.map_nil, List.replicate, List.cons_append, List.nil_append, small, Nat.reduceAdd, Nat.reduceLeDiff, Nat.reduceEqDiff, Int.cast_ofNat_Int, Int.reduceBEq, BEq.rfl, ↓w_Yes, ↓w_bTru, ↓augF_ok, ↓z_Put, ↓putF_ok, ↓putG_ok, ↓w_isNn, ↓w_isNt, wipeF_nil, wipeF_cons, Int.reduceLE, Int.reduceLT, Int.reduceToNat, Int.reducePow, Int.reduceNeg, Int.reduceSub, Int.reduceAdd, Int.reduceMul, decide_true, decide_false, Bool.not_true, Bool.not_false, Bool.bne_false, Bool.bne_true, ↓w_aStar, ↓w_stT, ↓kSt_ok, ↓w_aDef, ↓kDf_ok, ↓w_Cnt, ↓w_Ext, ↓w_isBB, ↓w_isIB, ↓w_Enum, ↓w_enT, w_addL lm l3 (show small _ = true from decide_eq_true (by simp; split <;> split <;> simp [dus]))]
    refine ⟨_, _, _, _, _, _, _, _, (g.trans (g1.trans (g2.trans g3))).trans (Gr.app _ _), (lst_new _ _).trans ?_, rfl⟩
    match i, hi with
    | 0, _ => rfl
    | 1, _ => rfl
  · rintro fr h' ⟨m, x6, x7, x8, x9, x10, x11, x12, g, l, rfl⟩
    have l' : lstAt h' m = some ((gpN r (stl c)).map dZ) := by
      rw [← due_gp]; exact l
    simp only [↓w_ok, ↓kB_ok, ↓kI_ok, ↓w_K, ↓w_V, ↓w_vR, ↓w_Op, ↓kO1_ok, ↓kO2_ok, ↓w_Un, ↓w_bOf, ↓w_isB, ↓kBl_ok, ↓kBl_exc, ↓kIf_ok, ↓kIf_exc, ↓w_okB, ↓w_okD, ↓w_bAnd, ↓w_bOr, ↓w_bNot, ↓kNot_ok, ↓kNot_exc, ↓w_eAnd, ↓w_eOr, ↓w_eNot, ↓kNotV_ok, ↓w_eIf, ↓w_aNil, ↓w_aCons, ↓kA1_ok, ↓kA2_ok, ↓kA1_exc, ↓kA2_exc, ↓w_Tup, ↓w_Lst, ↓w_mkT, ↓w_mkL, ↓w_Dct, ↓w_Dct2, ↓w_SoSe, ↓w_Call, ↓w_goS, ↓w_Bi, ↓w_Isi, ↓w_Cut, ↓kC1_ok, ↓kC2_ok, ↓kC3_ok, ↓w_oNone, ↓w_oSome, ↓w_vO, ↓w_Chain, ↓kCh1_ok, ↓kCh2_ok, ↓kCh3_ok, ↓w_chA, ↓w_App, ↓w_Ins, ↓w_insG, ↓z_nx, ↓z_End, ↓z_Seq, ↓kT_nx, ↓kT_rt, ↓kT_bk, ↓kT_ct, ↓kT_exc, ↓z_If, ↓kIfS_ok, ↓kIfS_exc, ↓z_Ret, ↓kRet_ok, ↓kRet_exc, ↓z_Expr, ↓kNx_ok, ↓kNx_exc, ↓z_Asg, ↓kAs_ok, ↓kAs_exc, ↓z_tgO, t_N, t_T, t_nil, t_cons, t_G, t_gnil, t_gcons, t_bind, ↓z_Par, ↓kPar_ok, ↓z_Raise, ↓z_Break, ↓z_Cont, ↓z_For, ↓kSrc_ok, ↓w_Range, ↓w_rgF, ↓w_SeqI, ↓w_sqT, ↓w_Zip, ↓w_zpT, ↓w_Comp, ↓kCo_ok, ↓w_of, ↓kF_rt, ↓kF_nx, ↓kF_exc, ↓w_add, ↓w_sub, ↓w_pow10, ↓w_neg, ↓w_lt, ↓w_le, ↓w_gt, ↓w_ge, ↓w_ix0, ↓w_ix1, ↓w_ix2, ↓w_ix3, ↓w_eqI, ↓w_eqS, ↓w_eqT2, ↓w_abs, ↓w_lenT, ↓w_lenS, ↓w_max, ↓w_min, ↓w_intT, ↓w_intF, ↓w_isBool, ↓w_isTup, ↓w_tupT, ↓w_listT, ↓w_cutT, ↓brw_t, ↓brw_f, ↓brz_t, ↓brz_f, List.getElem?_cons_zero, List.getElem?_cons_succ, List.set_cons_zero, List.set_cons_succ, List.length_cons, List.length_nil, List.map_cons, List.map_nil, List.replicate, List.cons_append, List.nil_append, small, Nat.reduceAdd, Nat.reduceLeDiff, Nat.reduceEqDiff, Int.cast_ofNat_Int, Int.reduceBEq, BEq.rfl, ↓w_Yes, ↓w_bTru, ↓augF_ok, ↓z_Put, ↓putF_ok, ↓putG_ok, ↓w_isNn, ↓w_isNt, wipeF_nil, wipeF_cons, Int.reduceLE, Int.reduceLT, Int.reduceToNat, Int.reducePow, Int.reduceNeg, Int.reduceSub, Int.reduceAdd, Int.reduceMul, decide_true, decide_false, Bool.not_true, Bool.not_false, Bool.bne_false, Bool.bne_true, ↓w_aStar, ↓w_stT, ↓kSt_ok, ↓w_aDef, ↓kDf_ok, ↓w_Cnt, ↓w_Ext, ↓w_isBB, ↓w_isIB, ↓w_Enum, ↓w_enT]
    refine comp_map (gpN r (stl c)) dZ (.lst _ _ l') (by simp [gpN]) dWl ?_ fun h2 g2 n2 l2 => ?_
    · intro z hz
      refine ⟨_, rfl, fun h' Ψ g kq => ?_⟩
      simp only [↓w_ok, ↓kB_ok, ↓kI_ok, ↓w_K, ↓w_V, ↓w_vR, ↓w_Op, ↓kO1_ok, ↓kO2_ok, ↓w_Un, ↓w_bOf, ↓w_isB, ↓kBl_ok, ↓kBl_exc, ↓kIf_ok, ↓kIf_exc, ↓w_okB, ↓w_okD, ↓w_bAnd, ↓w_bOr, ↓w_bNot, ↓kNot_ok, ↓kNot_exc, ↓w_eAnd, ↓w_eOr, ↓w_eNot, ↓kNotV_ok, ↓w_eIf, ↓w_aNil, ↓w_aCons, ↓kA1_ok, ↓kA2_ok, ↓kA1_exc, ↓kA2_exc, ↓w_Tup, ↓w_Lst, ↓w_mkT, ↓w_mkL, ↓w_Dct, ↓w_Dct2, ↓w_SoSe, ↓w_Call, ↓w_goS, ↓w_Bi, ↓w_Isi, ↓w_Cut, ↓kC1_ok, ↓kC2_ok, ↓kC3_ok, ↓w_oNone, ↓w_oSome, ↓w_vO, ↓w_Chain, ↓kCh1_ok, ↓kCh2_ok, ↓kCh3_ok, ↓w_chA, ↓w_App, ↓w_Ins, ↓w_insG, ↓z_nx, ↓z_End, ↓z_Seq, ↓kT_nx, ↓kT_rt, ↓kT_bk, ↓kT_ct, ↓kT_exc, ↓z_If, ↓kIfS_ok, ↓kIfS_exc, ↓z_Ret, ↓kRet_ok, ↓kRet_exc, ↓z_Expr, ↓kNx_ok, ↓kNx_exc, ↓z_Asg, ↓kAs_ok, ↓kAs_exc, ↓z_tgO, t_N, t_T, t_nil, t_cons, t_G, t_gnil, t_gcons, t_bind, ↓z_Par, ↓kPar_ok, ↓z_Raise, ↓z_Break, ↓z_Cont, ↓z_For, ↓kSrc_ok, ↓w_Range, ↓w_rgF, ↓w_SeqI, ↓w_sqT, ↓w_Zip, ↓w_zpT, ↓w_Comp, ↓kCo_ok, ↓w_of, ↓kF_rt, ↓kF_nx, ↓kF_exc, ↓w_add, ↓w_sub, ↓w_pow10, ↓w_neg, ↓w_lt, ↓w_le, ↓w_gt, ↓w_ge, ↓w_ix0, ↓w_ix1, ↓w_ix2, ↓w_ix3, ↓w_eqI, ↓w_eqS, ↓w_eqT2, ↓w_abs, ↓w_lenT, ↓w_lenS, ↓w_max, ↓w_min, ↓w_intT, ↓w_intF, ↓w_isBool, ↓w_isTup, ↓w_tupT, ↓w_listT, ↓w_cutT, ↓brw_t, ↓brw_f, ↓brz_t, ↓brz_f, List.getElem?_cons_zero, List.getElem?_cons_succ, List.set_cons_zero, List.set_cons_succ, List.length_cons, List.length_nil, List.map_cons, List.map_nil, List.replicate, List.cons_append, List.nil_append, small, Nat.reduceAdd, Nat.reduceLeDiff, Nat.reduceEqDiff, Int.cast_ofNat_Int, Int.reduceBEq, BEq.rfl, ↓w_Yes, ↓w_bTru, ↓augF_ok, ↓z_Put, ↓putF_ok, ↓putG_ok, ↓w_isNn, ↓w_isNt, wipeF_nil, wipeF_cons, Int.reduceLE, Int.reduceLT, Int.reduceToNat, Int.reducePow, Int.reduceNeg, Int.reduceSub, Int.reduceAdd, Int.reduceMul, decide_true, decide_false, Bool.not_true, Bool.not_false, Bool.bne_false, Bool.bne_true, ↓w_aStar, ↓w_stT, ↓kSt_ok, ↓w_aDef, ↓kDf_ok, ↓w_Cnt, ↓w_Ext, ↓w_isBB, ↓w_isIB, ↓w_Enum, ↓w_enT]
      exact kq h' (Gr.refl _)
    simp only [↓w_ok, ↓kB_ok, ↓kI_ok, ↓w_K, ↓w_V, ↓w_vR, ↓w_Op, ↓kO1_ok, ↓kO2_ok, ↓w_Un, ↓w_bOf, ↓w_isB, ↓kBl_ok, ↓kBl_exc, ↓kIf_ok, ↓kIf_exc, ↓w_okB, ↓w_okD, ↓w_bAnd, ↓w_bOr, ↓w_bNot, ↓kNot_ok, ↓kNot_exc, ↓w_eAnd, ↓w_eOr, ↓w_eNot, ↓kNotV_ok, ↓w_eIf, ↓w_aNil, ↓w_aCons, ↓kA1_ok, ↓kA2_ok, ↓kA1_exc, ↓kA2_exc, ↓w_Tup, ↓w_Lst, ↓w_mkT, ↓w_mkL, ↓w_Dct, ↓w_Dct2, ↓w_SoSe, ↓w_Call, ↓w_goS, ↓w_Bi, ↓w_Isi, ↓w_Cut, ↓kC1_ok, ↓kC2_ok, ↓kC3_ok, ↓w_oNone, ↓w_oSome, ↓w_vO, ↓w_Chain, ↓kCh1_ok, ↓kCh2_ok, ↓kCh3_ok, ↓w_chA, ↓w_App, ↓w_Ins, ↓w_insG, ↓z_nx, ↓z_End, ↓z_Seq, ↓kT_nx, ↓kT_rt, ↓kT_bk, ↓kT_ct, ↓kT_exc, ↓z_If, ↓kIfS_ok, ↓kIfS_exc, ↓z_Ret, ↓kRet_ok, ↓kRet_exc, ↓z_Expr, ↓kNx_ok, ↓kNx_exc, ↓z_Asg, ↓kAs_ok, ↓kAs_exc, ↓z_tgO, t_N, t_T, t_nil, t_cons, t_G, t_gnil, t_gcons, t_bind, ↓z_Par, ↓kPar_ok, ↓z_Raise, ↓z_Break, ↓z_Cont, ↓z_For, ↓kSrc_ok, ↓w_Range, ↓w_rgF, ↓w_SeqI, ↓w_sqT, ↓w_Zip, ↓w_zpT, ↓w_Comp, ↓kCo_ok, ↓w_of, ↓kF_rt, ↓kF_nx, ↓kF_exc, ↓w_add, ↓w_sub, ↓w_pow10, ↓w_neg, ↓w_lt, ↓w_le, ↓w_gt, ↓w_ge, ↓w_ix0, ↓w_ix1, ↓w_ix2, ↓w_ix3, ↓w_eqI, ↓w_eqS, ↓w_eqT2, ↓w_abs, ↓w_lenT, ↓w_lenS, ↓w_max, ↓w_min, ↓w_intT, ↓w_intF, ↓w_isBool, ↓w_isTup, ↓w_tupT, ↓w_listT, ↓w_cutT, ↓brw_t, ↓brw_f, ↓brz_t, ↓brz_f, List.getElem?_cons_zero, List.getElem?_cons_succ, List.set_cons_zero, List.set_cons_succ, List.length_cons, List.length_nil, List.map_cons, List.map_nil, List.replicate, List.cons_append, List.nil_append, small, Nat.reduceAdd, Nat.reduceLeDiff, Nat.reduceEqDiff, Int.cast_ofNat_Int, Int.reduceBEq, BEq.rfl, ↓w_Yes, ↓w_bTru, ↓augF_ok, ↓z_Put, ↓putF_ok, ↓putG_ok, ↓w_isNn, ↓w_isNt, wipeF_nil, wipeF_cons, Int.reduceLE, Int.reduceLT, Int.reduceToNat, Int.reducePow, Int.reduceNeg, Int.reduceSub, Int.reduceAdd, Int.reduceMul, decide_true, decide_false, Bool.not_true, Bool.not_false, Bool.bne_false, Bool.bne_true, ↓w_aStar, ↓w_stT, ↓kSt_ok, ↓w_aDef, ↓kDf_ok, ↓w_Cnt, ↓w_Ext, ↓w_isBB, ↓w_isIB, ↓w_Enum, ↓w_enT, w_tupL l2]
    exact kk h2 (g.trans g2)
theorem stands_eq {c : List Zp} {t : Qp} : c.map (fun q => dZ (q.1 * t.2, q.2 * t.2)) = (mvd (stl c) t).map dZ := by
  unfold mvd stl
  rw [List.map_map]
  congr 1
  funext q
  simp
theorem gap_lin {r : Row} {c : List Zp} {t : Qp} (k : RwOk r) (rc : Rn c) (ht : 1 ≤ t.2) : mxz ((gpN r (stl c)).map fun z => z.1 * t.2 + z.2 * t.1) = gapZ (mvd r t) (mvd (stl c) t) := by
  obtain ⟨a1, a2, a3, a4⟩ := bx_mvd (t := t) k.rn.ne (show 0 ≤ t.2 by omega)
  obtain ⟨b1, b2, b3, b4⟩ := bx_mvd (r := stl c) (t := t) rc.ne (show 0 ≤ t.2 by omega)
  have z1 : (stl c).u = 0 := rfl
  have z2 : (stl c).v = 0 := rfl
  have z3 : (stl c).m = 0 := rfl
  have z4 : (stl c).c = c := rfl
  rw [z1, z4] at b1 b3
  rw [z2, z4] at b2 b4
  unfold gapZ
  rw [a1, a2, a3, a4, b1, b2, b3, b4]
  unfold gpN bxN sub2
  rw [z1, z2, z3, z4]
  simp only [List.map_cons, List.map_nil, mxz, mxL, mx5]
  generalize bxL c = A1
  generalize bxD c = A2
  generalize bxR c = A3
  generalize bxU c = A4
  generalize bxL r.c = B1
  generalize bxD r.c = B2
  generalize bxR r.c = B3
  generalize bxU r.c = B4
  have p1 : (A1 - 0 * 0 - (B3 - r.u * r.m)) * t.2 + (0 - r.u) * t.1 = A1 * t.2 + 0 * (t.1 - r.m * t.2) - (B3 * t.2 + r.u * (t.1 - r.m * t.2)) := by grind
  have p2 : (B1 - r.u * r.m - (A3 - 0 * 0)) * t.2 + (r.u - 0) * t.1 = B1 * t.2 + r.u * (t.1 - r.m * t.2) - (A3 * t.2 + 0 * (t.1 - r.m * t.2)) := by grind
  have p3 : (A2 - 0 * 0 - (B4 - r.v * r.m)) * t.2 + (0 - r.v) * t.1 = A2 * t.2 + 0 * (t.1 - r.m * t.2) - (B4 * t.2 + r.v * (t.1 - r.m * t.2)) := by grind
  have p4 : (B2 - r.v * r.m - (A4 - 0 * 0)) * t.2 + (r.v - 0) * t.1 = B2 * t.2 + r.v * (t.1 - r.m * t.2) - (A4 * t.2 + 0 * (t.1 - r.m * t.2)) := by grind
  rw [p1, p2, p3, p4]
  have p0 : (0 : Int) * t.2 + 0 * t.1 = 0 := by simp
  rw [p0]
  omega
end
end K33
end
section
set_option Elab.async false
set_option linter.all false
set_option autoImplicit false
set_option maxRecDepth 100000
set_option exponentiation.threshold 20000
set_option maxHeartbeats 4000000
open PySem L2
namespace MI
theorem bx_bd {B : Nat} {c : List Zp} (ne : c ≠ []) (hb : ∀ q ∈ c, Bd B q.1 ∧ Bd B q.2) : Bd B (bxL c) ∧ Bd B (bxD c) ∧ Bd B (bxR c) ∧ Bd B (bxU c) := by
  have n1 : c.map (·.1) ≠ [] := by simpa using ne
  have n2 : c.map (·.2) ≠ [] := by simpa using ne
  have f1 : ∀ y ∈ c.map (·.1), Bd B y := fun y hy => by
    obtain ⟨q, hq, rfl⟩ := List.mem_map.1 hy
    exact (hb q hq).1
  have f2 : ∀ y ∈ c.map (·.2), Bd B y := fun y hy => by
    obtain ⟨q, hq, rfl⟩ := List.mem_map.1 hy
    exact (hb q hq).2
  exact ⟨f1 _ (mnz_mem n1), f2 _ (mnz_mem n2), f1 _ (mxz_mem n1), f2 _ (mxz_mem n2)⟩
theorem gapZ_bd {B : Nat} {a b : List Zp} (na : a ≠ []) (nb : b ≠ []) (ha : ∀ q ∈ a, Bd B q.1 ∧ Bd B q.2) (hb : ∀ q ∈ b, Bd B q.1 ∧ Bd B q.2) : Bd (B + 1) (gapZ a b) := by
  obtain ⟨a1, a2, a3, a4⟩ := bx_bd na ha
  obtain ⟨b1, b2, b3, b4⟩ := bx_bd nb hb
  have z : Bd (B + 1) (0 : Int) := by unfold Bd; simp; exact Nat.two_pow_pos _
  have c1 := a1.sub b3
  have c2 := b1.sub a3
  have c3 := a2.sub b4
  have c4 := b2.sub a4
  have e : gapZ a b = 0 ∨ gapZ a b = bxL a - bxR b ∨ gapZ a b = bxL b - bxR a ∨ gapZ a b = bxD a - bxU b ∨ gapZ a b = bxD b - bxU a := by unfold gapZ mx5; omega
  rcases e with e | e | e | e | e <;> rw [e] <;> assumption
end MI
namespace K33
open MI
theorem gpN_bd {r : Row} {c : List Zp} (k : RwOk r) (rc : Rn c) (ic : ∀ q ∈ c, In9 q) : ∀ z ∈ gpN r (stl c), Bd 60 z.1 ∧ Bd 60 z.2 := by
  obtain ⟨a1, a2, a3, a4⟩ := bx_bd k.rn.ne fun q hq => (k.ib q hq).b1
  obtain ⟨b1, b2, b3, b4⟩ := bx_bd rc.ne fun q hq => (ic q hq).b1
  have um : Bd 45 (r.u * r.m) := (k.bu.mul k.bm).mono (by decide)
  have vm : Bd 45 (r.v * r.m) := (k.bv.mul k.bm).mono (by decide)
  have z0 : ∀ B, Bd B (0 : Int) := fun B => by unfold Bd; simp; exact Nat.two_pow_pos _
  have e3 : (stl c).c = c := rfl
  have hu := k.bu
  have hv := k.bv
  have s : ∀ {x y : Int}, Bd 50 x → Bd 50 y → Bd 60 (x - y) := fun p q => (p.sub q).mono (by decide)
  have s1 : ∀ {x y : Int}, Bd 30 x → Bd 45 y → Bd 50 (x - y) := fun p q => ((p.mono (show 30 ≤ 45 by decide)).sub q).mono (by decide)
  have zz : Bd 45 ((0 : Int) * 0) := z0 _
  have w20 : ∀ {x : Int}, Bd 20 x → Bd 50 x := fun p => p.mono (by decide)
  intro z hz
  unfold gpN bxN sub2 at hz
  have f1 : (stl c).u = 0 := rfl
  have f2 : (stl c).v = 0 := rfl
  have f3 : (stl c).m = 0 := rfl
  rw [e3, f1, f2, f3] at hz
  simp only [List.mem_cons, List.not_mem_nil, or_false] at hz
  rcases hz with rfl | rfl | rfl | rfl | rfl
  · exact ⟨z0 _, z0 _⟩
  · exact ⟨s (s1 b1 zz) (s1 a3 um), s (z0 _) (w20 hu)⟩
  · exact ⟨s (s1 a1 um) (s1 b3 zz), s (w20 hu) (z0 _)⟩
  · exact ⟨s (s1 b2 zz) (s1 a4 vm), s (z0 _) (w20 hv)⟩
  · exact ⟨s (s1 a2 vm) (s1 b4 zz), s (w20 hv) (z0 _)⟩
section
variable {h : Hq} {Φ : Rs D → Prop} {m p : Nat} {n : Int}
theorem gapright_w {r : Row} {c : List Zp} {t : Qp} (k : RwOk r) (rc : Rn c) (ic : ∀ q ∈ c, In9 q) (f : Fq 150 t) (mt : mom t) (kk : ∀ h1, Gr h h1 → Φ (.ok (.bl true) h1)) : W (f_law_gap_right [dRw r, .tup (c.map dZ), .tup ((gpN r (stl c)).map dWl), dq t] h) Φ := by
  have k2 := stl_ok rc ic
  have r8 := k.rn.le
  have c8 := rc.le
  have tp := f.pos
  have d8 : (stl c).c.length ≤ 8 := c8
  unfold f_law_gap_right b_law_gap_right
  simp only [↓w_ok, ↓kB_ok, ↓kI_ok, ↓w_K, ↓w_V, ↓w_vR, ↓w_Op, ↓kO1_ok, ↓kO2_ok, ↓w_Un, ↓w_bOf, ↓w_isB, ↓kBl_ok, ↓kBl_exc, ↓kIf_ok, ↓kIf_exc, ↓w_okB, ↓w_okD, ↓w_bAnd, ↓w_bOr, ↓w_bNot, ↓kNot_ok, ↓kNot_exc, ↓w_eAnd, ↓w_eOr, ↓w_eNot, ↓kNotV_ok, ↓w_eIf, ↓w_aNil, ↓w_aCons, ↓kA1_ok, ↓kA2_ok, ↓kA1_exc, ↓kA2_exc, ↓w_Tup, ↓w_Lst, ↓w_mkT, ↓w_mkL, ↓w_Dct, ↓w_Dct2, ↓w_SoSe, ↓w_Call, ↓w_goS, ↓w_Bi, ↓w_Isi, ↓w_Cut, ↓kC1_ok, ↓kC2_ok, ↓kC3_ok, ↓w_oNone, ↓w_oSome, ↓w_vO, ↓w_Chain, ↓kCh1_ok, ↓kCh2_ok, ↓kCh3_ok, ↓w_chA, ↓w_App, ↓w_Ins, ↓w_insG, ↓z_nx, ↓z_End, ↓z_Seq, ↓kT_nx, ↓kT_rt, ↓kT_bk, ↓kT_ct, ↓kT_exc, ↓z_If, ↓kIfS_ok, ↓kIfS_exc, ↓z_Ret, ↓kRet_ok, ↓kRet_exc, ↓z_Expr, ↓kNx_ok, ↓kNx_exc, ↓z_Asg, ↓kAs_ok, ↓kAs_exc, ↓z_tgO, t_N, t_T, t_nil, t_cons, t_G, t_gnil, t_gcons, t_bind, ↓z_Par, ↓kPar_ok, ↓z_Raise, ↓z_Break, ↓z_Cont, ↓z_For, ↓kSrc_ok, ↓w_Range, ↓w_rgF, ↓w_SeqI, ↓w_sqT, ↓w_Zip, ↓w_zpT, ↓w_Comp, ↓kCo_ok, ↓w_of, ↓kF_rt, ↓kF_nx, ↓kF_exc, ↓w_add, ↓w_sub, ↓w_pow10, ↓w_neg, ↓w_lt, ↓w_le, ↓w_gt, ↓w_ge, ↓w_ix0, ↓w_ix1, ↓w_ix2, ↓w_ix3, ↓w_eqI, ↓w_eqS, ↓w_eqT2, ↓w_abs, ↓w_lenT, ↓w_lenS, ↓w_max, ↓w_min, ↓w_intT, ↓w_intF, ↓w_isBool, ↓w_isTup, ↓w_tupT, ↓w_listT, ↓w_cutT, ↓brw_t, ↓brw_f, ↓brz_t, ↓brz_f, List.getElem?_cons_zero, List.getElem?_cons_succ, List.set_cons_zero, List.set_cons_succ, List.length_cons, List.length_nil, List.map_cons, List.map_nil, List.replicate, List.cons_append, List.nil_append, small, Nat.reduceAdd, Nat.reduceLeDiff, Nat.reduceEqDiff, Int.cast_ofNat_Int, Int.reduceBEq, BEq.rfl, ↓w_Yes, ↓w_bTru, ↓augF_ok, ↓z_Put, ↓putF_ok, ↓putG_ok, ↓w_isNn, ↓w_isNt, wipeF_nil, wipeF_cons, Int.reduceLE, Int.reduceLT, Int.reduceToNat, Int.reducePow, Int.reduceNeg, Int.reduceSub, Int.reduceAdd, Int.reduceMul, decide_true, decide_false, Bool.not_true, Bool.not_false, Bool.bne_false, Bool.bne_true, ↓w_aStar, ↓w_stT, ↓kSt_ok, ↓w_aDef, ↓kDf_ok, ↓w_Cnt, ↓w_Ext, ↓w_isBB, ↓w_isIB, ↓w_Enum, ↓w_enT]
  refine comp_mapT c dZ (by omega) (fun q => dZ (q.1 * t.2, q.2 * t.2)) ?_ fun h1 g1 n1 l1 => ?_
  · intro q hq
    refine ⟨_, rfl, fun h' Ψ g kq => ?_⟩
    have ib := (ic q hq).b1
    simp only [↓w_ok, ↓kB_ok, ↓kI_ok, ↓w_K, ↓w_V, ↓w_vR, ↓w_Op, ↓kO1_ok, ↓kO2_ok, ↓w_Un, ↓w_bOf, ↓w_isB, ↓kBl_ok, ↓kBl_exc, ↓kIf_ok, ↓kIf_exc, ↓w_okB, ↓w_okD, ↓w_bAnd, ↓w_bOr, ↓w_bNot, ↓kNot_ok, ↓kNot_exc, ↓w_eAnd, ↓w_eOr, ↓w_eNot, ↓kNotV_ok, ↓w_eIf, ↓w_aNil, ↓w_aCons, ↓kA1_ok, ↓kA2_ok, ↓kA1_exc, ↓kA2_exc, ↓w_Tup, ↓w_Lst, ↓w_mkT, ↓w_mkL, ↓w_Dct, ↓w_Dct2, ↓w_SoSe, ↓w_Call, ↓w_goS, ↓w_Bi, ↓w_Isi, ↓w_Cut, ↓kC1_ok, ↓kC2_ok, ↓kC3_ok, ↓w_oNone, ↓w_oSome, ↓w_vO, ↓w_Chain, ↓kCh1_ok, ↓kCh2_ok, ↓kCh3_ok, ↓w_chA, ↓w_App, ↓w_Ins, ↓w_insG, ↓z_nx, ↓z_End, ↓z_Seq, ↓kT_nx, ↓kT_rt, ↓kT_bk, ↓kT_ct, ↓kT_exc, ↓z_If, ↓kIfS_ok, ↓kIfS_exc, ↓z_Ret, ↓kRet_ok, ↓kRet_exc, ↓z_Expr, ↓kNx_ok, ↓kNx_exc, ↓z_Asg, ↓kAs_ok, ↓kAs_exc, ↓z_tgO, t_N, t_T, t_nil, t_cons, t_G, t_gnil, t_gcons, t_bind, ↓z_Par, ↓kPar_ok, ↓z_Raise, ↓z_Break, ↓z_Cont, ↓z_For, ↓kSrc_ok, ↓w_Range, ↓w_rgF, ↓w_SeqI, ↓w_sqT, ↓w_Zip, ↓w_zpT, ↓w_Comp, ↓kCo_ok, ↓w_of, ↓kF_rt, ↓kF_nx, ↓kF_exc, ↓w_add, ↓w_sub, ↓w_pow10, ↓w_neg, ↓w_lt, ↓w_le, ↓w_gt, ↓w_ge, ↓w_ix0, ↓w_ix1, ↓w_ix2, ↓w_ix3, ↓w_eqI, ↓w_eqS, ↓w_eqT2, ↓w_abs, ↓w_lenT, ↓w_lenS, ↓w_max, ↓w_min, ↓w_intT, ↓w_intF, ↓w_isBool, ↓w_isTup, ↓w_tupT, ↓w_listT, ↓w_cutT, ↓brw_t, ↓brw_f, ↓brz_t, ↓brz_f, List.getElem?_cons_zero, List.getElem?_cons_succ, List.set_cons_zero, List.set_cons_succ, List.length_cons, List.length_nil, List.map_cons, List.map_nil, List.replicate, List.cons_append, List.nil_append, small, Nat.reduceAdd, Nat.reduceLeDiff, Nat.reduceEqDiff, Int.cast_ofNat_Int, Int.reduceBEq, BEq.rfl, ↓w_Yes, ↓w_bTru, ↓augF_ok, ↓z_Put, ↓putF_ok, ↓putG_ok, ↓w_isNn, ↓w_isNt, wipeF_nil, wipeF_cons, Int.reduceLE, Int.reduceLT, Int.reduceToNat, Int.reducePow, Int.reduceNeg, Int.reduceSub, Int.reduceAdd, Int.reduceMul, decide_true, decide_false, Bool.not_true, Bool.not_false, Bool.bne_false, Bool.bne_true, ↓w_aStar, ↓w_stT, ↓kSt_ok, ↓w_aDef, ↓kDf_ok, ↓w_Cnt, ↓w_Ext, ↓w_isBB, ↓w_isIB, ↓w_Enum, ↓w_enT, w_mul (ib.1.mk f.b2), w_mul (ib.2.mk f.b2)]
    exact kq h' (Gr.refl _)
  rw [stands_eq] at l1
  simp only [↓w_ok, ↓kB_ok, ↓kI_ok, ↓w_K, ↓w_V, ↓w_vR, ↓w_Op, ↓kO1_ok, ↓kO2_ok, ↓w_Un, ↓w_bOf, ↓w_isB, ↓kBl_ok, ↓kBl_exc, ↓kIf_ok, ↓kIf_exc, ↓w_okB, ↓w_okD, ↓w_bAnd, ↓w_bOr, ↓w_bNot, ↓kNot_ok, ↓kNot_exc, ↓w_eAnd, ↓w_eOr, ↓w_eNot, ↓kNotV_ok, ↓w_eIf, ↓w_aNil, ↓w_aCons, ↓kA1_ok, ↓kA2_ok, ↓kA1_exc, ↓kA2_exc, ↓w_Tup, ↓w_Lst, ↓w_mkT, ↓w_mkL, ↓w_Dct, ↓w_Dct2, ↓w_SoSe, ↓w_Call, ↓w_goS, ↓w_Bi, ↓w_Isi, ↓w_Cut, ↓kC1_ok, ↓kC2_ok, ↓kC3_ok, ↓w_oNone, ↓w_oSome, ↓w_vO, ↓w_Chain, ↓kCh1_ok, ↓kCh2_ok, ↓kCh3_ok, ↓w_chA, ↓w_App, ↓w_Ins, ↓w_insG, ↓z_nx, ↓z_End, ↓z_Seq, ↓kT_nx, ↓kT_rt, ↓kT_bk, ↓kT_ct, ↓kT_exc, ↓z_If, ↓kIfS_ok, ↓kIfS_exc, ↓z_Ret, ↓kRet_ok, ↓kRet_exc, ↓z_Expr, ↓kNx_ok, ↓kNx_exc, ↓z_Asg, ↓kAs_ok, ↓kAs_exc, ↓z_tgO, t_N, t_T, t_nil, t_cons, t_G, t_gnil, t_gcons, t_bind, ↓z_Par, ↓kPar_ok, ↓z_Raise, ↓z_Break, ↓z_Cont, ↓z_For, ↓kSrc_ok, ↓w_Range, ↓w_rgF, ↓w_SeqI, ↓w_sqT, ↓w_Zip, ↓w_zpT, ↓w_Comp, ↓kCo_ok, ↓w_of, ↓kF_rt, ↓kF_nx, ↓kF_exc, ↓w_add, ↓w_sub, ↓w_pow10, ↓w_neg, ↓w_lt, ↓w_le, ↓w_gt, ↓w_ge, ↓w_ix0, ↓w_ix1, ↓w_ix2, ↓w_ix3, ↓w_eqI, ↓w_eqS, ↓w_eqT2, ↓w_abs, ↓w_lenT, ↓w_lenS, ↓w_max, ↓w_min, ↓w_intT, ↓w_intF, ↓w_isBool, ↓w_isTup, ↓w_tupT, ↓w_listT, ↓w_cutT, ↓brw_t, ↓brw_f, ↓brz_t, ↓brz_f, List.getElem?_cons_zero, List.getElem?_cons_succ, List.set_cons_zero, List.set_cons_succ, List.length_cons, List.length_nil, List.map_cons, List.map_nil, List.replicate, List.cons_append, List.nil_append, small, Nat.reduceAdd, Nat.reduceLeDiff, Nat.reduceEqDiff, Int.cast_ofNat_Int, Int.reduceBEq, BEq.rfl, ↓w_Yes, ↓w_bTru, ↓augF_ok, ↓z_Put, ↓putF_ok, ↓putG_ok, ↓w_isNn, ↓w_isNt, wipeF_nil, wipeF_cons, Int.reduceLE, Int.reduceLT, Int.reduceToNat, Int.reducePow, Int.reduceNeg, Int.reduceSub, Int.reduceAdd, Int.reduceMul, decide_true, decide_false, Bool.not_true, Bool.not_false, Bool.bne_false, Bool.bne_true, ↓w_aStar, ↓w_stT, ↓kSt_ok, ↓w_aDef, ↓kDf_ok, ↓w_Cnt, ↓w_Ext, ↓w_isBB, ↓w_isIB, ↓w_Enum, ↓w_enT]
  refine lawat_w k f.bq (by decide) fun h2 g2 n2 l2 => ?_
  simp only [↓w_ok, ↓kB_ok, ↓kI_ok, ↓w_K, ↓w_V, ↓w_vR, ↓w_Op, ↓kO1_ok, ↓kO2_ok, ↓w_Un, ↓w_bOf, ↓w_isB, ↓kBl_ok, ↓kBl_exc, ↓kIf_ok, ↓kIf_exc, ↓w_okB, ↓w_okD, ↓w_bAnd, ↓w_bOr, ↓w_bNot, ↓kNot_ok, ↓kNot_exc, ↓w_eAnd, ↓w_eOr, ↓w_eNot, ↓kNotV_ok, ↓w_eIf, ↓w_aNil, ↓w_aCons, ↓kA1_ok, ↓kA2_ok, ↓kA1_exc, ↓kA2_exc, ↓w_Tup, ↓w_Lst, ↓w_mkT, ↓w_mkL, ↓w_Dct, ↓w_Dct2, ↓w_SoSe, ↓w_Call, ↓w_goS, ↓w_Bi, ↓w_Isi, ↓w_Cut, ↓kC1_ok, ↓kC2_ok, ↓kC3_ok, ↓w_oNone, ↓w_oSome, ↓w_vO, ↓w_Chain, ↓kCh1_ok, ↓kCh2_ok, ↓kCh3_ok, ↓w_chA, ↓w_App, ↓w_Ins, ↓w_insG, ↓z_nx, ↓z_End, ↓z_Seq, ↓kT_nx, ↓kT_rt, ↓kT_bk, ↓kT_ct, ↓kT_exc, ↓z_If, ↓kIfS_ok, ↓kIfS_exc, ↓z_Ret, ↓kRet_ok, ↓kRet_exc, ↓z_Expr, ↓kNx_ok, ↓kNx_exc, ↓z_Asg, ↓kAs_ok, ↓kAs_exc, ↓z_tgO, t_N, t_T, t_nil, t_cons, t_G, t_gnil, t_gcons, t_bind, ↓z_Par, ↓kPar_ok, ↓z_Raise, ↓z_Break, ↓z_Cont, ↓z_For, ↓kSrc_ok, ↓w_Range, ↓w_rgF, ↓w_SeqI, ↓w_sqT, ↓w_Zip, ↓w_zpT, ↓w_Comp, ↓kCo_ok, ↓w_of, ↓kF_rt, ↓kF_nx, ↓kF_exc, ↓w_add, ↓w_sub, ↓w_pow10, ↓w_neg, ↓w_lt, ↓w_le, ↓w_gt, ↓w_ge, ↓w_ix0, ↓w_ix1, ↓w_ix2, ↓w_ix3, ↓w_eqI, ↓w_eqS, ↓w_eqT2, ↓w_abs, ↓w_lenT, ↓w_lenS, ↓w_max, ↓w_min, ↓w_intT, ↓w_intF, ↓w_isBool, ↓w_isTup, ↓w_tupT, ↓w_listT, ↓w_cutT, ↓brw_t, ↓brw_f, ↓brz_t, ↓brz_f, List.getElem?_cons_zero, List.getElem?_cons_succ, List.set_cons_zero, List.set_cons_succ, List.length_cons, List.length_nil, List.map_cons, List.map_nil, List.replicate, List.cons_append, List.nil_append, small, Nat.reduceAdd, Nat.reduceLeDiff, Nat.reduceEqDiff, Int.cast_ofNat_Int, Int.reduceBEq, BEq.rfl, ↓w_Yes, ↓w_bTru, ↓augF_ok, ↓z_Put, ↓putF_ok, ↓putG_ok, ↓w_isNn, ↓w_isNt, wipeF_nil, wipeF_cons, Int.reduceLE, Int.reduceLT, Int.reduceToNat, Int.reducePow, Int.reduceNeg, Int.reduceSub, Int.reduceAdd, Int.reduceMul, decide_true, decide_false, Bool.not_true, Bool.not_false, Bool.bne_false, Bool.bne_true, ↓w_aStar, ↓w_stT, ↓kSt_ok, ↓w_aDef, ↓kDf_ok, ↓w_Cnt, ↓w_Ext, ↓w_isBB, ↓w_isIB, ↓w_Enum, ↓w_enT]
  refine lawgap_w (.lst _ _ l2) (.lst _ _ (g2.lst l1)) (mvd_ne k) (mvd_ne k2) (by rw [mvd_len]; omega) (by rw [mvd_len]; omega) fun h3 g3 => ?_
  have bG : Bd 193 (gapZ (mvd r t) (mvd (stl c) t)) := gapZ_bd (mvd_ne k) (mvd_ne k2) (mvd_bd k f.bq) (mvd_bd k2 f.bq)
  simp only [↓w_ok, ↓kB_ok, ↓kI_ok, ↓w_K, ↓w_V, ↓w_vR, ↓w_Op, ↓kO1_ok, ↓kO2_ok, ↓w_Un, ↓w_bOf, ↓w_isB, ↓kBl_ok, ↓kBl_exc, ↓kIf_ok, ↓kIf_exc, ↓w_okB, ↓w_okD, ↓w_bAnd, ↓w_bOr, ↓w_bNot, ↓kNot_ok, ↓kNot_exc, ↓w_eAnd, ↓w_eOr, ↓w_eNot, ↓kNotV_ok, ↓w_eIf, ↓w_aNil, ↓w_aCons, ↓kA1_ok, ↓kA2_ok, ↓kA1_exc, ↓kA2_exc, ↓w_Tup, ↓w_Lst, ↓w_mkT, ↓w_mkL, ↓w_Dct, ↓w_Dct2, ↓w_SoSe, ↓w_Call, ↓w_goS, ↓w_Bi, ↓w_Isi, ↓w_Cut, ↓kC1_ok, ↓kC2_ok, ↓kC3_ok, ↓w_oNone, ↓w_oSome, ↓w_vO, ↓w_Chain, ↓kCh1_ok, ↓kCh2_ok, ↓kCh3_ok, ↓w_chA, ↓w_App, ↓w_Ins, ↓w_insG, ↓z_nx, ↓z_End, ↓z_Seq, ↓kT_nx, ↓kT_rt, ↓kT_bk, ↓kT_ct, ↓kT_exc, ↓z_If, ↓kIfS_ok, ↓kIfS_exc, ↓z_Ret, ↓kRet_ok, ↓kRet_exc, ↓z_Expr, ↓kNx_ok, ↓kNx_exc, ↓z_Asg, ↓kAs_ok, ↓kAs_exc, ↓z_tgO, t_N, t_T, t_nil, t_cons, t_G, t_gnil, t_gcons, t_bind, ↓z_Par, ↓kPar_ok, ↓z_Raise, ↓z_Break, ↓z_Cont, ↓z_For, ↓kSrc_ok, ↓w_Range, ↓w_rgF, ↓w_SeqI, ↓w_sqT, ↓w_Zip, ↓w_zpT, ↓w_Comp, ↓kCo_ok, ↓w_of, ↓kF_rt, ↓kF_nx, ↓kF_exc, ↓w_add, ↓w_sub, ↓w_pow10, ↓w_neg, ↓w_lt, ↓w_le, ↓w_gt, ↓w_ge, ↓w_ix0, ↓w_ix1, ↓w_ix2, ↓w_ix3, ↓w_eqI, ↓w_eqS, ↓w_eqT2, ↓w_abs, ↓w_lenT, ↓w_lenS, ↓w_max, ↓w_min, ↓w_intT, ↓w_intF, ↓w_isBool, ↓w_isTup, ↓w_tupT, ↓w_listT, ↓w_cutT, ↓brw_t, ↓brw_f, ↓brz_t, ↓brz_f, List.getElem?_cons_zero, List.getElem?_cons_succ, List.set_cons_zero, List.set_cons_succ, List.length_cons, List.length_nil, List.map_cons, List.map_nil, List.replicate, List.cons_append, List.nil_append, small, Nat.reduceAdd, Nat.reduceLeDiff, Nat.reduceEqDiff, Int.cast_ofNat_Int, Int.reduceBEq, BEq.rfl, ↓w_Yes, ↓w_bTru, ↓augF_ok, ↓z_Put, ↓putF_ok, ↓putG_ok, ↓w_isNn, ↓w_isNt, wipeF_nil, wipeF_cons, Int.reduceLE, Int.reduceLT, Int.reduceToNat, Int.reducePow, Int.reduceNeg, Int.reduceSub, Int.reduceAdd, Int.reduceMul, decide_true, decide_false, Bool.not_true, Bool.not_false, Bool.bne_false, Bool.bne_true, ↓w_aStar, ↓w_stT, ↓kSt_ok, ↓w_aDef, ↓kDf_ok, ↓w_Cnt, ↓w_Ext, ↓w_isBB, ↓w_isIB, ↓w_Enum, ↓w_enT]
  refine gapat_w k rc ic f mt fun h4 g4 => ?_
  have fq : Fq 193 (lowQ (gapZ (mvd r t) (mvd (stl c) t)) t.2) := lowQ_ok (by omega) bG (f.b2.mono (by decide))
  simp only [↓w_ok, ↓kB_ok, ↓kI_ok, ↓w_K, ↓w_V, ↓w_vR, ↓w_Op, ↓kO1_ok, ↓kO2_ok, ↓w_Un, ↓w_bOf, ↓w_isB, ↓kBl_ok, ↓kBl_exc, ↓kIf_ok, ↓kIf_exc, ↓w_okB, ↓w_okD, ↓w_bAnd, ↓w_bOr, ↓w_bNot, ↓kNot_ok, ↓kNot_exc, ↓w_eAnd, ↓w_eOr, ↓w_eNot, ↓kNotV_ok, ↓w_eIf, ↓w_aNil, ↓w_aCons, ↓kA1_ok, ↓kA2_ok, ↓kA1_exc, ↓kA2_exc, ↓w_Tup, ↓w_Lst, ↓w_mkT, ↓w_mkL, ↓w_Dct, ↓w_Dct2, ↓w_SoSe, ↓w_Call, ↓w_goS, ↓w_Bi, ↓w_Isi, ↓w_Cut, ↓kC1_ok, ↓kC2_ok, ↓kC3_ok, ↓w_oNone, ↓w_oSome, ↓w_vO, ↓w_Chain, ↓kCh1_ok, ↓kCh2_ok, ↓kCh3_ok, ↓w_chA, ↓w_App, ↓w_Ins, ↓w_insG, ↓z_nx, ↓z_End, ↓z_Seq, ↓kT_nx, ↓kT_rt, ↓kT_bk, ↓kT_ct, ↓kT_exc, ↓z_If, ↓kIfS_ok, ↓kIfS_exc, ↓z_Ret, ↓kRet_ok, ↓kRet_exc, ↓z_Expr, ↓kNx_ok, ↓kNx_exc, ↓z_Asg, ↓kAs_ok, ↓kAs_exc, ↓z_tgO, t_N, t_T, t_nil, t_cons, t_G, t_gnil, t_gcons, t_bind, ↓z_Par, ↓kPar_ok, ↓z_Raise, ↓z_Break, ↓z_Cont, ↓z_For, ↓kSrc_ok, ↓w_Range, ↓w_rgF, ↓w_SeqI, ↓w_sqT, ↓w_Zip, ↓w_zpT, ↓w_Comp, ↓kCo_ok, ↓w_of, ↓kF_rt, ↓kF_nx, ↓kF_exc, ↓w_add, ↓w_sub, ↓w_pow10, ↓w_neg, ↓w_lt, ↓w_le, ↓w_gt, ↓w_ge, ↓w_ix0, ↓w_ix1, ↓w_ix2, ↓w_ix3, ↓w_eqI, ↓w_eqS, ↓w_eqT2, ↓w_abs, ↓w_lenT, ↓w_lenS, ↓w_max, ↓w_min, ↓w_intT, ↓w_intF, ↓w_isBool, ↓w_isTup, ↓w_tupT, ↓w_listT, ↓w_cutT, ↓brw_t, ↓brw_f, ↓brz_t, ↓brz_f, List.getElem?_cons_zero, List.getElem?_cons_succ, List.set_cons_zero, List.set_cons_succ, List.length_cons, List.length_nil, List.map_cons, List.map_nil, List.replicate, List.cons_append, List.nil_append, small, Nat.reduceAdd, Nat.reduceLeDiff, Nat.reduceEqDiff, Int.cast_ofNat_Int, Int.reduceBEq, BEq.rfl, ↓w_Yes, ↓w_bTru, ↓augF_ok, ↓z_Put, ↓putF_ok, ↓putG_ok, ↓w_isNn, ↓w_isNt, wipeF_nil, wipeF_cons, Int.reduceLE, Int.reduceLT, Int.reduceToNat, Int.reducePow, Int.reduceNeg, Int.reduceSub, Int.reduceAdd, Int.reduceMul, decide_true, decide_false, Bool.not_true, Bool.not_false, Bool.bne_false, Bool.bne_true, ↓w_aStar, ↓w_stT, ↓kSt_ok, ↓w_aDef, ↓kDf_ok, ↓w_Cnt, ↓w_Ext, ↓w_isBB, ↓w_isIB, ↓w_Enum, ↓w_enT, repr_q fq.bq (by decide)]
  refine low_w (by omega) f.b2 (by decide) ?_
  simp only [↓w_ok, ↓kB_ok, ↓kI_ok, ↓w_K, ↓w_V, ↓w_vR, ↓w_Op, ↓kO1_ok, ↓kO2_ok, ↓w_Un, ↓w_bOf, ↓w_isB, ↓kBl_ok, ↓kBl_exc, ↓kIf_ok, ↓kIf_exc, ↓w_okB, ↓w_okD, ↓w_bAnd, ↓w_bOr, ↓w_bNot, ↓kNot_ok, ↓kNot_exc, ↓w_eAnd, ↓w_eOr, ↓w_eNot, ↓kNotV_ok, ↓w_eIf, ↓w_aNil, ↓w_aCons, ↓kA1_ok, ↓kA2_ok, ↓kA1_exc, ↓kA2_exc, ↓w_Tup, ↓w_Lst, ↓w_mkT, ↓w_mkL, ↓w_Dct, ↓w_Dct2, ↓w_SoSe, ↓w_Call, ↓w_goS, ↓w_Bi, ↓w_Isi, ↓w_Cut, ↓kC1_ok, ↓kC2_ok, ↓kC3_ok, ↓w_oNone, ↓w_oSome, ↓w_vO, ↓w_Chain, ↓kCh1_ok, ↓kCh2_ok, ↓kCh3_ok, ↓w_chA, ↓w_App, ↓w_Ins, ↓w_insG, ↓z_nx, ↓z_End, ↓z_Seq, ↓kT_nx, ↓kT_rt, ↓kT_bk, ↓kT_ct, ↓kT_exc, ↓z_If, ↓kIfS_ok, ↓kIfS_exc, ↓z_Ret, ↓kRet_ok, ↓kRet_exc, ↓z_Expr, ↓kNx_ok, ↓kNx_exc, ↓z_Asg, ↓kAs_ok, ↓kAs_exc, ↓z_tgO, t_N, t_T, t_nil, t_cons, t_G, t_gnil, t_gcons, t_bind, ↓z_Par, ↓kPar_ok, ↓z_Raise, ↓z_Break, ↓z_Cont, ↓z_For, ↓kSrc_ok, ↓w_Range, ↓w_rgF, ↓w_SeqI, ↓w_sqT, ↓w_Zip, ↓w_zpT, ↓w_Comp, ↓kCo_ok, ↓w_of, ↓kF_rt, ↓kF_nx, ↓kF_exc, ↓w_add, ↓w_sub, ↓w_pow10, ↓w_neg, ↓w_lt, ↓w_le, ↓w_gt, ↓w_ge, ↓w_ix0, ↓w_ix1, ↓w_ix2, ↓w_ix3, ↓w_eqI, ↓w_eqS, ↓w_eqT2, ↓w_abs, ↓w_lenT, ↓w_lenS, ↓w_max, ↓w_min, ↓w_intT, ↓w_intF, ↓w_isBool, ↓w_isTup, ↓w_tupT, ↓w_listT, ↓w_cutT, ↓brw_t, ↓brw_f, ↓brz_t, ↓brz_f, List.getElem?_cons_zero, List.getElem?_cons_succ, List.set_cons_zero, List.set_cons_succ, List.length_cons, List.length_nil, List.map_cons, List.map_nil, List.replicate, List.cons_append, List.nil_append, small, Nat.reduceAdd, Nat.reduceLeDiff, Nat.reduceEqDiff, Int.cast_ofNat_Int, Int.reduceBEq, BEq.rfl, ↓w_Yes, ↓w_bTru, ↓augF_ok, ↓z_Put, ↓putF_ok, ↓putG_ok, ↓w_isNn, ↓w_isNt, wipeF_nil, wipeF_cons, Int.reduceLE, Int.reduceLT, Int.reduceToNat, Int.reducePow, Int.reduceNeg, Int.reduceSub, Int.reduceAdd, Int.reduceMul, decide_true, decide_false, Bool.not_true, Bool.not_false, Bool.bne_false, Bool.bne_true, ↓w_aStar, ↓w_stT, ↓kSt_ok, ↓w_aDef, ↓kDf_ok, ↓w_Cnt, ↓w_Ext, ↓w_isBB, ↓w_isIB, ↓w_Enum, ↓w_enT, repr_q fq.bq (by decide), eq_self]
  refine comp_mapT (gpN r (stl c)) dWl (by simp [gpN]) (fun z => .int (z.1 * t.2 + z.2 * t.1)) ?_ fun h5 g5 n5 l5 => ?_
  · intro z hz
    refine ⟨_, rfl, fun h' Ψ g kq => ?_⟩
    have bz := gpN_bd k rc ic z hz
    simp only [↓w_ok, ↓kB_ok, ↓kI_ok, ↓w_K, ↓w_V, ↓w_vR, ↓w_Op, ↓kO1_ok, ↓kO2_ok, ↓w_Un, ↓w_bOf, ↓w_isB, ↓kBl_ok, ↓kBl_exc, ↓kIf_ok, ↓kIf_exc, ↓w_okB, ↓w_okD, ↓w_bAnd, ↓w_bOr, ↓w_bNot, ↓kNot_ok, ↓kNot_exc, ↓w_eAnd, ↓w_eOr, ↓w_eNot, ↓kNotV_ok, ↓w_eIf, ↓w_aNil, ↓w_aCons, ↓kA1_ok, ↓kA2_ok, ↓kA1_exc, ↓kA2_exc, ↓w_Tup, ↓w_Lst, ↓w_mkT, ↓w_mkL, ↓w_Dct, ↓w_Dct2, ↓w_SoSe, ↓w_Call, ↓w_goS, ↓w_Bi, ↓w_Isi, ↓w_Cut, ↓kC1_ok, ↓kC2_ok, ↓kC3_ok, ↓w_oNone, ↓w_oSome, ↓w_vO, ↓w_Chain, ↓kCh1_ok, ↓kCh2_ok, ↓kCh3_ok, ↓w_chA, ↓w_App, ↓w_Ins, ↓w_insG, ↓z_nx, ↓z_End, ↓z_Seq, ↓kT_nx, ↓kT_rt, ↓kT_bk, ↓kT_ct, ↓kT_exc, ↓z_If, ↓kIfS_ok, ↓kIfS_exc, ↓z_Ret, ↓kRet_ok, ↓kRet_exc, ↓z_Expr, ↓kNx_ok, ↓kNx_exc, ↓z_Asg, ↓kAs_ok, ↓kAs_exc, ↓z_tgO, t_N, t_T, t_nil, t_cons, t_G, t_gnil, t_gcons, t_bind, ↓z_Par, ↓kPar_ok, ↓z_Raise, ↓z_Break, ↓z_Cont, ↓z_For, ↓kSrc_ok, ↓w_Range, ↓w_rgF, ↓w_SeqI, ↓w_sqT, ↓w_Zip, ↓w_zpT, ↓w_Comp, ↓kCo_ok, ↓w_of, ↓kF_rt, ↓kF_nx, ↓kF_exc, ↓w_add, ↓w_sub, ↓w_pow10, ↓w_neg, ↓w_lt, ↓w_le, ↓w_gt, ↓w_ge, ↓w_ix0, ↓w_ix1, ↓w_ix2, ↓w_ix3, ↓w_eqI, ↓w_eqS, ↓w_eqT2, ↓w_abs, ↓w_lenT, ↓w_lenS, ↓w_max, ↓w_min, ↓w_intT, ↓w_intF, ↓w_isBool, ↓w_isTup, ↓w_tupT, ↓w_listT, ↓w_cutT, ↓brw_t, ↓brw_f, ↓brz_t, ↓brz_f, List.getElem?_cons_zero, List.getElem?_cons_succ, List.set_cons_zero, List.set_cons_succ, List.length_cons, List.length_nil, List.map_cons, List.map_nil, List.replicate, List.cons_append, List.nil_append, small, Nat.reduceAdd, Nat.reduceLeDiff, Nat.reduceEqDiff, Int.cast_ofNat_Int, Int.reduceBEq, BEq.rfl, ↓w_Yes, ↓w_bTru, ↓augF_ok, ↓z_Put, ↓putF_ok, ↓putG_ok, ↓w_isNn, ↓w_isNt, wipeF_nil, wipeF_cons, Int.reduceLE, Int.reduceLT, Int.reduceToNat, Int.reducePow, Int.reduceNeg, Int.reduceSub, Int.reduceAdd, Int.reduceMul, decide_true, decide_false, Bool.not_true, Bool.not_false, Bool.bne_false, Bool.bne_true, ↓w_aStar, ↓w_stT, ↓kSt_ok, ↓w_aDef, ↓kDf_ok, ↓w_Cnt, ↓w_Ext, ↓w_isBB, ↓w_isIB, ↓w_Enum, ↓w_enT, w_mul (bz.1.mk f.b2), w_mul (bz.2.mk f.b1)]
    exact kq h' (Gr.refl _)
  have l5' : lstAt h5 h4.length = some (((gpN r (stl c)).map fun z => z.1 * t.2 + z.2 * t.1).map D.int) := by rw [l5, List.map_map]; rfl
  simp only [↓w_ok, ↓kB_ok, ↓kI_ok, ↓w_K, ↓w_V, ↓w_vR, ↓w_Op, ↓kO1_ok, ↓kO2_ok, ↓w_Un, ↓w_bOf, ↓w_isB, ↓kBl_ok, ↓kBl_exc, ↓kIf_ok, ↓kIf_exc, ↓w_okB, ↓w_okD, ↓w_bAnd, ↓w_bOr, ↓w_bNot, ↓kNot_ok, ↓kNot_exc, ↓w_eAnd, ↓w_eOr, ↓w_eNot, ↓kNotV_ok, ↓w_eIf, ↓w_aNil, ↓w_aCons, ↓kA1_ok, ↓kA2_ok, ↓kA1_exc, ↓kA2_exc, ↓w_Tup, ↓w_Lst, ↓w_mkT, ↓w_mkL, ↓w_Dct, ↓w_Dct2, ↓w_SoSe, ↓w_Call, ↓w_goS, ↓w_Bi, ↓w_Isi, ↓w_Cut, ↓kC1_ok, ↓kC2_ok, ↓kC3_ok, ↓w_oNone, ↓w_oSome, ↓w_vO, ↓w_Chain, ↓kCh1_ok, ↓kCh2_ok, ↓kCh3_ok, ↓w_chA, ↓w_App, ↓w_Ins, ↓w_insG, ↓z_nx, ↓z_End, ↓z_Seq, ↓kT_nx, ↓kT_rt, ↓kT_bk, ↓kT_ct, ↓kT_exc, ↓z_If, ↓kIfS_ok, ↓kIfS_exc, ↓z_Ret, ↓kRet_ok, ↓kRet_exc, ↓z_Expr, ↓kNx_ok, ↓kNx_exc, ↓z_Asg, ↓kAs_ok, ↓kAs_exc, ↓z_tgO, t_N, t_T, t_nil, t_cons, t_G, t_gnil, t_gcons, t_bind, ↓z_Par, ↓kPar_ok, ↓z_Raise, ↓z_Break, ↓z_Cont, ↓z_For, ↓kSrc_ok, ↓w_Range, ↓w_rgF, ↓w_SeqI, ↓w_sqT, ↓w_Zip, ↓w_zpT, ↓w_Comp, ↓kCo_ok, ↓w_of, ↓kF_rt, ↓kF_nx, ↓kF_exc, ↓w_add, ↓w_sub, ↓w_pow10, ↓w_neg, ↓w_lt, ↓w_le, ↓w_gt, ↓w_ge, ↓w_ix0, ↓w_ix1, ↓w_ix2, ↓w_ix3, ↓w_eqI, ↓w_eqS, ↓w_eqT2, ↓w_abs, ↓w_lenT, ↓w_lenS, ↓w_max, ↓w_min, ↓w_intT, ↓w_intF, ↓w_isBool, ↓w_isTup, ↓w_tupT, ↓w_listT, ↓w_cutT, ↓brw_t, ↓brw_f, ↓brz_t, ↓brz_f, List.getElem?_cons_zero, List.getElem?_cons_succ, List.set_cons_zero, List.set_cons_succ, List.length_cons, List.length_nil, List.map_cons, List.map_nil, List.replicate, List.cons_append, List.nil_append, small, Nat.reduceAdd, Nat.reduceLeDiff, Nat.reduceEqDiff, Int.cast_ofNat_Int, Int.reduceBEq, BEq.rfl, ↓w_Yes, ↓w_bTru, ↓augF_ok, ↓z_Put, ↓putF_ok, ↓putG_ok, ↓w_isNn, ↓w_isNt, wipeF_nil, wipeF_cons, Int.reduceLE, Int.reduceLT, Int.reduceToNat, Int.reducePow, Int.reduceNeg, Int.reduceSub, Int.reduceAdd, Int.reduceMul, decide_true, decide_false, Bool.not_true, Bool.not_false, Bool.bne_false, Bool.bne_true, ↓w_aStar, ↓w_stT, ↓kSt_ok, ↓w_aDef, ↓kDf_ok, ↓w_Cnt, ↓w_Ext, ↓w_isBB, ↓w_isIB, ↓w_Enum, ↓w_enT, w_maxL l5' (by simp [gpN]), gap_lin k rc tp]
  exact kk _ (g1.trans (g2.trans (g3.trans (g4.trans g5))))
theorem rw_tz {r : Row} (k : RwOk r) : Tz h (dRw r) (.tuple [.int r.m, .tuple (r.c.map pZ), .tuple [.int r.u, .int r.v]]) 3 5000 := by
  have c8 := k.rn.le
  have t1 : Tz h (.tup [.int r.u, .int r.v]) (.tuple [.int r.u, .int r.v]) 1 404 := Tz.tup (Tzs.cons (Tz.int (k.bu.mono (by decide))) (Tzs.cons (Tz.int (k.bv.mono (by decide))) Tzs.nil))
  refine (Tz.tup (Tzs.cons ((Tz.int (k.bm.mono (by decide))).more (by decide) (Nat.le_refl _)) (Tzs.cons (cs_tz k.ib) (Tzs.cons (t1.more (by decide) (Nat.le_refl _)) Tzs.nil)))).more (by decide) (by omega)
def pWl (z : Zp) : PyData := .tuple [.tuple [.int z.1, .int 1], .tuple [.int z.2, .int 1]]
theorem wl_tz {z : Zp} (b : Bd 60 z.1 ∧ Bd 60 z.2) : Tz h (dWl z) (pWl z) 2 1000 := by
  have o : ∀ {x : Int}, Bd 60 x → Tz h (.tup [.int x, .int 1]) (.tuple [.int x, .int 1]) 1 404 := fun bx => Tz.tup (Tzs.cons (Tz.int (bx.mono (by decide))) (Tzs.cons (Tz.int (Bd.of (by decide) (by decide))) Tzs.nil))
  exact (Tz.tup (Tzs.cons (o b.1) (Tzs.cons (o b.2) Tzs.nil))).more (by decide) (by decide)
theorem wls_tz {l : List Zp} (b : ∀ z ∈ l, Bd 60 z.1 ∧ Bd 60 z.2) (hl : l.length ≤ 10) : Tz h (.tup (l.map dWl)) (.tuple (l.map pWl)) 3 10010 :=
  (Tz.tup (Tzs.map fun z hz => wl_tz (b z hz))).more (by decide) (by omega)
end
end K33
end
section
set_option Elab.async false
set_option linter.all false
set_option autoImplicit false
set_option maxRecDepth 100000
set_option exponentiation.threshold 20000
set_option maxHeartbeats 4000000
open PySem L2
namespace K33
open MI
section
variable {h : Hq} {Φ : Rs D → Prop} {m p : Nat} {n : Int}
theorem gpN_rot {r : Row} {c : List Zp} (k : RwOk r) (j : Nat) : gpN { r with c := r.c.drop j ++ r.c.take j } (stl c) = gpN r (stl c) := by
  have e := bx_same (c := r.c.drop j ++ r.c.take j) (d := r.c) (by
    intro z
    have h1 := congrArg List.length z
    have h2 := List.length_pos_iff.2 k.rn.ne
    rw [List.length_append, List.length_drop, List.length_take, List.length_nil] at h1
    omega) (fun x => by
    rw [List.mem_append]
    conv => rhs; rw [← List.take_append_drop j r.c]
    rw [List.mem_append]; exact Or.comm)
  unfold gpN bxN
  simp only [e.1, e.2.1, e.2.2.1, e.2.2.2]
theorem rot_ok {r : Row} (k : RwOk r) (j : Nat) : RwOk { r with c := r.c.drop j ++ r.c.take j } :=
  ⟨k.m0, k.m1, k.rn.cut j, fun q hq => k.ib q (by
    rcases List.mem_append.1 hq with hq | hq
    · exact List.mem_of_mem_drop hq
    · exact List.mem_of_mem_take hq), k.u0, k.u1, k.v0, k.v1⟩
theorem right_w (P : PotAt h p n) (hn : n < 900000) (kk : ∀ h1, Φ (.ok (.bl true) h1)) : W (f_law_right [.ref p] h) Φ := by
  unfold f_law_right b_law_right
  simp only [↓w_ok, ↓kB_ok, ↓kI_ok, ↓w_K, ↓w_V, ↓w_vR, ↓w_Op, ↓kO1_ok, ↓kO2_ok, ↓w_Un, ↓w_bOf, ↓w_isB, ↓kBl_ok, ↓kBl_exc, ↓kIf_ok, ↓kIf_exc, ↓w_okB, ↓w_okD, ↓w_bAnd, ↓w_bOr, ↓w_bNot, ↓kNot_ok, ↓kNot_exc, ↓w_eAnd, ↓w_eOr, ↓w_eNot, ↓kNotV_ok, ↓w_eIf, ↓w_aNil, ↓w_aCons, ↓kA1_ok, ↓kA2_ok, ↓kA1_exc, ↓kA2_exc, ↓w_Tup, ↓w_Lst, ↓w_mkT, ↓w_mkL, ↓w_Dct, ↓w_Dct2, ↓w_SoSe, ↓w_Call, ↓w_goS, ↓w_Bi, ↓w_Isi, ↓w_Cut, ↓kC1_ok, ↓kC2_ok, ↓kC3_ok, ↓w_oNone, ↓w_oSome, ↓w_vO, ↓w_Chain, ↓kCh1_ok, ↓kCh2_ok, ↓kCh3_ok, ↓w_chA, ↓w_App, ↓w_Ins, ↓w_insG, ↓z_nx, ↓z_End, ↓z_Seq, ↓kT_nx, ↓kT_rt, ↓kT_bk, ↓kT_ct, ↓kT_exc, ↓z_If, ↓kIfS_ok, ↓kIfS_exc, ↓z_Ret, ↓kRet_ok, ↓kRet_exc, ↓z_Expr, ↓kNx_ok, ↓kNx_exc, ↓z_Asg, ↓kAs_ok, ↓kAs_exc, ↓z_tgO, t_N, t_T, t_nil, t_cons, t_G, t_gnil, t_gcons, t_bind, ↓z_Par, ↓kPar_ok, ↓z_Raise, ↓z_Break, ↓z_Cont, ↓z_For, ↓kSrc_ok, ↓w_Range, ↓w_rgF, ↓w_SeqI, ↓w_sqT, ↓w_Zip, ↓w_zpT, ↓w_Comp, ↓kCo_ok, ↓w_of, ↓kF_rt, ↓kF_nx, ↓kF_exc, ↓w_add, ↓w_sub, ↓w_pow10, ↓w_neg, ↓w_lt, ↓w_le, ↓w_gt, ↓w_ge, ↓w_ix0, ↓w_ix1, ↓w_ix2, ↓w_ix3, ↓w_eqI, ↓w_eqS, ↓w_eqT2, ↓w_abs, ↓w_lenT, ↓w_lenS, ↓w_max, ↓w_min, ↓w_intT, ↓w_intF, ↓w_isBool, ↓w_isTup, ↓w_tupT, ↓w_listT, ↓w_cutT, ↓brw_t, ↓brw_f, ↓brz_t, ↓brz_f, List.getElem?_cons_zero, List.getElem?_cons_succ, List.set_cons_zero, List.set_cons_succ, List.length_cons, List.length_nil, List.map_cons, List.map_nil, List.replicate, List.cons_append, List.nil_append, small, Nat.reduceAdd, Nat.reduceLeDiff, Nat.reduceEqDiff, Int.cast_ofNat_Int, Int.reduceBEq, BEq.rfl, ↓w_Yes, ↓w_bTru, ↓augF_ok, ↓z_Put, ↓putF_ok, ↓putG_ok, ↓w_isNn, ↓w_isNt, wipeF_nil, wipeF_cons, Int.reduceLE, Int.reduceLT, Int.reduceToNat, Int.reducePow, Int.reduceNeg, Int.reduceSub, Int.reduceAdd, Int.reduceMul, decide_true, decide_false, Bool.not_true, Bool.not_false, Bool.bne_false, Bool.bne_true, ↓w_aStar, ↓w_stT, ↓kSt_ok, ↓w_aDef, ↓kDf_ok, ↓w_Cnt, ↓w_Ext, ↓w_isBB, ↓w_isIB, ↓w_Enum, ↓w_enT]
  refine take_w P (by omega) (by decide) (by decide) fun m h1 m0 m1 P1 S1 => ?_
  simp only [↓w_ok, ↓kB_ok, ↓kI_ok, ↓w_K, ↓w_V, ↓w_vR, ↓w_Op, ↓kO1_ok, ↓kO2_ok, ↓w_Un, ↓w_bOf, ↓w_isB, ↓kBl_ok, ↓kBl_exc, ↓kIf_ok, ↓kIf_exc, ↓w_okB, ↓w_okD, ↓w_bAnd, ↓w_bOr, ↓w_bNot, ↓kNot_ok, ↓kNot_exc, ↓w_eAnd, ↓w_eOr, ↓w_eNot, ↓kNotV_ok, ↓w_eIf, ↓w_aNil, ↓w_aCons, ↓kA1_ok, ↓kA2_ok, ↓kA1_exc, ↓kA2_exc, ↓w_Tup, ↓w_Lst, ↓w_mkT, ↓w_mkL, ↓w_Dct, ↓w_Dct2, ↓w_SoSe, ↓w_Call, ↓w_goS, ↓w_Bi, ↓w_Isi, ↓w_Cut, ↓kC1_ok, ↓kC2_ok, ↓kC3_ok, ↓w_oNone, ↓w_oSome, ↓w_vO, ↓w_Chain, ↓kCh1_ok, ↓kCh2_ok, ↓kCh3_ok, ↓w_chA, ↓w_App, ↓w_Ins, ↓w_insG, ↓z_nx, ↓z_End, ↓z_Seq, ↓kT_nx, ↓kT_rt, ↓kT_bk, ↓kT_ct, ↓kT_exc, ↓z_If, ↓kIfS_ok, ↓kIfS_exc, ↓z_Ret, ↓kRet_ok, ↓kRet_exc, ↓z_Expr, ↓kNx_ok, ↓kNx_exc, ↓z_Asg, ↓kAs_ok, ↓kAs_exc, ↓z_tgO, t_N, t_T, t_nil, t_cons, t_G, t_gnil, t_gcons, t_bind, ↓z_Par, ↓kPar_ok, ↓z_Raise, ↓z_Break, ↓z_Cont, ↓z_For, ↓kSrc_ok, ↓w_Range, ↓w_rgF, ↓w_SeqI, ↓w_sqT, ↓w_Zip, ↓w_zpT, ↓w_Comp, ↓kCo_ok, ↓w_of, ↓kF_rt, ↓kF_nx, ↓kF_exc, ↓w_add, ↓w_sub, ↓w_pow10, ↓w_neg, ↓w_lt, ↓w_le, ↓w_gt, ↓w_ge, ↓w_ix0, ↓w_ix1, ↓w_ix2, ↓w_ix3, ↓w_eqI, ↓w_eqS, ↓w_eqT2, ↓w_abs, ↓w_lenT, ↓w_lenS, ↓w_max, ↓w_min, ↓w_intT, ↓w_intF, ↓w_isBool, ↓w_isTup, ↓w_tupT, ↓w_listT, ↓w_cutT, ↓brw_t, ↓brw_f, ↓brz_t, ↓brz_f, List.getElem?_cons_zero, List.getElem?_cons_succ, List.set_cons_zero, List.set_cons_succ, List.length_cons, List.length_nil, List.map_cons, List.map_nil, List.replicate, List.cons_append, List.nil_append, small, Nat.reduceAdd, Nat.reduceLeDiff, Nat.reduceEqDiff, Int.cast_ofNat_Int, Int.reduceBEq, BEq.rfl, ↓w_Yes, ↓w_bTru, ↓augF_ok, ↓z_Put, ↓putF_ok, ↓putG_ok, ↓w_isNn, ↓w_isNt, wipeF_nil, wipeF_cons, Int.reduceLE, Int.reduceLT, Int.reduceToNat, Int.reducePow, Int.reduceNeg, Int.reduceSub, Int.reduceAdd, Int.reduceMul, decide_true, decide_false, Bool.not_true, Bool.not_false, Bool.bne_false, Bool.bne_true, ↓w_aStar, ↓w_stT, ↓kSt_ok, ↓w_aDef, ↓kDf_ok, ↓w_Cnt, ↓w_Ext, ↓w_isBB, ↓w_isIB, ↓w_Enum, ↓w_enT]
  refine ring_w P1 (by omega) (by decide) (by decide) fun rc h2 rn ib P2 S2 => ?_
  simp only [↓w_ok, ↓kB_ok, ↓kI_ok, ↓w_K, ↓w_V, ↓w_vR, ↓w_Op, ↓kO1_ok, ↓kO2_ok, ↓w_Un, ↓w_bOf, ↓w_isB, ↓kBl_ok, ↓kBl_exc, ↓kIf_ok, ↓kIf_exc, ↓w_okB, ↓w_okD, ↓w_bAnd, ↓w_bOr, ↓w_bNot, ↓kNot_ok, ↓kNot_exc, ↓w_eAnd, ↓w_eOr, ↓w_eNot, ↓kNotV_ok, ↓w_eIf, ↓w_aNil, ↓w_aCons, ↓kA1_ok, ↓kA2_ok, ↓kA1_exc, ↓kA2_exc, ↓w_Tup, ↓w_Lst, ↓w_mkT, ↓w_mkL, ↓w_Dct, ↓w_Dct2, ↓w_SoSe, ↓w_Call, ↓w_goS, ↓w_Bi, ↓w_Isi, ↓w_Cut, ↓kC1_ok, ↓kC2_ok, ↓kC3_ok, ↓w_oNone, ↓w_oSome, ↓w_vO, ↓w_Chain, ↓kCh1_ok, ↓kCh2_ok, ↓kCh3_ok, ↓w_chA, ↓w_App, ↓w_Ins, ↓w_insG, ↓z_nx, ↓z_End, ↓z_Seq, ↓kT_nx, ↓kT_rt, ↓kT_bk, ↓kT_ct, ↓kT_exc, ↓z_If, ↓kIfS_ok, ↓kIfS_exc, ↓z_Ret, ↓kRet_ok, ↓kRet_exc, ↓z_Expr, ↓kNx_ok, ↓kNx_exc, ↓z_Asg, ↓kAs_ok, ↓kAs_exc, ↓z_tgO, t_N, t_T, t_nil, t_cons, t_G, t_gnil, t_gcons, t_bind, ↓z_Par, ↓kPar_ok, ↓z_Raise, ↓z_Break, ↓z_Cont, ↓z_For, ↓kSrc_ok, ↓w_Range, ↓w_rgF, ↓w_SeqI, ↓w_sqT, ↓w_Zip, ↓w_zpT, ↓w_Comp, ↓kCo_ok, ↓w_of, ↓kF_rt, ↓kF_nx, ↓kF_exc, ↓w_add, ↓w_sub, ↓w_pow10, ↓w_neg, ↓w_lt, ↓w_le, ↓w_gt, ↓w_ge, ↓w_ix0, ↓w_ix1, ↓w_ix2, ↓w_ix3, ↓w_eqI, ↓w_eqS, ↓w_eqT2, ↓w_abs, ↓w_lenT, ↓w_lenS, ↓w_max, ↓w_min, ↓w_intT, ↓w_intF, ↓w_isBool, ↓w_isTup, ↓w_tupT, ↓w_listT, ↓w_cutT, ↓brw_t, ↓brw_f, ↓brz_t, ↓brz_f, List.getElem?_cons_zero, List.getElem?_cons_succ, List.set_cons_zero, List.set_cons_succ, List.length_cons, List.length_nil, List.map_cons, List.map_nil, List.replicate, List.cons_append, List.nil_append, small, Nat.reduceAdd, Nat.reduceLeDiff, Nat.reduceEqDiff, Int.cast_ofNat_Int, Int.reduceBEq, BEq.rfl, ↓w_Yes, ↓w_bTru, ↓augF_ok, ↓z_Put, ↓putF_ok, ↓putG_ok, ↓w_isNn, ↓w_isNt, wipeF_nil, wipeF_cons, Int.reduceLE, Int.reduceLT, Int.reduceToNat, Int.reducePow, Int.reduceNeg, Int.reduceSub, Int.reduceAdd, Int.reduceMul, decide_true, decide_false, Bool.not_true, Bool.not_false, Bool.bne_false, Bool.bne_true, ↓w_aStar, ↓w_stT, ↓kSt_ok, ↓w_aDef, ↓kDf_ok, ↓w_Cnt, ↓w_Ext, ↓w_isBB, ↓w_isIB, ↓w_Enum, ↓w_enT]
  refine pace_w P2 (by omega) fun u v h3 u0 u1 v0 v1 P3 S3 => ?_
  simp only [↓w_ok, ↓kB_ok, ↓kI_ok, ↓w_K, ↓w_V, ↓w_vR, ↓w_Op, ↓kO1_ok, ↓kO2_ok, ↓w_Un, ↓w_bOf, ↓w_isB, ↓kBl_ok, ↓kBl_exc, ↓kIf_ok, ↓kIf_exc, ↓w_okB, ↓w_okD, ↓w_bAnd, ↓w_bOr, ↓w_bNot, ↓kNot_ok, ↓kNot_exc, ↓w_eAnd, ↓w_eOr, ↓w_eNot, ↓kNotV_ok, ↓w_eIf, ↓w_aNil, ↓w_aCons, ↓kA1_ok, ↓kA2_ok, ↓kA1_exc, ↓kA2_exc, ↓w_Tup, ↓w_Lst, ↓w_mkT, ↓w_mkL, ↓w_Dct, ↓w_Dct2, ↓w_SoSe, ↓w_Call, ↓w_goS, ↓w_Bi, ↓w_Isi, ↓w_Cut, ↓kC1_ok, ↓kC2_ok, ↓kC3_ok, ↓w_oNone, ↓w_oSome, ↓w_vO, ↓w_Chain, ↓kCh1_ok, ↓kCh2_ok, ↓kCh3_ok, ↓w_chA, ↓w_App, ↓w_Ins, ↓w_insG, ↓z_nx, ↓z_End, ↓z_Seq, ↓kT_nx, ↓kT_rt, ↓kT_bk, ↓kT_ct, ↓kT_exc, ↓z_If, ↓kIfS_ok, ↓kIfS_exc, ↓z_Ret, ↓kRet_ok, ↓kRet_exc, ↓z_Expr, ↓kNx_ok, ↓kNx_exc, ↓z_Asg, ↓kAs_ok, ↓kAs_exc, ↓z_tgO, t_N, t_T, t_nil, t_cons, t_G, t_gnil, t_gcons, t_bind, ↓z_Par, ↓kPar_ok, ↓z_Raise, ↓z_Break, ↓z_Cont, ↓z_For, ↓kSrc_ok, ↓w_Range, ↓w_rgF, ↓w_SeqI, ↓w_sqT, ↓w_Zip, ↓w_zpT, ↓w_Comp, ↓kCo_ok, ↓w_of, ↓kF_rt, ↓kF_nx, ↓kF_exc, ↓w_add, ↓w_sub, ↓w_pow10, ↓w_neg, ↓w_lt, ↓w_le, ↓w_gt, ↓w_ge, ↓w_ix0, ↓w_ix1, ↓w_ix2, ↓w_ix3, ↓w_eqI, ↓w_eqS, ↓w_eqT2, ↓w_abs, ↓w_lenT, ↓w_lenS, ↓w_max, ↓w_min, ↓w_intT, ↓w_intF, ↓w_isBool, ↓w_isTup, ↓w_tupT, ↓w_listT, ↓w_cutT, ↓brw_t, ↓brw_f, ↓brz_t, ↓brz_f, List.getElem?_cons_zero, List.getElem?_cons_succ, List.set_cons_zero, List.set_cons_succ, List.length_cons, List.length_nil, List.map_cons, List.map_nil, List.replicate, List.cons_append, List.nil_append, small, Nat.reduceAdd, Nat.reduceLeDiff, Nat.reduceEqDiff, Int.cast_ofNat_Int, Int.reduceBEq, BEq.rfl, ↓w_Yes, ↓w_bTru, ↓augF_ok, ↓z_Put, ↓putF_ok, ↓putG_ok, ↓w_isNn, ↓w_isNt, wipeF_nil, wipeF_cons, Int.reduceLE, Int.reduceLT, Int.reduceToNat, Int.reducePow, Int.reduceNeg, Int.reduceSub, Int.reduceAdd, Int.reduceMul, decide_true, decide_false, Bool.not_true, Bool.not_false, Bool.bne_false, Bool.bne_true, ↓w_aStar, ↓w_stT, ↓kSt_ok, ↓w_aDef, ↓kDf_ok, ↓w_Cnt, ↓w_Ext, ↓w_isBB, ↓w_isIB, ↓w_Enum, ↓w_enT]
  refine ring_w P3 (by omega) (by decide) (by decide) fun c h4 cn ic P4 S4 => ?_
  have k : RwOk ⟨m, rc, u, v⟩ := ⟨m0, (show m ≤ 1000000 by omega), rn, ib, u0, u1, v0, v1⟩
  have er : D.tup [.int m, .tup (rc.map dZ), .tup [.int u, .int v]] = dRw ⟨m, rc, u, v⟩ := rfl
  have em : m = (⟨m, rc, u, v⟩ : Row).m := rfl
  have ec : rc = (⟨m, rc, u, v⟩ : Row).c := rfl
  rw [er]
  generalize hr : (⟨m, rc, u, v⟩ : Row) = r at *
  have rl : 0 < r.c.length := List.length_pos_iff.2 k.rn.ne
  have r8 := k.rn.le
  have c8 := cn.le
  simp only [↓w_ok, ↓kB_ok, ↓kI_ok, ↓w_K, ↓w_V, ↓w_vR, ↓w_Op, ↓kO1_ok, ↓kO2_ok, ↓w_Un, ↓w_bOf, ↓w_isB, ↓kBl_ok, ↓kBl_exc, ↓kIf_ok, ↓kIf_exc, ↓w_okB, ↓w_okD, ↓w_bAnd, ↓w_bOr, ↓w_bNot, ↓kNot_ok, ↓kNot_exc, ↓w_eAnd, ↓w_eOr, ↓w_eNot, ↓kNotV_ok, ↓w_eIf, ↓w_aNil, ↓w_aCons, ↓kA1_ok, ↓kA2_ok, ↓kA1_exc, ↓kA2_exc, ↓w_Tup, ↓w_Lst, ↓w_mkT, ↓w_mkL, ↓w_Dct, ↓w_Dct2, ↓w_SoSe, ↓w_Call, ↓w_goS, ↓w_Bi, ↓w_Isi, ↓w_Cut, ↓kC1_ok, ↓kC2_ok, ↓kC3_ok, ↓w_oNone, ↓w_oSome, ↓w_vO, ↓w_Chain, ↓kCh1_ok, ↓kCh2_ok, ↓kCh3_ok, ↓w_chA, ↓w_App, ↓w_Ins, ↓w_insG, ↓z_nx, ↓z_End, ↓z_Seq, ↓kT_nx, ↓kT_rt, ↓kT_bk, ↓kT_ct, ↓kT_exc, ↓z_If, ↓kIfS_ok, ↓kIfS_exc, ↓z_Ret, ↓kRet_ok, ↓kRet_exc, ↓z_Expr, ↓kNx_ok, ↓kNx_exc, ↓z_Asg, ↓kAs_ok, ↓kAs_exc, ↓z_tgO, t_N, t_T, t_nil, t_cons, t_G, t_gnil, t_gcons, t_bind, ↓z_Par, ↓kPar_ok, ↓z_Raise, ↓z_Break, ↓z_Cont, ↓z_For, ↓kSrc_ok, ↓w_Range, ↓w_rgF, ↓w_SeqI, ↓w_sqT, ↓w_Zip, ↓w_zpT, ↓w_Comp, ↓kCo_ok, ↓w_of, ↓kF_rt, ↓kF_nx, ↓kF_exc, ↓w_add, ↓w_sub, ↓w_pow10, ↓w_neg, ↓w_lt, ↓w_le, ↓w_gt, ↓w_ge, ↓w_ix0, ↓w_ix1, ↓w_ix2, ↓w_ix3, ↓w_eqI, ↓w_eqS, ↓w_eqT2, ↓w_abs, ↓w_lenT, ↓w_lenS, ↓w_max, ↓w_min, ↓w_intT, ↓w_intF, ↓w_isBool, ↓w_isTup, ↓w_tupT, ↓w_listT, ↓w_cutT, ↓brw_t, ↓brw_f, ↓brz_t, ↓brz_f, List.getElem?_cons_zero, List.getElem?_cons_succ, List.set_cons_zero, List.set_cons_succ, List.length_cons, List.length_nil, List.map_cons, List.map_nil, List.replicate, List.cons_append, List.nil_append, small, Nat.reduceAdd, Nat.reduceLeDiff, Nat.reduceEqDiff, Int.cast_ofNat_Int, Int.reduceBEq, BEq.rfl, ↓w_Yes, ↓w_bTru, ↓augF_ok, ↓z_Put, ↓putF_ok, ↓putG_ok, ↓w_isNn, ↓w_isNt, wipeF_nil, wipeF_cons, Int.reduceLE, Int.reduceLT, Int.reduceToNat, Int.reducePow, Int.reduceNeg, Int.reduceSub, Int.reduceAdd, Int.reduceMul, decide_true, decide_false, Bool.not_true, Bool.not_false, Bool.bne_false, Bool.bne_true, ↓w_aStar, ↓w_stT, ↓kSt_ok, ↓w_aDef, ↓kDf_ok, ↓w_Cnt, ↓w_Ext, ↓w_isBB, ↓w_isIB, ↓w_Enum, ↓w_enT]
  obtain ⟨pk, tk⟩ : ∃ q, ∀ h : Hq, Tz h (.tup [dRw r, .tup (c.map dZ)]) q 4 10000 := ⟨_, fun h => (Tz.tup (Tzs.cons (rw_tz k) (Tzs.cons ((cs_tz ic).more (by decide) (Nat.le_refl _)) Tzs.nil))).more (by decide) (by omega)⟩
  have bg := gpN_bd k cn ic
  simp only [↓w_ok, ↓kB_ok, ↓kI_ok, ↓w_K, ↓w_V, ↓w_vR, ↓w_Op, ↓kO1_ok, ↓kO2_ok, ↓w_Un, ↓w_bOf, ↓w_isB, ↓kBl_ok, ↓kBl_exc, ↓kIf_ok, ↓kIf_exc, ↓w_okB, ↓w_okD, ↓w_bAnd, ↓w_bOr, ↓w_bNot, ↓kNot_ok, ↓kNot_exc, ↓w_eAnd, ↓w_eOr, ↓w_eNot, ↓kNotV_ok, ↓w_eIf, ↓w_aNil, ↓w_aCons, ↓kA1_ok, ↓kA2_ok, ↓kA1_exc, ↓kA2_exc, ↓w_Tup, ↓w_Lst, ↓w_mkT, ↓w_mkL, ↓w_Dct, ↓w_Dct2, ↓w_SoSe, ↓w_Call, ↓w_goS, ↓w_Bi, ↓w_Isi, ↓w_Cut, ↓kC1_ok, ↓kC2_ok, ↓kC3_ok, ↓w_oNone, ↓w_oSome, ↓w_vO, ↓w_Chain, ↓kCh1_ok, ↓kCh2_ok, ↓kCh3_ok, ↓w_chA, ↓w_App, ↓w_Ins, ↓w_insG, ↓z_nx, ↓z_End, ↓z_Seq, ↓kT_nx, ↓kT_rt, ↓kT_bk, ↓kT_ct, ↓kT_exc, ↓z_If, ↓kIfS_ok, ↓kIfS_exc, ↓z_Ret, ↓kRet_ok, ↓kRet_exc, ↓z_Expr, ↓kNx_ok, ↓kNx_exc, ↓z_Asg, ↓kAs_ok, ↓kAs_exc, ↓z_tgO, t_N, t_T, t_nil, t_cons, t_G, t_gnil, t_gcons, t_bind, ↓z_Par, ↓kPar_ok, ↓z_Raise, ↓z_Break, ↓z_Cont, ↓z_For, ↓kSrc_ok, ↓w_Range, ↓w_rgF, ↓w_SeqI, ↓w_sqT, ↓w_Zip, ↓w_zpT, ↓w_Comp, ↓kCo_ok, ↓w_of, ↓kF_rt, ↓kF_nx, ↓kF_exc, ↓w_add, ↓w_sub, ↓w_pow10, ↓w_neg, ↓w_lt, ↓w_le, ↓w_gt, ↓w_ge, ↓w_ix0, ↓w_ix1, ↓w_ix2, ↓w_ix3, ↓w_eqI, ↓w_eqS, ↓w_eqT2, ↓w_abs, ↓w_lenT, ↓w_lenS, ↓w_max, ↓w_min, ↓w_intT, ↓w_intF, ↓w_isBool, ↓w_isTup, ↓w_tupT, ↓w_listT, ↓w_cutT, ↓brw_t, ↓brw_f, ↓brz_t, ↓brz_f, List.getElem?_cons_zero, List.getElem?_cons_succ, List.set_cons_zero, List.set_cons_succ, List.length_cons, List.length_nil, List.map_cons, List.map_nil, List.replicate, List.cons_append, List.nil_append, small, Nat.reduceAdd, Nat.reduceLeDiff, Nat.reduceEqDiff, Int.cast_ofNat_Int, Int.reduceBEq, BEq.rfl, ↓w_Yes, ↓w_bTru, ↓augF_ok, ↓z_Put, ↓putF_ok, ↓putG_ok, ↓w_isNn, ↓w_isNt, wipeF_nil, wipeF_cons, Int.reduceLE, Int.reduceLT, Int.reduceToNat, Int.reducePow, Int.reduceNeg, Int.reduceSub, Int.reduceAdd, Int.reduceMul, decide_true, decide_false, Bool.not_true, Bool.not_false, Bool.bne_false, Bool.bne_true, ↓w_aStar, ↓w_stT, ↓kSt_ok, ↓w_aDef, ↓kDf_ok, ↓w_Cnt, ↓w_Ext, ↓w_isBB, ↓w_isIB, ↓w_Enum, ↓w_enT, tz_repr (tk _) (by decide) (by decide)]
  refine gaplines_w k cn ic fun h5 g5 => ?_
  simp only [↓w_ok, ↓kB_ok, ↓kI_ok, ↓w_K, ↓w_V, ↓w_vR, ↓w_Op, ↓kO1_ok, ↓kO2_ok, ↓w_Un, ↓w_bOf, ↓w_isB, ↓kBl_ok, ↓kBl_exc, ↓kIf_ok, ↓kIf_exc, ↓w_okB, ↓w_okD, ↓w_bAnd, ↓w_bOr, ↓w_bNot, ↓kNot_ok, ↓kNot_exc, ↓w_eAnd, ↓w_eOr, ↓w_eNot, ↓kNotV_ok, ↓w_eIf, ↓w_aNil, ↓w_aCons, ↓kA1_ok, ↓kA2_ok, ↓kA1_exc, ↓kA2_exc, ↓w_Tup, ↓w_Lst, ↓w_mkT, ↓w_mkL, ↓w_Dct, ↓w_Dct2, ↓w_SoSe, ↓w_Call, ↓w_goS, ↓w_Bi, ↓w_Isi, ↓w_Cut, ↓kC1_ok, ↓kC2_ok, ↓kC3_ok, ↓w_oNone, ↓w_oSome, ↓w_vO, ↓w_Chain, ↓kCh1_ok, ↓kCh2_ok, ↓kCh3_ok, ↓w_chA, ↓w_App, ↓w_Ins, ↓w_insG, ↓z_nx, ↓z_End, ↓z_Seq, ↓kT_nx, ↓kT_rt, ↓kT_bk, ↓kT_ct, ↓kT_exc, ↓z_If, ↓kIfS_ok, ↓kIfS_exc, ↓z_Ret, ↓kRet_ok, ↓kRet_exc, ↓z_Expr, ↓kNx_ok, ↓kNx_exc, ↓z_Asg, ↓kAs_ok, ↓kAs_exc, ↓z_tgO, t_N, t_T, t_nil, t_cons, t_G, t_gnil, t_gcons, t_bind, ↓z_Par, ↓kPar_ok, ↓z_Raise, ↓z_Break, ↓z_Cont, ↓z_For, ↓kSrc_ok, ↓w_Range, ↓w_rgF, ↓w_SeqI, ↓w_sqT, ↓w_Zip, ↓w_zpT, ↓w_Comp, ↓kCo_ok, ↓w_of, ↓kF_rt, ↓kF_nx, ↓kF_exc, ↓w_add, ↓w_sub, ↓w_pow10, ↓w_neg, ↓w_lt, ↓w_le, ↓w_gt, ↓w_ge, ↓w_ix0, ↓w_ix1, ↓w_ix2, ↓w_ix3, ↓w_eqI, ↓w_eqS, ↓w_eqT2, ↓w_abs, ↓w_lenT, ↓w_lenS, ↓w_max, ↓w_min, ↓w_intT, ↓w_intF, ↓w_isBool, ↓w_isTup, ↓w_tupT, ↓w_listT, ↓w_cutT, ↓brw_t, ↓brw_f, ↓brz_t, ↓brz_f, List.getElem?_cons_zero, List.getElem?_cons_succ, List.set_cons_zero, List.set_cons_succ, List.length_cons, List.length_nil, List.map_cons, List.map_nil, List.replicate, List.cons_append, List.nil_append, small, Nat.reduceAdd, Nat.reduceLeDiff, Nat.reduceEqDiff, Int.cast_ofNat_Int, Int.reduceBEq, BEq.rfl, ↓w_Yes, ↓w_bTru, ↓augF_ok, ↓z_Put, ↓putF_ok, ↓putG_ok, ↓w_isNn, ↓w_isNt, wipeF_nil, wipeF_cons, Int.reduceLE, Int.reduceLT, Int.reduceToNat, Int.reducePow, Int.reduceNeg, Int.reduceSub, Int.reduceAdd, Int.reduceMul, decide_true, decide_false, Bool.not_true, Bool.not_false, Bool.bne_false, Bool.bne_true, ↓w_aStar, ↓w_stT, ↓kSt_ok, ↓w_aDef, ↓kDf_ok, ↓w_Cnt, ↓w_Ext, ↓w_isBB, ↓w_isIB, ↓w_Enum, ↓w_enT, tz_repr (wls_tz bg (by simp [gpN])) (by decide) (by decide)]
  refine lawdue_w k cn fun h6 g6 => ?_
  simp only [↓w_ok, ↓kB_ok, ↓kI_ok, ↓w_K, ↓w_V, ↓w_vR, ↓w_Op, ↓kO1_ok, ↓kO2_ok, ↓w_Un, ↓w_bOf, ↓w_isB, ↓kBl_ok, ↓kBl_exc, ↓kIf_ok, ↓kIf_exc, ↓w_okB, ↓w_okD, ↓w_bAnd, ↓w_bOr, ↓w_bNot, ↓kNot_ok, ↓kNot_exc, ↓w_eAnd, ↓w_eOr, ↓w_eNot, ↓kNotV_ok, ↓w_eIf, ↓w_aNil, ↓w_aCons, ↓kA1_ok, ↓kA2_ok, ↓kA1_exc, ↓kA2_exc, ↓w_Tup, ↓w_Lst, ↓w_mkT, ↓w_mkL, ↓w_Dct, ↓w_Dct2, ↓w_SoSe, ↓w_Call, ↓w_goS, ↓w_Bi, ↓w_Isi, ↓w_Cut, ↓kC1_ok, ↓kC2_ok, ↓kC3_ok, ↓w_oNone, ↓w_oSome, ↓w_vO, ↓w_Chain, ↓kCh1_ok, ↓kCh2_ok, ↓kCh3_ok, ↓w_chA, ↓w_App, ↓w_Ins, ↓w_insG, ↓z_nx, ↓z_End, ↓z_Seq, ↓kT_nx, ↓kT_rt, ↓kT_bk, ↓kT_ct, ↓kT_exc, ↓z_If, ↓kIfS_ok, ↓kIfS_exc, ↓z_Ret, ↓kRet_ok, ↓kRet_exc, ↓z_Expr, ↓kNx_ok, ↓kNx_exc, ↓z_Asg, ↓kAs_ok, ↓kAs_exc, ↓z_tgO, t_N, t_T, t_nil, t_cons, t_G, t_gnil, t_gcons, t_bind, ↓z_Par, ↓kPar_ok, ↓z_Raise, ↓z_Break, ↓z_Cont, ↓z_For, ↓kSrc_ok, ↓w_Range, ↓w_rgF, ↓w_SeqI, ↓w_sqT, ↓w_Zip, ↓w_zpT, ↓w_Comp, ↓kCo_ok, ↓w_of, ↓kF_rt, ↓kF_nx, ↓kF_exc, ↓w_add, ↓w_sub, ↓w_pow10, ↓w_neg, ↓w_lt, ↓w_le, ↓w_gt, ↓w_ge, ↓w_ix0, ↓w_ix1, ↓w_ix2, ↓w_ix3, ↓w_eqI, ↓w_eqS, ↓w_eqT2, ↓w_abs, ↓w_lenT, ↓w_lenS, ↓w_max, ↓w_min, ↓w_intT, ↓w_intF, ↓w_isBool, ↓w_isTup, ↓w_tupT, ↓w_listT, ↓w_cutT, ↓brw_t, ↓brw_f, ↓brz_t, ↓brz_f, List.getElem?_cons_zero, List.getElem?_cons_succ, List.set_cons_zero, List.set_cons_succ, List.length_cons, List.length_nil, List.map_cons, List.map_nil, List.replicate, List.cons_append, List.nil_append, small, Nat.reduceAdd, Nat.reduceLeDiff, Nat.reduceEqDiff, Int.cast_ofNat_Int, Int.reduceBEq, BEq.rfl, ↓w_Yes, ↓w_bTru, ↓augF_ok, ↓z_Put, ↓putF_ok, ↓putG_ok, ↓w_isNn, ↓w_isNt, wipeF_nil, wipeF_cons, Int.reduceLE, Int.reduceLT, Int.reduceToNat, Int.reducePow, Int.reduceNeg, Int.reduceSub, Int.reduceAdd, Int.reduceMul, decide_true, decide_false, Bool.not_true, Bool.not_false, Bool.bne_false, Bool.bne_true, ↓w_aStar, ↓w_stT, ↓kSt_ok, ↓w_aDef, ↓kDf_ok, ↓w_Cnt, ↓w_Ext, ↓w_isBB, ↓w_isIB, ↓w_Enum, ↓w_enT, tz_repr (wls_tz bg (by simp [gpN])) (by decide) (by decide), eq_self]
  refine turns_w (n := 3) (I := fun i fr h' => PotAt h' p (n + 100 + 10 * i) ∧ ∃ x5 : Option D, fr = [some (.ref p), some (dRw r), some (.tup (c.map dZ)), some (.str pk.shown), some (.tup ((gpN r (stl c)).map dWl)), x5, none, none]) ?_ ?_ _ 0 _ _ (by simp [srcT]) ⟨((g5.trans g6).pot P4).mono (by omega), _, rfl⟩
  · rintro i fr h' hi ⟨P', x5, rfl⟩
    obtain ⟨top, e, t0, t1⟩ : ∃ top : Int, ([D.int 12, D.int 12, D.int 1000000] : List D)[i]? = some (.int top) ∧ 1 ≤ top ∧ top ≤ 1000000 := by
      rcases (by omega : i = 0 ∨ i = 1 ∨ i = 2) with rfl | rfl | rfl
      · exact ⟨12, rfl, by omega, by omega⟩
      · exact ⟨12, rfl, by omega, by omega⟩
      · exact ⟨1000000, rfl, by omega, by omega⟩
    refine ⟨_, _, by rw [srcT_get]; exact e, rfl, ?_⟩
    simp only [↓w_ok, ↓kB_ok, ↓kI_ok, ↓w_K, ↓w_V, ↓w_vR, ↓w_Op, ↓kO1_ok, ↓kO2_ok, ↓w_Un, ↓w_bOf, ↓w_isB, ↓kBl_ok, ↓kBl_exc, ↓kIf_ok, ↓kIf_exc, ↓w_okB, ↓w_okD, ↓w_bAnd, ↓w_bOr, ↓w_bNot, ↓kNot_ok, ↓kNot_exc, ↓w_eAnd, ↓w_eOr, ↓w_eNot, ↓kNotV_ok, ↓w_eIf, ↓w_aNil, ↓w_aCons, ↓kA1_ok, ↓kA2_ok, ↓kA1_exc, ↓kA2_exc, ↓w_Tup, ↓w_Lst, ↓w_mkT, ↓w_mkL, ↓w_Dct, ↓w_Dct2, ↓w_SoSe, ↓w_Call, ↓w_goS, ↓w_Bi, ↓w_Isi, ↓w_Cut, ↓kC1_ok, ↓kC2_ok, ↓kC3_ok, ↓w_oNone, ↓w_oSome, ↓w_vO, ↓w_Chain, ↓kCh1_ok, ↓kCh2_ok, ↓kCh3_ok, ↓w_chA, ↓w_App, ↓w_Ins, ↓w_insG, ↓z_nx, ↓z_End, ↓z_Seq, ↓kT_nx, ↓kT_rt, ↓kT_bk, ↓kT_ct, ↓kT_exc, ↓z_If, ↓kIfS_ok, ↓kIfS_exc, ↓z_Ret, ↓kRet_ok, ↓kRet_exc, ↓z_Expr, ↓kNx_ok, ↓kNx_exc, ↓z_Asg, ↓kAs_ok, ↓kAs_exc, ↓z_tgO, t_N, t_T, t_nil, t_cons, t_G, t_gnil, t_gcons, t_bind, ↓z_Par, ↓kPar_ok, ↓z_Raise, ↓z_Break, ↓z_Cont, ↓z_For, ↓kSrc_ok, ↓w_Range, ↓w_rgF, ↓w_SeqI, ↓w_sqT, ↓w_Zip, ↓w_zpT, ↓w_Comp, ↓kCo_ok, ↓w_of, ↓kF_rt, ↓kF_nx, ↓kF_exc, ↓w_add, ↓w_sub, ↓w_pow10, ↓w_neg, ↓w_lt, ↓w_le, ↓w_gt, ↓w_ge, ↓w_ix0, ↓w_ix1, ↓w_ix2, ↓w_ix3, ↓w_eqI, ↓w_eqS, ↓w_eqT2, ↓w_abs, ↓w_lenT, ↓w_lenS, ↓w_max, ↓w_min, ↓w_intT, ↓w_intF, ↓w_isBool, ↓w_isTup, ↓w_tupT, ↓w_listT, ↓w_cutT, ↓brw_t, ↓brw_f, ↓brz_t, ↓brz_f, List.getElem?_cons_zero, List.getElem?_cons_succ, List.set_cons_zero, List.set_cons_succ, List.length_cons, List.length_nil, List.map_cons, List.map_nil, List.replicate, List.cons_append, List.nil_append, small, Nat.reduceAdd, Nat.reduceLeDiff, Nat.reduceEqDiff, Int.cast_ofNat_Int, Int.reduceBEq, BEq.rfl, ↓w_Yes, ↓w_bTru, ↓augF_ok, ↓z_Put, ↓putF_ok, ↓putG_ok, ↓w_isNn, ↓w_isNt, wipeF_nil, wipeF_cons, Int.reduceLE, Int.reduceLT, Int.reduceToNat, Int.reducePow, Int.reduceNeg, Int.reduceSub, Int.reduceAdd, Int.reduceMul, decide_true, decide_false, Bool.not_true, Bool.not_false, Bool.bne_false, Bool.bne_true, ↓w_aStar, ↓w_stT, ↓kSt_ok, ↓w_aDef, ↓kDf_ok, ↓w_Cnt, ↓w_Ext, ↓w_isBB, ↓w_isIB, ↓w_Enum, ↓w_enT]
    refine moment2_w P' (by omega) t0 t1 fun t h7 f q0 q1 P7 S7 => ?_
    simp only [↓w_ok, ↓kB_ok, ↓kI_ok, ↓w_K, ↓w_V, ↓w_vR, ↓w_Op, ↓kO1_ok, ↓kO2_ok, ↓w_Un, ↓w_bOf, ↓w_isB, ↓kBl_ok, ↓kBl_exc, ↓kIf_ok, ↓kIf_exc, ↓w_okB, ↓w_okD, ↓w_bAnd, ↓w_bOr, ↓w_bNot, ↓kNot_ok, ↓kNot_exc, ↓w_eAnd, ↓w_eOr, ↓w_eNot, ↓kNotV_ok, ↓w_eIf, ↓w_aNil, ↓w_aCons, ↓kA1_ok, ↓kA2_ok, ↓kA1_exc, ↓kA2_exc, ↓w_Tup, ↓w_Lst, ↓w_mkT, ↓w_mkL, ↓w_Dct, ↓w_Dct2, ↓w_SoSe, ↓w_Call, ↓w_goS, ↓w_Bi, ↓w_Isi, ↓w_Cut, ↓kC1_ok, ↓kC2_ok, ↓kC3_ok, ↓w_oNone, ↓w_oSome, ↓w_vO, ↓w_Chain, ↓kCh1_ok, ↓kCh2_ok, ↓kCh3_ok, ↓w_chA, ↓w_App, ↓w_Ins, ↓w_insG, ↓z_nx, ↓z_End, ↓z_Seq, ↓kT_nx, ↓kT_rt, ↓kT_bk, ↓kT_ct, ↓kT_exc, ↓z_If, ↓kIfS_ok, ↓kIfS_exc, ↓z_Ret, ↓kRet_ok, ↓kRet_exc, ↓z_Expr, ↓kNx_ok, ↓kNx_exc, ↓z_Asg, ↓kAs_ok, ↓kAs_exc, ↓z_tgO, t_N, t_T, t_nil, t_cons, t_G, t_gnil, t_gcons, t_bind, ↓z_Par, ↓kPar_ok, ↓z_Raise, ↓z_Break, ↓z_Cont, ↓z_For, ↓kSrc_ok, ↓w_Range, ↓w_rgF, ↓w_SeqI, ↓w_sqT, ↓w_Zip, ↓w_zpT, ↓w_Comp, ↓kCo_ok, ↓w_of, ↓kF_rt, ↓kF_nx, ↓kF_exc, ↓w_add, ↓w_sub, ↓w_pow10, ↓w_neg, ↓w_lt, ↓w_le, ↓w_gt, ↓w_ge, ↓w_ix0, ↓w_ix1, ↓w_ix2, ↓w_ix3, ↓w_eqI, ↓w_eqS, ↓w_eqT2, ↓w_abs, ↓w_lenT, ↓w_lenS, ↓w_max, ↓w_min, ↓w_intT, ↓w_intF, ↓w_isBool, ↓w_isTup, ↓w_tupT, ↓w_listT, ↓w_cutT, ↓brw_t, ↓brw_f, ↓brz_t, ↓brz_f, List.getElem?_cons_zero, List.getElem?_cons_succ, List.set_cons_zero, List.set_cons_succ, List.length_cons, List.length_nil, List.map_cons, List.map_nil, List.replicate, List.cons_append, List.nil_append, small, Nat.reduceAdd, Nat.reduceLeDiff, Nat.reduceEqDiff, Int.cast_ofNat_Int, Int.reduceBEq, BEq.rfl, ↓w_Yes, ↓w_bTru, ↓augF_ok, ↓z_Put, ↓putF_ok, ↓putG_ok, ↓w_isNn, ↓w_isNt, wipeF_nil, wipeF_cons, Int.reduceLE, Int.reduceLT, Int.reduceToNat, Int.reducePow, Int.reduceNeg, Int.reduceSub, Int.reduceAdd, Int.reduceMul, decide_true, decide_false, Bool.not_true, Bool.not_false, Bool.bne_false, Bool.bne_true, ↓w_aStar, ↓w_stT, ↓kSt_ok, ↓w_aDef, ↓kDf_ok, ↓w_Cnt, ↓w_Ext, ↓w_isBB, ↓w_isIB, ↓w_Enum, ↓w_enT]
    refine gapright_w k cn ic f (mom_of t1 f.pos q0 q1) fun h8 g8 => ?_
    simp only [↓w_ok, ↓kB_ok, ↓kI_ok, ↓w_K, ↓w_V, ↓w_vR, ↓w_Op, ↓kO1_ok, ↓kO2_ok, ↓w_Un, ↓w_bOf, ↓w_isB, ↓kBl_ok, ↓kBl_exc, ↓kIf_ok, ↓kIf_exc, ↓w_okB, ↓w_okD, ↓w_bAnd, ↓w_bOr, ↓w_bNot, ↓kNot_ok, ↓kNot_exc, ↓w_eAnd, ↓w_eOr, ↓w_eNot, ↓kNotV_ok, ↓w_eIf, ↓w_aNil, ↓w_aCons, ↓kA1_ok, ↓kA2_ok, ↓kA1_exc, ↓kA2_exc, ↓w_Tup, ↓w_Lst, ↓w_mkT, ↓w_mkL, ↓w_Dct, ↓w_Dct2, ↓w_SoSe, ↓w_Call, ↓w_goS, ↓w_Bi, ↓w_Isi, ↓w_Cut, ↓kC1_ok, ↓kC2_ok, ↓kC3_ok, ↓w_oNone, ↓w_oSome, ↓w_vO, ↓w_Chain, ↓kCh1_ok, ↓kCh2_ok, ↓kCh3_ok, ↓w_chA, ↓w_App, ↓w_Ins, ↓w_insG, ↓z_nx, ↓z_End, ↓z_Seq, ↓kT_nx, ↓kT_rt, ↓kT_bk, ↓kT_ct, ↓kT_exc, ↓z_If, ↓kIfS_ok, ↓kIfS_exc, ↓z_Ret, ↓kRet_ok, ↓kRet_exc, ↓z_Expr, ↓kNx_ok, ↓kNx_exc, ↓z_Asg, ↓kAs_ok, ↓kAs_exc, ↓z_tgO, t_N, t_T, t_nil, t_cons, t_G, t_gnil, t_gcons, t_bind, ↓z_Par, ↓kPar_ok, ↓z_Raise, ↓z_Break, ↓z_Cont, ↓z_For, ↓kSrc_ok, ↓w_Range, ↓w_rgF, ↓w_SeqI, ↓w_sqT, ↓w_Zip, ↓w_zpT, ↓w_Comp, ↓kCo_ok, ↓w_of, ↓kF_rt, ↓kF_nx, ↓kF_exc, ↓w_add, ↓w_sub, ↓w_pow10, ↓w_neg, ↓w_lt, ↓w_le, ↓w_gt, ↓w_ge, ↓w_ix0, ↓w_ix1, ↓w_ix2, ↓w_ix3, ↓w_eqI, ↓w_eqS, ↓w_eqT2, ↓w_abs, ↓w_lenT, ↓w_lenS, ↓w_max, ↓w_min, ↓w_intT, ↓w_intF, ↓w_isBool, ↓w_isTup, ↓w_tupT, ↓w_listT, ↓w_cutT, ↓brw_t, ↓brw_f, ↓brz_t, ↓brz_f, List.getElem?_cons_zero, List.getElem?_cons_succ, List.set_cons_zero, List.set_cons_succ, List.length_cons, List.length_nil, List.map_cons, List.map_nil, List.replicate, List.cons_append, List.nil_append, small, Nat.reduceAdd, Nat.reduceLeDiff, Nat.reduceEqDiff, Int.cast_ofNat_Int, Int.reduceBEq, BEq.rfl, ↓w_Yes, ↓w_bTru, ↓augF_ok, ↓z_Put, ↓putF_ok, ↓putG_ok, ↓w_isNn, ↓w_isNt, wipeF_nil, wipeF_cons, Int.reduceLE, Int.reduceLT, Int.reduceToNat, Int.reducePow, Int.reduceNeg, Int.reduceSub, Int.reduceAdd, Int.reduceMul, decide_true, decide_false, Bool.not_true, Bool.not_false, Bool.bne_false, Bool.bne_true, ↓w_aStar, ↓w_stT, ↓kSt_ok, ↓w_aDef, ↓kDf_ok, ↓w_Cnt, ↓w_Ext, ↓w_isBB, ↓w_isIB, ↓w_Enum, ↓w_enT]
    exact ⟨(g8.pot P7).mono (by omega), _, rfl⟩
  · rintro fr h' ⟨P', x5, rfl⟩
    refine ⟨by simp [srcT], ?_⟩
    simp only [↓w_ok, ↓kB_ok, ↓kI_ok, ↓w_K, ↓w_V, ↓w_vR, ↓w_Op, ↓kO1_ok, ↓kO2_ok, ↓w_Un, ↓w_bOf, ↓w_isB, ↓kBl_ok, ↓kBl_exc, ↓kIf_ok, ↓kIf_exc, ↓w_okB, ↓w_okD, ↓w_bAnd, ↓w_bOr, ↓w_bNot, ↓kNot_ok, ↓kNot_exc, ↓w_eAnd, ↓w_eOr, ↓w_eNot, ↓kNotV_ok, ↓w_eIf, ↓w_aNil, ↓w_aCons, ↓kA1_ok, ↓kA2_ok, ↓kA1_exc, ↓kA2_exc, ↓w_Tup, ↓w_Lst, ↓w_mkT, ↓w_mkL, ↓w_Dct, ↓w_Dct2, ↓w_SoSe, ↓w_Call, ↓w_goS, ↓w_Bi, ↓w_Isi, ↓w_Cut, ↓kC1_ok, ↓kC2_ok, ↓kC3_ok, ↓w_oNone, ↓w_oSome, ↓w_vO, ↓w_Chain, ↓kCh1_ok, ↓kCh2_ok, ↓kCh3_ok, ↓w_chA, ↓w_App, ↓w_Ins, ↓w_insG, ↓z_nx, ↓z_End, ↓z_Seq, ↓kT_nx, ↓kT_rt, ↓kT_bk, ↓kT_ct, ↓kT_exc, ↓z_If, ↓kIfS_ok, ↓kIfS_exc, ↓z_Ret, ↓kRet_ok, ↓kRet_exc, ↓z_Expr, ↓kNx_ok, ↓kNx_exc, ↓z_Asg, ↓kAs_ok, ↓kAs_exc, ↓z_tgO, t_N, t_T, t_nil, t_cons, t_G, t_gnil, t_gcons, t_bind, ↓z_Par, ↓kPar_ok, ↓z_Raise, ↓z_Break, ↓z_Cont, ↓z_For, ↓kSrc_ok, ↓w_Range, ↓w_rgF, ↓w_SeqI, ↓w_sqT, ↓w_Zip, ↓w_zpT, ↓w_Comp, ↓kCo_ok, ↓w_of, ↓kF_rt, ↓kF_nx, ↓kF_exc, ↓w_add, ↓w_sub, ↓w_pow10, ↓w_neg, ↓w_lt, ↓w_le, ↓w_gt, ↓w_ge, ↓w_ix0, ↓w_ix1, ↓w_ix2, ↓w_ix3, ↓w_eqI, ↓w_eqS, ↓w_eqT2, ↓w_abs, ↓w_lenT, ↓w_lenS, ↓w_max, ↓w_min, ↓w_intT, ↓w_intF, ↓w_isBool, ↓w_isTup, ↓w_tupT, ↓w_listT, ↓w_cutT, ↓brw_t, ↓brw_f, ↓brz_t, ↓brz_f, List.getElem?_cons_zero, List.getElem?_cons_succ, List.set_cons_zero, List.set_cons_succ, List.length_cons, List.length_nil, List.map_cons, List.map_nil, List.replicate, List.cons_append, List.nil_append, small, Nat.reduceAdd, Nat.reduceLeDiff, Nat.reduceEqDiff, Int.cast_ofNat_Int, Int.reduceBEq, BEq.rfl, ↓w_Yes, ↓w_bTru, ↓augF_ok, ↓z_Put, ↓putF_ok, ↓putG_ok, ↓w_isNn, ↓w_isNt, wipeF_nil, wipeF_cons, Int.reduceLE, Int.reduceLT, Int.reduceToNat, Int.reducePow, Int.reduceNeg, Int.reduceSub, Int.reduceAdd, Int.reduceMul, decide_true, decide_false, Bool.not_true, Bool.not_false, Bool.bne_false, Bool.bne_true, ↓w_aStar, ↓w_stT, ↓kSt_ok, ↓w_aDef, ↓kDf_ok, ↓w_Cnt, ↓w_Ext, ↓w_isBB, ↓w_isIB, ↓w_Enum, ↓w_enT, List.length_map]
    refine take_w P' (by omega) (by omega) (Int.lt_of_le_of_lt (show (r.c.length : Int) ≤ 8 by omega) (by decide)) fun j h7 j0 j1 P7 S7 => ?_
    obtain ⟨a, rfl⟩ : ∃ a : Nat, j = (a : Int) := ⟨j.toNat, by omega⟩
    simp only [↓w_ok, ↓kB_ok, ↓kI_ok, ↓w_K, ↓w_V, ↓w_vR, ↓w_Op, ↓kO1_ok, ↓kO2_ok, ↓w_Un, ↓w_bOf, ↓w_isB, ↓kBl_ok, ↓kBl_exc, ↓kIf_ok, ↓kIf_exc, ↓w_okB, ↓w_okD, ↓w_bAnd, ↓w_bOr, ↓w_bNot, ↓kNot_ok, ↓kNot_exc, ↓w_eAnd, ↓w_eOr, ↓w_eNot, ↓kNotV_ok, ↓w_eIf, ↓w_aNil, ↓w_aCons, ↓kA1_ok, ↓kA2_ok, ↓kA1_exc, ↓kA2_exc, ↓w_Tup, ↓w_Lst, ↓w_mkT, ↓w_mkL, ↓w_Dct, ↓w_Dct2, ↓w_SoSe, ↓w_Call, ↓w_goS, ↓w_Bi, ↓w_Isi, ↓w_Cut, ↓kC1_ok, ↓kC2_ok, ↓kC3_ok, ↓w_oNone, ↓w_oSome, ↓w_vO, ↓w_Chain, ↓kCh1_ok, ↓kCh2_ok, ↓kCh3_ok, ↓w_chA, ↓w_App, ↓w_Ins, ↓w_insG, ↓z_nx, ↓z_End, ↓z_Seq, ↓kT_nx, ↓kT_rt, ↓kT_bk, ↓kT_ct, ↓kT_exc, ↓z_If, ↓kIfS_ok, ↓kIfS_exc, ↓z_Ret, ↓kRet_ok, ↓kRet_exc, ↓z_Expr, ↓kNx_ok, ↓kNx_exc, ↓z_Asg, ↓kAs_ok, ↓kAs_exc, ↓z_tgO, t_N, t_T, t_nil, t_cons, t_G, t_gnil, t_gcons, t_bind, ↓z_Par, ↓kPar_ok, ↓z_Raise, ↓z_Break, ↓z_Cont, ↓z_For, ↓kSrc_ok, ↓w_Range, ↓w_rgF, ↓w_SeqI, ↓w_sqT, ↓w_Zip, ↓w_zpT, ↓w_Comp, ↓kCo_ok, ↓w_of, ↓kF_rt, ↓kF_nx, ↓kF_exc, ↓w_add, ↓w_sub, ↓w_pow10, ↓w_neg, ↓w_lt, ↓w_le, ↓w_gt, ↓w_ge, ↓w_ix0, ↓w_ix1, ↓w_ix2, ↓w_ix3, ↓w_eqI, ↓w_eqS, ↓w_eqT2, ↓w_abs, ↓w_lenT, ↓w_lenS, ↓w_max, ↓w_min, ↓w_intT, ↓w_intF, ↓w_isBool, ↓w_isTup, ↓w_tupT, ↓w_listT, ↓w_cutT, ↓brw_t, ↓brw_f, ↓brz_t, ↓brz_f, List.getElem?_cons_zero, List.getElem?_cons_succ, List.set_cons_zero, List.set_cons_succ, List.length_cons, List.length_nil, List.map_cons, List.map_nil, List.replicate, List.cons_append, List.nil_append, small, Nat.reduceAdd, Nat.reduceLeDiff, Nat.reduceEqDiff, Int.cast_ofNat_Int, Int.reduceBEq, BEq.rfl, ↓w_Yes, ↓w_bTru, ↓augF_ok, ↓z_Put, ↓putF_ok, ↓putG_ok, ↓w_isNn, ↓w_isNt, wipeF_nil, wipeF_cons, Int.reduceLE, Int.reduceLT, Int.reduceToNat, Int.reducePow, Int.reduceNeg, Int.reduceSub, Int.reduceAdd, Int.reduceMul, decide_true, decide_false, Bool.not_true, Bool.not_false, Bool.bne_false, Bool.bne_true, ↓w_aStar, ↓w_stT, ↓kSt_ok, ↓w_aDef, ↓kDf_ok, ↓w_Cnt, ↓w_Ext, ↓w_isBB, ↓w_isIB, ↓w_Enum, ↓w_enT, cut_lo, cut_hi, w_addT (show small (((r.c.map dZ).drop a).length + ((r.c.map dZ).take a).length) = true from decide_eq_true (by simp; omega))]
    have e2 : (r.c.map dZ).drop a ++ (r.c.map dZ).take a = (r.c.drop a ++ r.c.take a).map dZ := by simp
    rw [e2]
    refine gaplines_w (r := { r with c := r.c.drop a ++ r.c.take a }) (rot_ok k a) cn ic fun h8 g8 => ?_
    rw [gpN_rot k a]
    simp only [↓w_ok, ↓kB_ok, ↓kI_ok, ↓w_K, ↓w_V, ↓w_vR, ↓w_Op, ↓kO1_ok, ↓kO2_ok, ↓w_Un, ↓w_bOf, ↓w_isB, ↓kBl_ok, ↓kBl_exc, ↓kIf_ok, ↓kIf_exc, ↓w_okB, ↓w_okD, ↓w_bAnd, ↓w_bOr, ↓w_bNot, ↓kNot_ok, ↓kNot_exc, ↓w_eAnd, ↓w_eOr, ↓w_eNot, ↓kNotV_ok, ↓w_eIf, ↓w_aNil, ↓w_aCons, ↓kA1_ok, ↓kA2_ok, ↓kA1_exc, ↓kA2_exc, ↓w_Tup, ↓w_Lst, ↓w_mkT, ↓w_mkL, ↓w_Dct, ↓w_Dct2, ↓w_SoSe, ↓w_Call, ↓w_goS, ↓w_Bi, ↓w_Isi, ↓w_Cut, ↓kC1_ok, ↓kC2_ok, ↓kC3_ok, ↓w_oNone, ↓w_oSome, ↓w_vO, ↓w_Chain, ↓kCh1_ok, ↓kCh2_ok, ↓kCh3_ok, ↓w_chA, ↓w_App, ↓w_Ins, ↓w_insG, ↓z_nx, ↓z_End, ↓z_Seq, ↓kT_nx, ↓kT_rt, ↓kT_bk, ↓kT_ct, ↓kT_exc, ↓z_If, ↓kIfS_ok, ↓kIfS_exc, ↓z_Ret, ↓kRet_ok, ↓kRet_exc, ↓z_Expr, ↓kNx_ok, ↓kNx_exc, ↓z_Asg, ↓kAs_ok, ↓kAs_exc, ↓z_tgO, t_N, t_T, t_nil, t_cons, t_G, t_gnil, t_gcons, t_bind, ↓z_Par, ↓kPar_ok, ↓z_Raise, ↓z_Break, ↓z_Cont, ↓z_For, ↓kSrc_ok, ↓w_Range, ↓w_rgF, ↓w_SeqI, ↓w_sqT, ↓w_Zip, ↓w_zpT, ↓w_Comp, ↓kCo_ok, ↓w_of, ↓kF_rt, ↓kF_nx, ↓kF_exc, ↓w_add, ↓w_sub, ↓w_pow10, ↓w_neg, ↓w_lt, ↓w_le, ↓w_gt, ↓w_ge, ↓w_ix0, ↓w_ix1, ↓w_ix2, ↓w_ix3, ↓w_eqI, ↓w_eqS, ↓w_eqT2, ↓w_abs, ↓w_lenT, ↓w_lenS, ↓w_max, ↓w_min, ↓w_intT, ↓w_intF, ↓w_isBool, ↓w_isTup, ↓w_tupT, ↓w_listT, ↓w_cutT, ↓brw_t, ↓brw_f, ↓brz_t, ↓brz_f, List.getElem?_cons_zero, List.getElem?_cons_succ, List.set_cons_zero, List.set_cons_succ, List.length_cons, List.length_nil, List.map_cons, List.map_nil, List.replicate, List.cons_append, List.nil_append, small, Nat.reduceAdd, Nat.reduceLeDiff, Nat.reduceEqDiff, Int.cast_ofNat_Int, Int.reduceBEq, BEq.rfl, ↓w_Yes, ↓w_bTru, ↓augF_ok, ↓z_Put, ↓putF_ok, ↓putG_ok, ↓w_isNn, ↓w_isNt, wipeF_nil, wipeF_cons, Int.reduceLE, Int.reduceLT, Int.reduceToNat, Int.reducePow, Int.reduceNeg, Int.reduceSub, Int.reduceAdd, Int.reduceMul, decide_true, decide_false, Bool.not_true, Bool.not_false, Bool.bne_false, Bool.bne_true, ↓w_aStar, ↓w_stT, ↓kSt_ok, ↓w_aDef, ↓kDf_ok, ↓w_Cnt, ↓w_Ext, ↓w_isBB, ↓w_isIB, ↓w_Enum, ↓w_enT, tz_repr (wls_tz bg (by simp [gpN])) (by decide) (by decide), eq_self, tz_repr (tk _) (by decide) (by decide)]
    exact kk _
end
end K33
namespace K33
open MI
def row0 : Row := ⟨2, [(0, 0), (4, 1), (1, 3)], 1, -2⟩
def ring0 : List Zp := [(9, 9), (12, 9)]
theorem row0_ok : RwOk row0 := by
  have := rnB_ok (c := row0.c) (by decide +kernel)
  exact ⟨by decide, by decide, this.1, this.2, by decide, by decide, by decide, by decide⟩
theorem ring0_ok : Rn ring0 ∧ ∀ q ∈ ring0, In9 q := rnB_ok (by decide +kernel)
theorem gp0 : gpN row0 (stl ring0) = [(0, 0), (7, -1), (-14, 1), (2, 2), (-5, -2)] := by decide +kernel
theorem ga0 : lowQ (gapZ (mvd row0 (5, 2)) (mvd (stl ring0) (5, 2))) 2 = (7, 1) := by decide +kernel
theorem f52 : Fq 150 (5, 2) := ⟨by decide, by decide, Bd.of (by decide) (by decide), Bd.of (by decide) (by decide)⟩
theorem m52 : mom (5, 2) := by unfold mom; decide
theorem law_ok (ns : List Int) (hns : ns.length ≤ 63) : ∃ h', flaw [.scr ns] [] = .ok (.bl true) h' := by
  suffices hw : W (flaw [.scr ns] []) fun s => ∃ d h', s = .ok d h' ∧ d = .bl true by
    obtain ⟨d, h', e, rfl⟩ := hw
    exact ⟨h', e⟩
  unfold flaw blaw
  simp only [↓w_ok, ↓kB_ok, ↓kI_ok, ↓w_K, ↓w_V, ↓w_vR, ↓w_Op, ↓kO1_ok, ↓kO2_ok, ↓w_Un, ↓w_bOf, ↓w_isB, ↓kBl_ok, ↓kBl_exc, ↓kIf_ok, ↓kIf_exc, ↓w_okB, ↓w_okD, ↓w_bAnd, ↓w_bOr, ↓w_bNot, ↓kNot_ok, ↓kNot_exc, ↓w_eAnd, ↓w_eOr, ↓w_eNot, ↓kNotV_ok, ↓w_eIf, ↓w_aNil, ↓w_aCons, ↓kA1_ok, ↓kA2_ok, ↓kA1_exc, ↓kA2_exc, ↓w_Tup, ↓w_Lst, ↓w_mkT, ↓w_mkL, ↓w_Dct, ↓w_Dct2, ↓w_SoSe, ↓w_Call, ↓w_goS, ↓w_Bi, ↓w_Isi, ↓w_Cut, ↓kC1_ok, ↓kC2_ok, ↓kC3_ok, ↓w_oNone, ↓w_oSome, ↓w_vO, ↓w_Chain, ↓kCh1_ok, ↓kCh2_ok, ↓kCh3_ok, ↓w_chA, ↓w_App, ↓w_Ins, ↓w_insG, ↓z_nx, ↓z_End, ↓z_Seq, ↓kT_nx, ↓kT_rt, ↓kT_bk, ↓kT_ct, ↓kT_exc, ↓z_If, ↓kIfS_ok, ↓kIfS_exc, ↓z_Ret, ↓kRet_ok, ↓kRet_exc, ↓z_Expr, ↓kNx_ok, ↓kNx_exc, ↓z_Asg, ↓kAs_ok, ↓kAs_exc, ↓z_tgO, t_N, t_T, t_nil, t_cons, t_G, t_gnil, t_gcons, t_bind, ↓z_Par, ↓kPar_ok, ↓z_Raise, ↓z_Break, ↓z_Cont, ↓z_For, ↓kSrc_ok, ↓w_Range, ↓w_rgF, ↓w_SeqI, ↓w_sqT, ↓w_Zip, ↓w_zpT, ↓w_Comp, ↓kCo_ok, ↓w_of, ↓kF_rt, ↓kF_nx, ↓kF_exc, ↓w_add, ↓w_sub, ↓w_pow10, ↓w_neg, ↓w_lt, ↓w_le, ↓w_gt, ↓w_ge, ↓w_ix0, ↓w_ix1, ↓w_ix2, ↓w_ix3, ↓w_eqI, ↓w_eqS, ↓w_eqT2, ↓w_abs, ↓w_lenT, ↓w_lenS, ↓w_max, ↓w_min, ↓w_intT, ↓w_intF, ↓w_isBool, ↓w_isTup, ↓w_tupT, ↓w_listT, ↓w_cutT, ↓brw_t, ↓brw_f, ↓brz_t, ↓brz_f, List.getElem?_cons_zero, List.getElem?_cons_succ, List.set_cons_zero, List.set_cons_succ, List.length_cons, List.length_nil, List.map_cons, List.map_nil, List.replicate, List.cons_append, List.nil_append, small, Nat.reduceAdd, Nat.reduceLeDiff, Nat.reduceEqDiff, Int.cast_ofNat_Int, Int.reduceBEq, BEq.rfl, ↓w_Yes, ↓w_bTru, ↓augF_ok, ↓z_Put, ↓putF_ok, ↓putG_ok, ↓w_isNn, ↓w_isNt, wipeF_nil, wipeF_cons, Int.reduceLE, Int.reduceLT, Int.reduceToNat, Int.reducePow, Int.reduceNeg, Int.reduceSub, Int.reduceAdd, Int.reduceMul, decide_true, decide_false, Bool.not_true, Bool.not_false, Bool.bne_false, Bool.bne_true, ↓w_aStar, ↓w_stT, ↓kSt_ok, ↓w_aDef, ↓kDf_ok, ↓w_Cnt, ↓w_Ext, ↓w_isBB, ↓w_isIB, ↓w_Enum, ↓w_enT]
  obtain ⟨m, hm, hm2⟩ := cells_n ns.length 63 (by decide) (by decide)
  have hm3 : m ≤ 63 := hm2
  rw [hm]
  rw [iR_ok (show m < 1000000 by omega), w_ok, kSrc_ok]
  refine range_t (I := fun i fr h => ∃ x1, fr = [some (.scr ns), x1, none, none, none]) ⟨_, rfl⟩ ?_ ?_
  · rintro i fr h hi ⟨x1, rfl⟩
    unfold L0
    simp only [↓w_ok, ↓kB_ok, ↓kI_ok, ↓w_K, ↓w_V, ↓w_vR, ↓w_Op, ↓kO1_ok, ↓kO2_ok, ↓w_Un, ↓w_bOf, ↓w_isB, ↓kBl_ok, ↓kBl_exc, ↓kIf_ok, ↓kIf_exc, ↓w_okB, ↓w_okD, ↓w_bAnd, ↓w_bOr, ↓w_bNot, ↓kNot_ok, ↓kNot_exc, ↓w_eAnd, ↓w_eOr, ↓w_eNot, ↓kNotV_ok, ↓w_eIf, ↓w_aNil, ↓w_aCons, ↓kA1_ok, ↓kA2_ok, ↓kA1_exc, ↓kA2_exc, ↓w_Tup, ↓w_Lst, ↓w_mkT, ↓w_mkL, ↓w_Dct, ↓w_Dct2, ↓w_SoSe, ↓w_Call, ↓w_goS, ↓w_Bi, ↓w_Isi, ↓w_Cut, ↓kC1_ok, ↓kC2_ok, ↓kC3_ok, ↓w_oNone, ↓w_oSome, ↓w_vO, ↓w_Chain, ↓kCh1_ok, ↓kCh2_ok, ↓kCh3_ok, ↓w_chA, ↓w_App, ↓w_Ins, ↓w_insG, ↓z_nx, ↓z_End, ↓z_Seq, ↓kT_nx, ↓kT_rt, ↓kT_bk, ↓kT_ct, ↓kT_exc, ↓z_If, ↓kIfS_ok, ↓kIfS_exc, ↓z_Ret, ↓kRet_ok, ↓kRet_exc, ↓z_Expr, ↓kNx_ok, ↓kNx_exc, ↓z_Asg, ↓kAs_ok, ↓kAs_exc, ↓z_tgO, t_N, t_T, t_nil, t_cons, t_G, t_gnil, t_gcons, t_bind, ↓z_Par, ↓kPar_ok, ↓z_Raise, ↓z_Break, ↓z_Cont, ↓z_For, ↓kSrc_ok, ↓w_Range, ↓w_rgF, ↓w_SeqI, ↓w_sqT, ↓w_Zip, ↓w_zpT, ↓w_Comp, ↓kCo_ok, ↓w_of, ↓kF_rt, ↓kF_nx, ↓kF_exc, ↓w_add, ↓w_sub, ↓w_pow10, ↓w_neg, ↓w_lt, ↓w_le, ↓w_gt, ↓w_ge, ↓w_ix0, ↓w_ix1, ↓w_ix2, ↓w_ix3, ↓w_eqI, ↓w_eqS, ↓w_eqT2, ↓w_abs, ↓w_lenT, ↓w_lenS, ↓w_max, ↓w_min, ↓w_intT, ↓w_intF, ↓w_isBool, ↓w_isTup, ↓w_tupT, ↓w_listT, ↓w_cutT, ↓brw_t, ↓brw_f, ↓brz_t, ↓brz_f, List.getElem?_cons_zero, List.getElem?_cons_succ, List.set_cons_zero, List.set_cons_succ, List.length_cons, List.length_nil, List.map_cons, List.map_nil, List.replicate, List.cons_append, List.nil_append, small, Nat.reduceAdd, Nat.reduceLeDiff, Nat.reduceEqDiff, Int.cast_ofNat_Int, Int.reduceBEq, BEq.rfl, ↓w_Yes, ↓w_bTru, ↓augF_ok, ↓z_Put, ↓putF_ok, ↓putG_ok, ↓w_isNn, ↓w_isNt, wipeF_nil, wipeF_cons, Int.reduceLE, Int.reduceLT, Int.reduceToNat, Int.reducePow, Int.reduceNeg, Int.reduceSub, Int.reduceAdd, Int.reduceMul, decide_true, decide_false, Bool.not_true, Bool.not_false, Bool.bne_false, Bool.bne_true, ↓w_aStar, ↓w_stT, ↓kSt_ok, ↓w_aDef, ↓kDf_ok, ↓w_Cnt, ↓w_Ext, ↓w_isBB, ↓w_isIB, ↓w_Enum, ↓w_enT]
    refine pot_w (by omega) fun l P0 => ?_
    simp only [↓w_ok, ↓kB_ok, ↓kI_ok, ↓w_K, ↓w_V, ↓w_vR, ↓w_Op, ↓kO1_ok, ↓kO2_ok, ↓w_Un, ↓w_bOf, ↓w_isB, ↓kBl_ok, ↓kBl_exc, ↓kIf_ok, ↓kIf_exc, ↓w_okB, ↓w_okD, ↓w_bAnd, ↓w_bOr, ↓w_bNot, ↓kNot_ok, ↓kNot_exc, ↓w_eAnd, ↓w_eOr, ↓w_eNot, ↓kNotV_ok, ↓w_eIf, ↓w_aNil, ↓w_aCons, ↓kA1_ok, ↓kA2_ok, ↓kA1_exc, ↓kA2_exc, ↓w_Tup, ↓w_Lst, ↓w_mkT, ↓w_mkL, ↓w_Dct, ↓w_Dct2, ↓w_SoSe, ↓w_Call, ↓w_goS, ↓w_Bi, ↓w_Isi, ↓w_Cut, ↓kC1_ok, ↓kC2_ok, ↓kC3_ok, ↓w_oNone, ↓w_oSome, ↓w_vO, ↓w_Chain, ↓kCh1_ok, ↓kCh2_ok, ↓kCh3_ok, ↓w_chA, ↓w_App, ↓w_Ins, ↓w_insG, ↓z_nx, ↓z_End, ↓z_Seq, ↓kT_nx, ↓kT_rt, ↓kT_bk, ↓kT_ct, ↓kT_exc, ↓z_If, ↓kIfS_ok, ↓kIfS_exc, ↓z_Ret, ↓kRet_ok, ↓kRet_exc, ↓z_Expr, ↓kNx_ok, ↓kNx_exc, ↓z_Asg, ↓kAs_ok, ↓kAs_exc, ↓z_tgO, t_N, t_T, t_nil, t_cons, t_G, t_gnil, t_gcons, t_bind, ↓z_Par, ↓kPar_ok, ↓z_Raise, ↓z_Break, ↓z_Cont, ↓z_For, ↓kSrc_ok, ↓w_Range, ↓w_rgF, ↓w_SeqI, ↓w_sqT, ↓w_Zip, ↓w_zpT, ↓w_Comp, ↓kCo_ok, ↓w_of, ↓kF_rt, ↓kF_nx, ↓kF_exc, ↓w_add, ↓w_sub, ↓w_pow10, ↓w_neg, ↓w_lt, ↓w_le, ↓w_gt, ↓w_ge, ↓w_ix0, ↓w_ix1, ↓w_ix2, ↓w_ix3, ↓w_eqI, ↓w_eqS, ↓w_eqT2, ↓w_abs, ↓w_lenT, ↓w_lenS, ↓w_max, ↓w_min, ↓w_intT, ↓w_intF, ↓w_isBool, ↓w_isTup, ↓w_tupT, ↓w_listT, ↓w_cutT, ↓brw_t, ↓brw_f, ↓brz_t, ↓brz_f, List.getElem?_cons_zero, List.getElem?_cons_succ, List.set_cons_zero, List.set_cons_succ, List.length_cons, List.length_nil, List.map_cons, List.map_nil, List.replicate, List.cons_append, List.nil_append, small, Nat.reduceAdd, Nat.reduceLeDiff, Nat.reduceEqDiff, Int.cast_ofNat_Int, Int.reduceBEq, BEq.rfl, ↓w_Yes, ↓w_bTru, ↓augF_ok, ↓z_Put, ↓putF_ok, ↓putG_ok, ↓w_isNn, ↓w_isNt, wipeF_nil, wipeF_cons, Int.reduceLE, Int.reduceLT, Int.reduceToNat, Int.reducePow, Int.reduceNeg, Int.reduceSub, Int.reduceAdd, Int.reduceMul, decide_true, decide_false, Bool.not_true, Bool.not_false, Bool.bne_false, Bool.bne_true, ↓w_aStar, ↓w_stT, ↓kSt_ok, ↓w_aDef, ↓kDf_ok, ↓w_Cnt, ↓w_Ext, ↓w_isBB, ↓w_isIB, ↓w_Enum, ↓w_enT]
    refine right_w P0 (by decide) fun h1 => ?_
    simp only [↓w_ok, ↓kB_ok, ↓kI_ok, ↓w_K, ↓w_V, ↓w_vR, ↓w_Op, ↓kO1_ok, ↓kO2_ok, ↓w_Un, ↓w_bOf, ↓w_isB, ↓kBl_ok, ↓kBl_exc, ↓kIf_ok, ↓kIf_exc, ↓w_okB, ↓w_okD, ↓w_bAnd, ↓w_bOr, ↓w_bNot, ↓kNot_ok, ↓kNot_exc, ↓w_eAnd, ↓w_eOr, ↓w_eNot, ↓kNotV_ok, ↓w_eIf, ↓w_aNil, ↓w_aCons, ↓kA1_ok, ↓kA2_ok, ↓kA1_exc, ↓kA2_exc, ↓w_Tup, ↓w_Lst, ↓w_mkT, ↓w_mkL, ↓w_Dct, ↓w_Dct2, ↓w_SoSe, ↓w_Call, ↓w_goS, ↓w_Bi, ↓w_Isi, ↓w_Cut, ↓kC1_ok, ↓kC2_ok, ↓kC3_ok, ↓w_oNone, ↓w_oSome, ↓w_vO, ↓w_Chain, ↓kCh1_ok, ↓kCh2_ok, ↓kCh3_ok, ↓w_chA, ↓w_App, ↓w_Ins, ↓w_insG, ↓z_nx, ↓z_End, ↓z_Seq, ↓kT_nx, ↓kT_rt, ↓kT_bk, ↓kT_ct, ↓kT_exc, ↓z_If, ↓kIfS_ok, ↓kIfS_exc, ↓z_Ret, ↓kRet_ok, ↓kRet_exc, ↓z_Expr, ↓kNx_ok, ↓kNx_exc, ↓z_Asg, ↓kAs_ok, ↓kAs_exc, ↓z_tgO, t_N, t_T, t_nil, t_cons, t_G, t_gnil, t_gcons, t_bind, ↓z_Par, ↓kPar_ok, ↓z_Raise, ↓z_Break, ↓z_Cont, ↓z_For, ↓kSrc_ok, ↓w_Range, ↓w_rgF, ↓w_SeqI, ↓w_sqT, ↓w_Zip, ↓w_zpT, ↓w_Comp, ↓kCo_ok, ↓w_of, ↓kF_rt, ↓kF_nx, ↓kF_exc, ↓w_add, ↓w_sub, ↓w_pow10, ↓w_neg, ↓w_lt, ↓w_le, ↓w_gt, ↓w_ge, ↓w_ix0, ↓w_ix1, ↓w_ix2, ↓w_ix3, ↓w_eqI, ↓w_eqS, ↓w_eqT2, ↓w_abs, ↓w_lenT, ↓w_lenS, ↓w_max, ↓w_min, ↓w_intT, ↓w_intF, ↓w_isBool, ↓w_isTup, ↓w_tupT, ↓w_listT, ↓w_cutT, ↓brw_t, ↓brw_f, ↓brz_t, ↓brz_f, List.getElem?_cons_zero, List.getElem?_cons_succ, List.set_cons_zero, List.set_cons_succ, List.length_cons, List.length_nil, List.map_cons, List.map_nil, List.replicate, List.cons_append, List.nil_append, small, Nat.reduceAdd, Nat.reduceLeDiff, Nat.reduceEqDiff, Int.cast_ofNat_Int, Int.reduceBEq, BEq.rfl, ↓w_Yes, ↓w_bTru, ↓augF_ok, ↓z_Put, ↓putF_ok, ↓putG_ok, ↓w_isNn, ↓w_isNt, wipeF_nil, wipeF_cons, Int.reduceLE, Int.reduceLT, Int.reduceToNat, Int.reducePow, Int.reduceNeg, Int.reduceSub, Int.reduceAdd, Int.reduceMul, decide_true, decide_false, Bool.not_true, Bool.not_false, Bool.bne_false, Bool.bne_true, ↓w_aStar, ↓w_stT, ↓kSt_ok, ↓w_aDef, ↓kDf_ok, ↓w_Cnt, ↓w_Ext, ↓w_isBB, ↓w_isIB, ↓w_Enum, ↓w_enT]
    exact ⟨_, rfl⟩
  · rintro fr h ⟨x1, rfl⟩
    have e1 : D.tup [.int 2, .tup [.tup [.int 0, .int 0], .tup [.int 4, .int 1], .tup [.int 1, .int 3]], .tup [.int 1, .int (-2)]] = dRw row0 := rfl
    have e2 : D.tup [.tup [.int 9, .int 9], .tup [.int 12, .int 9]] = .tup (ring0.map dZ) := rfl
    have e3 : D.tup [.tup [.tup [.int 0, .int 1], .tup [.int 0, .int 1]], .tup [.tup [.int 7, .int 1], .tup [.int (-1), .int 1]], .tup [.tup [.int (-14), .int 1], .tup [.int 1, .int 1]], .tup [.tup [.int 2, .int 1], .tup [.int 2, .int 1]], .tup [.tup [.int (-5), .int 1], .tup [.int (-2), .int 1]]] = .tup ((gpN row0 (stl ring0)).map dWl) := by rw [gp0]; rfl
    have e4 : D.tup [.int 5, .int 2] = dq (5, 2) := rfl
    simp only [↓w_ok, ↓kB_ok, ↓kI_ok, ↓w_K, ↓w_V, ↓w_vR, ↓w_Op, ↓kO1_ok, ↓kO2_ok, ↓w_Un, ↓w_bOf, ↓w_isB, ↓kBl_ok, ↓kBl_exc, ↓kIf_ok, ↓kIf_exc, ↓w_okB, ↓w_okD, ↓w_bAnd, ↓w_bOr, ↓w_bNot, ↓kNot_ok, ↓kNot_exc, ↓w_eAnd, ↓w_eOr, ↓w_eNot, ↓kNotV_ok, ↓w_eIf, ↓w_aNil, ↓w_aCons, ↓kA1_ok, ↓kA2_ok, ↓kA1_exc, ↓kA2_exc, ↓w_Tup, ↓w_Lst, ↓w_mkT, ↓w_mkL, ↓w_Dct, ↓w_Dct2, ↓w_SoSe, ↓w_Call, ↓w_goS, ↓w_Bi, ↓w_Isi, ↓w_Cut, ↓kC1_ok, ↓kC2_ok, ↓kC3_ok, ↓w_oNone, ↓w_oSome, ↓w_vO, ↓w_Chain, ↓kCh1_ok, ↓kCh2_ok, ↓kCh3_ok, ↓w_chA, ↓w_App, ↓w_Ins, ↓w_insG, ↓z_nx, ↓z_End, ↓z_Seq, ↓kT_nx, ↓kT_rt, ↓kT_bk, ↓kT_ct, ↓kT_exc, ↓z_If, ↓kIfS_ok, ↓kIfS_exc, ↓z_Ret, ↓kRet_ok, ↓kRet_exc, ↓z_Expr, ↓kNx_ok, ↓kNx_exc, ↓z_Asg, ↓kAs_ok, ↓kAs_exc, ↓z_tgO, t_N, t_T, t_nil, t_cons, t_G, t_gnil, t_gcons, t_bind, ↓z_Par, ↓kPar_ok, ↓z_Raise, ↓z_Break, ↓z_Cont, ↓z_For, ↓kSrc_ok, ↓w_Range, ↓w_rgF, ↓w_SeqI, ↓w_sqT, ↓w_Zip, ↓w_zpT, ↓w_Comp, ↓kCo_ok, ↓w_of, ↓kF_rt, ↓kF_nx, ↓kF_exc, ↓w_add, ↓w_sub, ↓w_pow10, ↓w_neg, ↓w_lt, ↓w_le, ↓w_gt, ↓w_ge, ↓w_ix0, ↓w_ix1, ↓w_ix2, ↓w_ix3, ↓w_eqI, ↓w_eqS, ↓w_eqT2, ↓w_abs, ↓w_lenT, ↓w_lenS, ↓w_max, ↓w_min, ↓w_intT, ↓w_intF, ↓w_isBool, ↓w_isTup, ↓w_tupT, ↓w_listT, ↓w_cutT, ↓brw_t, ↓brw_f, ↓brz_t, ↓brz_f, List.getElem?_cons_zero, List.getElem?_cons_succ, List.set_cons_zero, List.set_cons_succ, List.length_cons, List.length_nil, List.map_cons, List.map_nil, List.replicate, List.cons_append, List.nil_append, small, Nat.reduceAdd, Nat.reduceLeDiff, Nat.reduceEqDiff, Int.cast_ofNat_Int, Int.reduceBEq, BEq.rfl, ↓w_Yes, ↓w_bTru, ↓augF_ok, ↓z_Put, ↓putF_ok, ↓putG_ok, ↓w_isNn, ↓w_isNt, wipeF_nil, wipeF_cons, Int.reduceLE, Int.reduceLT, Int.reduceToNat, Int.reducePow, Int.reduceNeg, Int.reduceSub, Int.reduceAdd, Int.reduceMul, decide_true, decide_false, Bool.not_true, Bool.not_false, Bool.bne_false, Bool.bne_true, ↓w_aStar, ↓w_stT, ↓kSt_ok, ↓w_aDef, ↓kDf_ok, ↓w_Cnt, ↓w_Ext, ↓w_isBB, ↓w_isIB, ↓w_Enum, ↓w_enT, e1, e2, e3]
    apply gaplines_w row0_ok ring0_ok.1 ring0_ok.2
    intro h1 g1
    simp only [↓w_ok, ↓kB_ok, ↓kI_ok, ↓w_K, ↓w_V, ↓w_vR, ↓w_Op, ↓kO1_ok, ↓kO2_ok, ↓w_Un, ↓w_bOf, ↓w_isB, ↓kBl_ok, ↓kBl_exc, ↓kIf_ok, ↓kIf_exc, ↓w_okB, ↓w_okD, ↓w_bAnd, ↓w_bOr, ↓w_bNot, ↓kNot_ok, ↓kNot_exc, ↓w_eAnd, ↓w_eOr, ↓w_eNot, ↓kNotV_ok, ↓w_eIf, ↓w_aNil, ↓w_aCons, ↓kA1_ok, ↓kA2_ok, ↓kA1_exc, ↓kA2_exc, ↓w_Tup, ↓w_Lst, ↓w_mkT, ↓w_mkL, ↓w_Dct, ↓w_Dct2, ↓w_SoSe, ↓w_Call, ↓w_goS, ↓w_Bi, ↓w_Isi, ↓w_Cut, ↓kC1_ok, ↓kC2_ok, ↓kC3_ok, ↓w_oNone, ↓w_oSome, ↓w_vO, ↓w_Chain, ↓kCh1_ok, ↓kCh2_ok, ↓kCh3_ok, ↓w_chA, ↓w_App, ↓w_Ins, ↓w_insG, ↓z_nx, ↓z_End, ↓z_Seq, ↓kT_nx, ↓kT_rt, ↓kT_bk, ↓kT_ct, ↓kT_exc, ↓z_If, ↓kIfS_ok, ↓kIfS_exc, ↓z_Ret, ↓kRet_ok, ↓kRet_exc, ↓z_Expr, ↓kNx_ok, ↓kNx_exc, ↓z_Asg, ↓kAs_ok, ↓kAs_exc, ↓z_tgO, t_N, t_T, t_nil, t_cons, t_G, t_gnil, t_gcons, t_bind, ↓z_Par, ↓kPar_ok, ↓z_Raise, ↓z_Break, ↓z_Cont, ↓z_For, ↓kSrc_ok, ↓w_Range, ↓w_rgF, ↓w_SeqI, ↓w_sqT, ↓w_Zip, ↓w_zpT, ↓w_Comp, ↓kCo_ok, ↓w_of, ↓kF_rt, ↓kF_nx, ↓kF_exc, ↓w_add, ↓w_sub, ↓w_pow10, ↓w_neg, ↓w_lt, ↓w_le, ↓w_gt, ↓w_ge, ↓w_ix0, ↓w_ix1, ↓w_ix2, ↓w_ix3, ↓w_eqI, ↓w_eqS, ↓w_eqT2, ↓w_abs, ↓w_lenT, ↓w_lenS, ↓w_max, ↓w_min, ↓w_intT, ↓w_intF, ↓w_isBool, ↓w_isTup, ↓w_tupT, ↓w_listT, ↓w_cutT, ↓brw_t, ↓brw_f, ↓brz_t, ↓brz_f, List.getElem?_cons_zero, List.getElem?_cons_succ, List.set_cons_zero, List.set_cons_succ, List.length_cons, List.length_nil, List.map_cons, List.map_nil, List.replicate, List.cons_append, List.nil_append, small, Nat.reduceAdd, Nat.reduceLeDiff, Nat.reduceEqDiff, Int.cast_ofNat_Int, Int.reduceBEq, BEq.rfl, ↓w_Yes, ↓w_bTru, ↓augF_ok, ↓z_Put, ↓putF_ok, ↓putG_ok, ↓w_isNn, ↓w_isNt, wipeF_nil, wipeF_cons, Int.reduceLE, Int.reduceLT, Int.reduceToNat, Int.reducePow, Int.reduceNeg, Int.reduceSub, Int.reduceAdd, Int.reduceMul, decide_true, decide_false, Bool.not_true, Bool.not_false, Bool.bne_false, Bool.bne_true, ↓w_aStar, ↓w_stT, ↓kSt_ok, ↓w_aDef, ↓kDf_ok, ↓w_Cnt, ↓w_Ext, ↓w_isBB, ↓w_isIB, ↓w_Enum, ↓w_enT, tz_same (wls_tz (gpN_bd row0_ok ring0_ok.1 ring0_ok.2) (by simp [gpN])) (by decide), e4]
    apply gapat_w row0_ok ring0_ok.1 ring0_ok.2 f52 m52
    intro h2 g2
    rw [ga0]
    simp only [↓w_ok, ↓kB_ok, ↓kI_ok, ↓w_K, ↓w_V, ↓w_vR, ↓w_Op, ↓kO1_ok, ↓kO2_ok, ↓w_Un, ↓w_bOf, ↓w_isB, ↓kBl_ok, ↓kBl_exc, ↓kIf_ok, ↓kIf_exc, ↓w_okB, ↓w_okD, ↓w_bAnd, ↓w_bOr, ↓w_bNot, ↓kNot_ok, ↓kNot_exc, ↓w_eAnd, ↓w_eOr, ↓w_eNot, ↓kNotV_ok, ↓w_eIf, ↓w_aNil, ↓w_aCons, ↓kA1_ok, ↓kA2_ok, ↓kA1_exc, ↓kA2_exc, ↓w_Tup, ↓w_Lst, ↓w_mkT, ↓w_mkL, ↓w_Dct, ↓w_Dct2, ↓w_SoSe, ↓w_Call, ↓w_goS, ↓w_Bi, ↓w_Isi, ↓w_Cut, ↓kC1_ok, ↓kC2_ok, ↓kC3_ok, ↓w_oNone, ↓w_oSome, ↓w_vO, ↓w_Chain, ↓kCh1_ok, ↓kCh2_ok, ↓kCh3_ok, ↓w_chA, ↓w_App, ↓w_Ins, ↓w_insG, ↓z_nx, ↓z_End, ↓z_Seq, ↓kT_nx, ↓kT_rt, ↓kT_bk, ↓kT_ct, ↓kT_exc, ↓z_If, ↓kIfS_ok, ↓kIfS_exc, ↓z_Ret, ↓kRet_ok, ↓kRet_exc, ↓z_Expr, ↓kNx_ok, ↓kNx_exc, ↓z_Asg, ↓kAs_ok, ↓kAs_exc, ↓z_tgO, t_N, t_T, t_nil, t_cons, t_G, t_gnil, t_gcons, t_bind, ↓z_Par, ↓kPar_ok, ↓z_Raise, ↓z_Break, ↓z_Cont, ↓z_For, ↓kSrc_ok, ↓w_Range, ↓w_rgF, ↓w_SeqI, ↓w_sqT, ↓w_Zip, ↓w_zpT, ↓w_Comp, ↓kCo_ok, ↓w_of, ↓kF_rt, ↓kF_nx, ↓kF_exc, ↓w_add, ↓w_sub, ↓w_pow10, ↓w_neg, ↓w_lt, ↓w_le, ↓w_gt, ↓w_ge, ↓w_ix0, ↓w_ix1, ↓w_ix2, ↓w_ix3, ↓w_eqI, ↓w_eqS, ↓w_eqT2, ↓w_abs, ↓w_lenT, ↓w_lenS, ↓w_max, ↓w_min, ↓w_intT, ↓w_intF, ↓w_isBool, ↓w_isTup, ↓w_tupT, ↓w_listT, ↓w_cutT, ↓brw_t, ↓brw_f, ↓brz_t, ↓brz_f, List.getElem?_cons_zero, List.getElem?_cons_succ, List.set_cons_zero, List.set_cons_succ, List.length_cons, List.length_nil, List.map_cons, List.map_nil, List.replicate, List.cons_append, List.nil_append, small, Nat.reduceAdd, Nat.reduceLeDiff, Nat.reduceEqDiff, Int.cast_ofNat_Int, Int.reduceBEq, BEq.rfl, ↓w_Yes, ↓w_bTru, ↓augF_ok, ↓z_Put, ↓putF_ok, ↓putG_ok, ↓w_isNn, ↓w_isNt, wipeF_nil, wipeF_cons, Int.reduceLE, Int.reduceLT, Int.reduceToNat, Int.reducePow, Int.reduceNeg, Int.reduceSub, Int.reduceAdd, Int.reduceMul, decide_true, decide_false, Bool.not_true, Bool.not_false, Bool.bne_false, Bool.bne_true, ↓w_aStar, ↓w_stT, ↓kSt_ok, ↓w_aDef, ↓kDf_ok, ↓w_Cnt, ↓w_Ext, ↓w_isBB, ↓w_isIB, ↓w_Enum, ↓w_enT]
    exact ⟨_, _, rfl, rfl⟩
end K33
end
section
set_option Elab.async false
set_option linter.all false
set_option autoImplicit false
set_option maxRecDepth 100000
set_option maxHeartbeats 4000000
namespace K33
open PySem PySem.Spec PyProof.Rows L2 MI
theorem done {P : Program} {w : World} {K : PySem.W.Frag} {h : Heap} {mg : Str → Option Value} {f : Addr} (X : K.In h) (G : h.Ns mainGlobals mg) (hfa : mg ("law" : Str) = some (.ref f)) (c : He.SaysD fa fn K) (m : ex K = true) :
    ∃ fd : FuncData, (∀ (s : Shared) (v : Value), BindsTo s fd ⟨[v], []⟩ [("script", v)]) ∧ ∀ base : Heap, K.In base → base.Ns mainGlobals mg → FnG P w K mg base 10 f fd ["script"] flaw := by
  have T := txt_of X G c m
  have e := hfa.symm.trans T.g_law
  cases e
  obtain ⟨fd, F⟩ := T.F_law
  have b := FunD.bindsA (ps := ["script"]) F fun _ _ _ _ _ _ us hl => match us, hl with | [_], _ => rfl
  exact ⟨fd, fun s v => b s [v] rfl, fun base _ _ => glaw T F⟩
end K33
open PySem PySem.W PyProof.Rows
set_option maxHeartbeats 0 in
theorem PySem.Challenge.cw_wherewhen_k33_gap_lines_told_holds : PySem.Challenge.rw_wherewhen_k33_gap_lines_told.Holds := by
  w_on; o_law; k_head; (case hw => w_witness2)
  k_fill
  refine MI.walkG (l := PySem.Challenge.rw_wherewhen_k33_gap_lines_told) (n := 63) (k := 10) (x := "script") (sem := K33.flaw) rfl (by decide) rfl ⟨rfl, by decide, by decide⟩ (fun w h Y => PySem.W.kIn_of Y) ?F (fun ns hn => K33.law_ok ns hn)
  case F =>
    intro w mg fa h KX G hmg
    refine K33.done KX G hmg ?c ?m
    case c => show He.obsD _ _ _ = He.valD _; kernel_rfl
    case m => kernel_rfl
end
