import PyProof.Rows.All
import Wide.All
import OpenK.AllK
import Wide.FinOn
import HandS.ForMost
import HandS.Exc
import HandS.ExcOwn
import HandS.TryOnly
import HandS.IsInst
import HandS.Wide
import HandS.Gcd
import HandS.TupAny
import HandS.RaiseMore
import HandS.CallSlots
import HandS.WordsExc
import PyProof.ReprRoads
import HandS.List
import PyProof.EqKinds
import PyProof.FactsAll.subtypes_3
import PyProof.FactsAll.subtypes_4
import PyProof.FactsAll.dict_1
import HandS.Defaults
import PyProof.RowDictHeap
import HandS.ExcIs
import HandS.Deep
import HandS.Zip
import HandS.More
import KE.DataFind
import HandS.Star
import HandS.Words
import HandS.HeadHook2
import PyProof.ReprLen
import PyProof.Rows.RegStrFacts
import PySem.Challenge.RW_wherewhen_k16_lines_and_conditions
section
set_option Elab.async false
set_option linter.all false
set_option autoImplicit false
set_option maxRecDepth 100000
/-! Plain values, plain heaps, and what a piece of the program is worth over them. -/
namespace MI
open PySem L2

/-- a plain value: a tuple is its items, a list is the number of its cell, the script its ints -/
inductive D where
  | non | bl (b : Bool) | int (i : Int) | str (x : Str) | tup (l : List D) | ref (n : Nat) | scr (l : List Int) | opq | adr (a : Addr) | ty (n : String)
/-- a cell -/
inductive Cell where
  | lst (l : List D)
  | dct (l : List (L2.Key × D))
abbrev Hq := List Cell
/-- what is raised: the class by its name, what it keeps -/
structure Xn where
  cls : Str
  val : Option (Str × D) := none
inductive Rs (α : Type) where
  | ok (a : α) (h : Hq)
  | exc (x : Xn) (h : Hq)
  | no
namespace Rs
variable {α β γ : Type}
def bind (r : Rs α) (f : α → Hq → Rs β) : Rs β := match r with
  | ok a h => f a h
  | exc x h => exc x h
  | no => no
@[simp] theorem bind_ok (a : α) (h : Hq) (f : α → Hq → Rs β) : (ok a h).bind f = f a h := rfl
@[simp] theorem bind_exc (x : Xn) (h : Hq) (f : α → Hq → Rs β) : (exc x h : Rs α).bind f = exc x h := rfl
@[simp] theorem bind_no (f : α → Hq → Rs β) : (no : Rs α).bind f = no := rfl
end Rs
abbrev Fr := List (Option D)
/-- an expression's, a test's, an argument list's worth -/
abbrev Sx := Fr → Hq → Rs D
abbrev Sb := Fr → Hq → Rs Bool
abbrev Sa := Fr → Hq → Rs (List D)
/-- a def's -/
abbrev Sf := List D → Hq → Rs D

/-! ### how plain things lie in the layer's heap -/
/-- the script's list, which nothing changes -/
def Scr (K : PySem.W.Frag) (H : Hp) (a : Addr) (l : List Int) : Prop :=
  (∃ o, H a = some (.frz o (.lst (l.map V.int)))) ∨
    ∃ (o : Obj) (its : Array Value) (n : Nat), K.lookup a = some o ∧ o.cls = .type "list" ∧ o.dict = none ∧ o.data = .seq its n ∧ its.size ≤ sizeLine ∧ Vals (l.map V.int) its.toList
theorem Scr.sq {K : PySem.W.Frag} {H : Hp} {a : Addr} {l : List Int} (h : Scr K H a l) : SqL K H a (l.map V.int) := by
  rcases h with ⟨o, h⟩ | h
  · exact .inl (.inr ⟨o, h⟩)
  · exact .inr h
mutual
inductive VR (K : PySem.W.Frag) (ι : List Addr) (H : Hp) : V → D → Prop
  | non : VR K ι H .non .non
  | bl (b : Bool) : VR K ι H (.bl b) (.bl b)
  | int (i : Int) : VR K ι H (.int i) (.int i)
  | str (x : Str) : VR K ι H (.str x) (.str x)
  | tup {a : Addr} {vs : List V} {l : List D} : H a = some (.tup vs) → VRs K ι H vs l → VR K ι H (.ref a) (.tup l)
  | ref {a : Addr} {n : Nat} : ι[n]? = some a → VR K ι H (.ref a) (.ref n)
  | scr {a : Addr} {l : List Int} : Scr K H a l → VR K ι H (.ref a) (.scr l)
  | opq (v : V) : VR K ι H v .opq
  | adr (a : Addr) : VR K ι H (.ref a) (.adr a)
  | ty (n : String) : VR K ι H (.ty n) (.ty n)
inductive VRs (K : PySem.W.Frag) (ι : List Addr) (H : Hp) : List V → List D → Prop
  | nil : VRs K ι H [] []
  | cons {v : V} {vs : List V} {d : D} {l : List D} : VR K ι H v d → VRs K ι H vs l → VRs K ι H (v :: vs) (d :: l)
end
/-- what grows: cells are added, what was tracked beside the cells stays -/
structure Ext (ι : List Addr) (H : Hp) (ι' : List Addr) (H' : Hp) : Prop where
  pre : ∃ t, ι' = ι ++ t ∧ ∀ a ∈ t, H a = none
  tups : ∀ a xs, H a = some (.tup xs) → H' a = some (.tup xs)
  frzs : ∀ a o u, H a = some (.frz o u) → H' a = some (.frz o u)
  keep : ∀ a o, H a = some o → a ∉ ι → H' a = some o
  live : ∀ a, H a ≠ none → H' a ≠ none
theorem Ext.refl (ι : List Addr) (H : Hp) : Ext ι H ι H := ⟨⟨[], by simp, fun a h => (nomatch h)⟩, fun _ _ h => h, fun _ _ _ h => h, fun _ _ h _ => h, fun _ h => h⟩
theorem Ext.get {ι ι' : List Addr} {H H' : Hp} (e : Ext ι H ι' H') {n : Nat} {a : Addr} (h : ι[n]? = some a) : ι'[n]? = some a := by
  obtain ⟨t, rfl, _⟩ := e.pre
  rw [List.getElem?_append_left (List.getElem?_eq_some_iff.mp h).1]
  exact h
theorem Ext.trans {ι ι1 ι2 : List Addr} {H H1 H2 : Hp} (e : Ext ι H ι1 H1) (f : Ext ι1 H1 ι2 H2) : Ext ι H ι2 H2 := by
  obtain ⟨t, rfl, ht⟩ := e.pre
  obtain ⟨u, rfl, hu⟩ := f.pre
  refine ⟨⟨t ++ u, by rw [List.append_assoc], fun a ha => ?_⟩, fun a xs h => f.tups a xs (e.tups a xs h), fun a o x h => f.frzs a o x (e.frzs a o x h), fun a o h n => ?_, fun a h => f.live a (e.live a h)⟩
  · rcases List.mem_append.mp ha with ha | ha
    · exact ht a ha
    · cases q : H a with
      | none => rfl
      | some o => exact absurd (hu a ha) (e.live a (by rw [q]; exact Option.some_ne_none o))
  · refine f.keep a o (e.keep a o h n) fun hm => ?_
    rcases List.mem_append.mp hm with hm | hm
    · exact n hm
    · rw [ht a hm] at h; cases h
theorem Scr.ext {K : PySem.W.Frag} {ι ι' : List Addr} {H H' : Hp} {a : Addr} {l : List Int} (h : Scr K H a l) (e : Ext ι H ι' H') : Scr K H' a l := by
  rcases h with ⟨o, h⟩ | h
  · exact .inl ⟨o, e.frzs _ _ _ h⟩
  · exact .inr h
mutual
theorem VR.ext {K : PySem.W.Frag} {ι ι' : List Addr} {H H' : Hp} (e : Ext ι H ι' H') : ∀ {v : V} {d : D}, VR K ι H v d → VR K ι' H' v d
  | _, _, .non => .non
  | _, _, .bl b => .bl b
  | _, _, .int i => .int i
  | _, _, .str x => .str x
  | _, _, .tup h r => .tup (e.tups _ _ h) (VRs.ext e r)
  | _, _, .ref h => .ref (e.get h)
  | _, _, .scr h => .scr (h.ext e)
  | _, _, .opq v => .opq v
  | _, _, .adr a => .adr a
  | _, _, .ty n => .ty n
theorem VRs.ext {K : PySem.W.Frag} {ι ι' : List Addr} {H H' : Hp} (e : Ext ι H ι' H') : ∀ {vs : List V} {l : List D}, VRs K ι H vs l → VRs K ι' H' vs l
  | _, _, .nil => .nil
  | _, _, .cons r t => .cons (VR.ext e r) (VRs.ext e t)
end
mutual
/-- more cells are counted, over the same heap -/
theorem VR.grow {K : PySem.W.Frag} {ι t : List Addr} {H : Hp} : ∀ {v : V} {d : D}, VR K ι H v d → VR K (ι ++ t) H v d
  | _, _, .non => .non
  | _, _, .bl b => .bl b
  | _, _, .int i => .int i
  | _, _, .str x => .str x
  | _, _, .tup h r => .tup h (VRs.grow r)
  | _, _, .ref h => .ref (by rw [List.getElem?_append_left (List.getElem?_eq_some_iff.mp h).1]; exact h)
  | _, _, .scr h => .scr h
  | _, _, .opq v => .opq v
  | _, _, .adr a => .adr a
  | _, _, .ty n => .ty n
theorem VRs.grow {K : PySem.W.Frag} {ι t : List Addr} {H : Hp} : ∀ {vs : List V} {l : List D}, VRs K ι H vs l → VRs K (ι ++ t) H vs l
  | _, _, .nil => .nil
  | _, _, .cons r u => .cons (VR.grow r) (VRs.grow u)
end
section
variable {K : PySem.W.Frag} {ι : List Addr} {H : Hp}
theorem VRs.length : ∀ {vs : List V} {l : List D}, VRs K ι H vs l → vs.length = l.length
  | _, _, .nil => rfl
  | _, _, .cons _ t => by rw [List.length_cons, List.length_cons, VRs.length t]
theorem VRs.append : ∀ {vs ws : List V} {l m : List D}, VRs K ι H vs l → VRs K ι H ws m → VRs K ι H (vs ++ ws) (l ++ m)
  | _, _, _, _, .nil, s => s
  | _, _, _, _, .cons r t, s => .cons r (VRs.append t s)
theorem VRs.get : ∀ {vs : List V} {l : List D} {i : Nat} {d : D}, VRs K ι H vs l → l[i]? = some d → ∃ v, vs[i]? = some v ∧ VR K ι H v d
  | _, _, _, _, .nil, e => by simp at e
  | _, _, 0, _, .cons r _, e => by simp at e; subst e; exact ⟨_, rfl, r⟩
  | _, _, i + 1, d, .cons _ t, e => by
    obtain ⟨v, h1, h2⟩ := VRs.get (i := i) (d := d) t (by simpa using e)
    exact ⟨v, by simpa using h1, h2⟩
theorem VRs.set {v : V} {d : D} (r : VR K ι H v d) : ∀ {vs : List V} {l : List D} (i : Nat), VRs K ι H vs l → VRs K ι H (vs.set i v) (l.set i d)
  | _, _, _, .nil => .nil
  | _, _, 0, .cons _ t => .cons r t
  | _, _, i + 1, .cons q t => .cons q (VRs.set r i t)
theorem VRs.take : ∀ {vs : List V} {l : List D} (n : Nat), VRs K ι H vs l → VRs K ι H (vs.take n) (l.take n)
  | _, _, 0, _ => .nil
  | _, _, _ + 1, .nil => .nil
  | _, _, n + 1, .cons r t => .cons r (VRs.take n t)
theorem VRs.drop : ∀ {vs : List V} {l : List D} (n : Nat), VRs K ι H vs l → VRs K ι H (vs.drop n) (l.drop n)
  | _, _, 0, r => r
  | _, _, _ + 1, .nil => .nil
  | _, _, n + 1, .cons _ t => VRs.drop n t
theorem VRs.one {vs : List V} {d : D} (r : VRs K ι H vs [d]) : ∃ v, vs = [v] ∧ VR K ι H v d := by
  cases r with
  | cons a b => cases b; exact ⟨_, rfl, a⟩
theorem VRs.two {vs : List V} {d e : D} (r : VRs K ι H vs [d, e]) : ∃ v w, vs = [v, w] ∧ VR K ι H v d ∧ VR K ι H w e := by
  cases r with
  | cons a b => obtain ⟨w, rfl, q⟩ := b.one; exact ⟨_, _, rfl, a, q⟩
end
theorem ixA {l : List Addr} (hN : l.Nodup) {i j : Nat} {x : Addr} (a : l[i]? = some x) (b : l[j]? = some x) : i = j := by
  obtain ⟨h1, e1⟩ := List.getElem?_eq_some_iff.mp a
  obtain ⟨h2, e2⟩ := List.getElem?_eq_some_iff.mp b
  exact (List.getElem_inj hN).mp (e1.trans e2.symm)
/-- a cell as it lies -/
def CR (K : PySem.W.Frag) (ι : List Addr) (H : Hp) (a : Addr) : Cell → Prop
  | .lst l => ∃ vs, H a = some (.lst vs) ∧ VRs K ι H vs l
  | .dct l => ∃ kvs, H a = some (.dK kvs) ∧ kvs.map (·.1) = l.map (·.1) ∧ VRs K ι H (kvs.map (·.2)) (l.map (·.2))
structure HR (K : PySem.W.Frag) (ι : List Addr) (h : Hq) (H : Hp) : Prop where
  len : ι.length = h.length
  nd : ι.Nodup
  cells : ∀ (n : Nat) (c : Cell) (a : Addr), h[n]? = some c → ι[n]? = some a → CR K ι H a c
theorem CR.tracked {K : PySem.W.Frag} {ι : List Addr} {H : Hp} {a : Addr} {c : Cell} (r : CR K ι H a c) : ∃ o, H a = some o ∧ (∀ xs, o ≠ .tup xs) ∧ ∀ b u, o ≠ .frz b u := by
  cases c with
  | lst l => obtain ⟨vs, h, _⟩ := r; exact ⟨_, h, fun _ z => (nomatch z), fun _ _ z => (nomatch z)⟩
  | dct l => obtain ⟨kvs, h, _⟩ := r; exact ⟨_, h, fun _ z => (nomatch z), fun _ _ z => (nomatch z)⟩
section
variable {K : PySem.W.Frag} {ι ι' : List Addr} {h h' : Hq} {H H' : Hp}
theorem HR.addr (r : HR K ι h H) {n : Nat} {c : Cell} (e : h[n]? = some c) : ∃ a, ι[n]? = some a ∧ CR K ι H a c := by
  have hn : n < ι.length := by rw [r.len]; exact (List.getElem?_eq_some_iff.mp e).1
  exact ⟨ι[n], List.getElem?_eq_getElem hn, r.cells n c _ e (List.getElem?_eq_getElem hn)⟩
theorem HR.mem (r : HR K ι h H) {a : Addr} (m : a ∈ ι) : ∃ o, H a = some o ∧ (∀ xs, o ≠ .tup xs) ∧ ∀ b u, o ≠ .frz b u := by
  obtain ⟨n, hn, rfl⟩ := List.getElem_of_mem m
  have hh : n < h.length := by rw [← r.len]; exact hn
  exact (r.cells n h[n] _ (List.getElem?_eq_getElem hh) (List.getElem?_eq_getElem hn)).tracked
theorem CR.ext (e : Ext ι H ι' H') {a : Addr} {c : Cell} (r : CR K ι H a c) (s : H' a = H a) : CR K ι' H' a c := by
  cases c with
  | lst l => obtain ⟨vs, q, t⟩ := r; exact ⟨vs, s.trans q, t.ext e⟩
  | dct l => obtain ⟨kvs, q, k, t⟩ := r; exact ⟨kvs, s.trans q, k, t.ext e⟩
/-- a new tuple -/
theorem HR.tup (r : HR K ι h H) {p : Addr} (np : H p = none) (vs : List V) : Ext ι H ι (upd H p (.tup vs)) ∧ HR K ι h (upd H p (.tup vs)) := by
  have ne : ∀ a o, H a = some o → a ≠ p := fun a o q => ne_of_none q np
  have e : Ext ι H ι (upd H p (.tup vs)) := ⟨⟨[], by simp, fun a z => (nomatch z)⟩, fun a xs q => by rw [upd_ne (ne a _ q)]; exact q, fun a o u q => by rw [upd_ne (ne a _ q)]; exact q,
    fun a o q _ => by rw [upd_ne (ne a _ q)]; exact q, fun a q => by
      by_cases hp : a = p
      · subst hp; exact absurd np q
      · rw [upd_ne hp]; exact q⟩
  refine ⟨e, r.len, r.nd, fun n c a h1 h2 => (r.cells n c a h1 h2).ext e ?_⟩
  obtain ⟨o, q, _⟩ := r.mem (List.mem_of_getElem? h2)
  rw [upd_ne (ne a o q)]
/-- a new cell -/
theorem HR.new (r : HR K ι h H) {p : Addr} (np : H p = none) {o : HO} {c : Cell} (hc : ∀ ι' H', Ext ι H ι' H' → H' p = some o → CR K ι' H' p c) :
    Ext ι H (ι ++ [p]) (upd H p o) ∧ HR K (ι ++ [p]) (h ++ [c]) (upd H p o) := by
  have ne : ∀ a u, H a = some u → a ≠ p := fun a u q => ne_of_none q np
  have e : Ext ι H (ι ++ [p]) (upd H p o) := ⟨⟨[p], rfl, fun a z => by rw [List.mem_singleton.mp z]; exact np⟩, fun a xs q => by rw [upd_ne (ne a _ q)]; exact q, fun a b u q => by rw [upd_ne (ne a _ q)]; exact q,
    fun a u q _ => by rw [upd_ne (ne a _ q)]; exact q, fun a q => by
      by_cases hp : a = p
      · subst hp; exact absurd np q
      · rw [upd_ne hp]; exact q⟩
  have hp : p ∉ ι := fun m => by
    obtain ⟨u, q, _⟩ := r.mem m
    rw [np] at q; cases q
  refine ⟨e, by simp [r.len], List.nodup_append.mpr ⟨r.nd, by simp, fun a ha b hb => by
    rw [List.mem_singleton.mp hb]; rintro rfl; exact hp ha⟩, fun n d a h1 h2 => ?_⟩
  by_cases hn : n < h.length
  · rw [List.getElem?_append_left hn] at h1
    rw [List.getElem?_append_left (by rw [r.len]; exact hn)] at h2
    refine (r.cells n d a h1 h2).ext e ?_
    obtain ⟨u, q, _⟩ := r.mem (List.mem_of_getElem? h2)
    rw [upd_ne (ne a u q)]
  · have hl : n = h.length := by
      have := (List.getElem?_eq_some_iff.mp h1).1
      simp at this; omega
    subst hl
    rw [List.getElem?_append_right (Nat.le_refl _)] at h1
    rw [List.getElem?_append_right (by rw [r.len]; exact Nat.le_refl _)] at h2
    have hz : h.length - ι.length = 0 := by rw [r.len]; omega
    rw [hz] at h2
    have e1 : c = d := by simpa using h1
    have e2 : p = a := by simpa using h2
    subst e1 e2
    exact hc _ _ e upd_same
/-- a cell written -/
theorem HR.put (r : HR K ι h H) {n : Nat} {a : Addr} {c0 : Cell} (h0 : h[n]? = some c0) (ha : ι[n]? = some a) {o : HO} {c : Cell} (hc : ∀ H', Ext ι H ι H' → H' a = some o → CR K ι H' a c) :
    Ext ι H ι (upd H a o) ∧ HR K ι (h.set n c) (upd H a o) := by
  obtain ⟨u0, q0, nt, nf⟩ := r.mem (List.mem_of_getElem? ha)
  have e : Ext ι H ι (upd H a o) := ⟨⟨[], by simp, fun b z => (nomatch z)⟩, fun b xs q => by
      rw [upd_ne (fun z => by subst z; rw [q0] at q; exact nt _ (Option.some.inj q))]; exact q, fun b y u q => by
      rw [upd_ne (fun z => by subst z; rw [q0] at q; exact nf _ _ (Option.some.inj q))]; exact q, fun b u q m => by
      rw [upd_ne (fun z => by subst z; exact m (List.mem_of_getElem? ha))]; exact q, fun b q => by
      by_cases hb : b = a
      · subst hb; rw [upd_same]; exact Option.some_ne_none _
      · rw [upd_ne hb]; exact q⟩
  refine ⟨e, by simp [r.len], r.nd, fun m d b h1 h2 => ?_⟩
  by_cases hm : m = n
  · subst hm
    rw [ha] at h2; cases h2
    rw [List.getElem?_set_self (List.getElem?_eq_some_iff.mp h0).1] at h1
    cases h1
    exact hc _ e upd_same
  · rw [List.getElem?_set_ne (Ne.symm hm)] at h1
    refine (r.cells m d b h1 h2).ext e ?_
    rw [upd_ne fun z => ?_]
    subst z
    exact hm (ixA r.nd h2 ha)
end
/-- slots -/
structure FR (K : PySem.W.Frag) (ι : List Addr) (H : Hp) (σ : L2.St) (fr : Fr) : Prop where
  len : σ.length = fr.length
  val : ∀ (i : Nat) (d : D), fr[i]? = some (some d) → ∃ v, σ[i]? = some (some v) ∧ VR K ι H v d
section
variable {K : PySem.W.Frag} {ι ι' : List Addr} {H H' : Hp} {σ : L2.St} {fr : Fr}
theorem FR.ext (e : Ext ι H ι' H') (r : FR K ι H σ fr) : FR K ι' H' σ fr := ⟨r.len, fun i d q => let ⟨v, a, b⟩ := r.val i d q; ⟨v, a, b.ext e⟩⟩
theorem FR.set (r : FR K ι H σ fr) {i : Nat} {v : V} {d : D} (q : VR K ι H v d) : FR K ι H (σ.set i (some v)) (fr.set i (some d)) := by
  refine ⟨by simp [r.len], fun j e h => ?_⟩
  by_cases hj : j = i
  · subst hj
    have hl : j < fr.length := by
      have := (List.getElem?_eq_some_iff.mp h).1
      simpa using this
    rw [List.getElem?_set_self hl] at h
    cases h
    exact ⟨v, List.getElem?_set_self (by rw [r.len]; exact hl), q⟩
  · rw [List.getElem?_set_ne (Ne.symm hj)] at h ⊢
    exact r.val j e h
theorem FR.wipe (r : FR K ι H σ fr) (i : Nat) : FR K ι H (σ.set i none) (fr.set i none) := by
  refine ⟨by simp [r.len], fun j e h => ?_⟩
  by_cases hj : j = i
  · subst hj
    have hl : j < fr.length := by
      have := (List.getElem?_eq_some_iff.mp h).1
      simpa using this
    rw [List.getElem?_set_self hl] at h
    cases h
  · rw [List.getElem?_set_ne (Ne.symm hj)] at h ⊢
    exact r.val j e h
end
/-- what lies of an exception -/
def XR (K : PySem.W.Frag) (mg : Str → Option Value) (ι : List Addr) (H : Hp) (x : Xn) (cls : Value) (d : Option Addr) : Prop :=
  ∃ C : Addr, mg x.cls = some (.ref C) ∧ cls = .ref C ∧ match x.val with
    | none => d = none
    | some (f, w) => ∃ a v, d = some a ∧ H a = some (.xd [(f, v)]) ∧ VR K ι H v w
/-- what is wanted of a worth: of each way that things may lie behind it -/
def Po (K : PySem.W.Frag) (mg : Str → Option Value) {α β : Type} (R : List Addr → Hp → β → α → Prop) (ι : List Addr) (H : Hp) (Q : β → Hp → Prop) (E : XK) : Rs α → Prop
  | .ok a h' => ∀ ι' H' v, Ext ι H ι' H' → HR K ι' h' H' → R ι' H' v a → Q v H'
  | .exc x h' => ∀ ι' H' cls d, Ext ι H ι' H' → HR K ι' h' H' → XR K mg ι' H' x cls d → E cls d H'
  | .no => False
abbrev PoV (K : PySem.W.Frag) (mg : Str → Option Value) (ι : List Addr) (H : Hp) (Q : VK) (E : XK) : Rs D → Prop := Po K mg (VR K) ι H Q E
abbrev PoB (K : PySem.W.Frag) (mg : Str → Option Value) (ι : List Addr) (H : Hp) (Q : Bool → Hp → Prop) (E : XK) : Rs Bool → Prop := Po K mg (fun _ _ (b c : Bool) => b = c) ι H Q E
abbrev PoA (K : PySem.W.Frag) (mg : Str → Option Value) (ι : List Addr) (H : Hp) (Q : List V → Hp → Prop) (E : XK) : Rs (List D) → Prop := Po K mg (VRs K) ι H Q E
section
variable {K : PySem.W.Frag} {mg : Str → Option Value} {ι ι' : List Addr} {H H' : Hp} {E : XK}
theorem Po.ext {α β : Type} {R : List Addr → Hp → β → α → Prop} {Q : β → Hp → Prop} (e : Ext ι H ι' H') : ∀ {r : Rs α}, Po K mg R ι H Q E r → Po K mg R ι' H' Q E r
  | .ok _ _, h => fun i2 H2 v e2 => h i2 H2 v (e.trans e2)
  | .exc _ _, h => fun i2 H2 c d e2 => h i2 H2 c d (e.trans e2)
  | .no, h => h
/-- the first of two: what it is worth, and behind it what is wanted of the rest -/
theorem Po.bind {α β γ δ : Type} {R : List Addr → Hp → β → α → Prop} {S : List Addr → Hp → δ → γ → Prop} {Q : δ → Hp → Prop} {f : α → Hq → Rs γ} : ∀ {r : Rs α}, Po K mg S ι H Q E (r.bind f) →
    Po K mg R ι H (fun v H1 => ∃ ι1 h1 a, Ext ι H ι1 H1 ∧ HR K ι1 h1 H1 ∧ R ι1 H1 v a ∧ Po K mg S ι1 H1 Q E (f a h1)) E r
  | .ok a h1, h => fun i1 H1 v e1 r1 q => ⟨i1, h1, a, e1, r1, q, Po.ext e1 h⟩
  | .exc _ _, h => h
  | .no, h => h
end
end MI
end

section
set_option Elab.async false
set_option linter.all false
set_option autoImplicit false
set_option maxRecDepth 100000
set_option maxHeartbeats 4000000
namespace MI
open PySem L2

theorem line_eq : (sizeLine : Nat) = 16777216 := PySem.sizeLine_eq

/-! ### the judgements -/
section
variable {K : PySem.W.Frag} {mg : Str → Option Value} {ι ι' : List Addr} {H H' : Hp} {E : XK}
theorem Po.mono {α β : Type} {R : List Addr → Hp → β → α → Prop} {Q Q' : β → Hp → Prop} (m : ∀ v H1, Q v H1 → Q' v H1) : ∀ {r : Rs α}, Po K mg R ι H Q E r → Po K mg R ι H Q' E r
  | .ok _ _, h => fun i1 H1 v e1 r1 q => m _ _ (h i1 H1 v e1 r1 q)
  | .exc _ _, h => h
  | .no, h => h
end
/-- where one stands -/
def tM (K : PySem.W.Frag) (mg : Str → Option Value) (E : XK) (f : Sx) : TE := fun σ H Q => ∃ ι h fr, HR K ι h H ∧ FR K ι H σ fr ∧ PoV K mg ι H Q E (f fr h)
def tMb (K : PySem.W.Frag) (mg : Str → Option Value) (E : XK) (f : Sb) : TT := fun σ H Q => ∃ ι h fr, HR K ι h H ∧ FR K ι H σ fr ∧ PoB K mg ι H Q E (f fr h)
def tMa (K : PySem.W.Frag) (mg : Str → Option Value) (E : XK) (f : Sa) : TA := fun σ H Q => ∃ ι h fr, HR K ι h H ∧ FR K ι H σ fr ∧ PoA K mg ι H Q E (f fr h)
abbrev PM (X : Cx) (E : XK) (e : Expr) (f : Sx) : Prop := PE X e (tM X.K X.mg E f)
abbrev PMb (X : Cx) (E : XK) (e : Expr) (f : Sb) : Prop := PT X e (tMb X.K X.mg E f)
abbrev PMw (X : Cx) (E : XK) (e : Expr) (f : Sb) : Prop := PW X e (tMb X.K X.mg E f)
abbrev PMa (X : Cx) (E : XK) (es : List Expr) (f : Sa) : Prop := PA X es (tMa X.K X.mg E f)

section
variable {X : Cx} {e : Expr} {es : List Expr}
theorem pe_imp {t t' : TE} (h : PE X e t) (m : ∀ σ H Q, t' σ H Q → t σ H Q) : PE X e t' := ⟨fun pins s σ H Q I q => h.run pins s σ H Q I (m σ H Q q)⟩
theorem pt_imp {t t' : TT} (h : PT X e t) (m : ∀ σ H Q, t' σ H Q → t σ H Q) : PT X e t' := ⟨fun pins s σ H Q I q => h.run pins s σ H Q I (m σ H Q q)⟩
theorem pw_imp {t t' : TT} (h : PW X e t) (m : ∀ σ H Q, t' σ H Q → t σ H Q) : PW X e t' := ⟨fun wh pins s σ H Q I q => h.run wh pins s σ H Q I (m σ H Q q)⟩
theorem pa_imp {t t' : TA} (h : PA X es t) (m : ∀ σ H Q, t' σ H Q → t σ H Q) : PA X es t' := ⟨fun pos pins s σ H Q I q => h.run pos pins s σ H Q I (m σ H Q q)⟩
end

/-! ### values -/
def eK (d : D) : Sx := fun _ h => .ok d h
def eV (i : Nat) : Sx := fun fr h => match fr[i]? with
  | some (some d) => .ok d h
  | _ => .no
section
variable {X : Cx} {E : XK}
theorem m_int {i : Int} {j : Nat} {pos : Pos} : PM X E (.Constant (.int i) j pos) (eK (.int i)) := pe_imp pe_int fun σ H Q ⟨ι, h, fr, R, F, P⟩ => P ι H _ (Ext.refl _ _) R (.int i)
theorem m_bl {b : Bool} {j : Nat} {pos : Pos} : PM X E (.Constant (.bool b) j pos) (eK (.bl b)) := pe_imp pe_bl fun σ H Q ⟨ι, h, fr, R, F, P⟩ => P ι H _ (Ext.refl _ _) R (.bl b)
theorem m_non {j : Nat} {pos : Pos} : PM X E (.Constant .none j pos) (eK .non) := pe_imp pe_non fun σ H Q ⟨ι, h, fr, R, F, P⟩ => P ι H _ (Ext.refl _ _) R .non
theorem m_str {x : Str} {j : Nat} {pos : Pos} : PM X E (.Constant (.str x) j pos) (eK (.str x)) := pe_imp pe_str fun σ H Q ⟨ι, h, fr, R, F, P⟩ => P ι H _ (Ext.refl _ _) R (.str x)
theorem m_var (i : Nat) {x : Str} {pos : Pos} (hN : X.N[i]? = some x := by rfl) (hv : Vis X.env.scope x := by first | exact Or.inl rfl | exact Or.inr (Or.inl rfl) | exact Or.inr (Or.inr rfl)) (hd : (x == ("__debug__" : Str)) = false := by decide)
    (hcd : (x == ("__classdict__" : Str)) = false := by decide) : PM X E (.Name x pos) (eV i) := pe_imp (pe_var hN hv hd hcd) fun σ H Q ⟨ι, h, fr, R, F, P⟩ => by
  unfold eV at P
  split at P
  · rename_i d q
    obtain ⟨v, e, r⟩ := F.val i d q
    exact ⟨v, e, P ι H v (Ext.refl _ _) R r⟩
  · exact P.elim
/-- a module's number -/
theorem m_glob {x : Str} {i : Int} {t : Tok} {pos : Pos} (hm : X.mg x = some (.int i t)) (hg : Gl X x := by rfl) (hd : (x == ("__debug__" : Str)) = false := by decide) : PM X E (.Name x pos) (eK (.int i)) :=
  pe_imp (pe_glob (v := V.int i) hg hm ⟨t, rfl⟩ hd) fun σ H Q ⟨ι, h, fr, R, F, P⟩ => P ι H _ (Ext.refl _ _) R (.int i)
end

/-! ### two-place operations -/
def eOp (g : D → D → Hq → Rs D) (a b : Sx) : Sx := fun fr h => (a fr h).bind fun x h1 => (b fr h1).bind fun y h2 => g x y h2
def OpS (K : PySem.W.Frag) (mg : Str → Option Value) (E : XK) (g : D → D → Hq → Rs D) (r : R2) : Prop :=
  ∀ (ι : List Addr) (h : Hq) (H : Hp) (x y : D) (v w : V) (Q : VK), HR K ι h H → VR K ι H v x → VR K ι H w y → PoV K mg ι H Q E (g x y h) → r v w H Q
theorem op_in {K : PySem.W.Frag} {mg : Str → Option Value} {E : XK} {g : D → D → Hq → Rs D} {r : R2} (hs : OpS K mg E g r) {fa fb : Sx} {σ : L2.St} {H : Hp} {Q : VK} (q : tM K mg E (eOp g fa fb) σ H Q) :
    tOp r (tM K mg E fa) (tM K mg E fb) σ H Q := by
  obtain ⟨ι, h, fr, R, F, P⟩ := q
  refine ⟨ι, h, fr, R, F, Po.mono ?_ (Po.bind P)⟩
  rintro v H1 ⟨ι1, h1, x, e1, R1, r1, P1⟩
  refine ⟨ι1, h1, fr, R1, F.ext e1, Po.mono ?_ (Po.bind P1)⟩
  rintro w H2 ⟨ι2, h2, y, e2, R2, r2, P2⟩
  exact hs ι2 h2 H2 x y v w Q R2 (r1.ext e2) r2 P2
section
variable {X : Cx} {E : XK} {a b : Expr} {fa fb : Sx} {pos : Pos}
theorem m_bin {op : Operator} {g : D → D → Hq → Rs D} {r : R2} (ho : OpR X (binaryOp op) r) (hs : OpS X.K X.mg E g r) (ha : PM X E a fa) (hb : PM X E b fb) : PM X E (.BinOp a op b pos) (eOp g fa fb) :=
  pe_imp (pe_op ho ha hb) fun _ _ _ q => op_in hs q
theorem m_cmpV {op : CmpOp} {g : D → D → Hq → Rs D} {r : R2} (ho : OpR X (compareOp op) r) (hs : OpS X.K X.mg E g r) (ha : PM X E a fa) (hb : PM X E b fb) (hm : behindInMarks op b = false := by first | rfl | decide) :
    PM X E (.Compare a [op] [b] pos) (eOp g fa fb) := pe_imp (pe_cmpR ho ha hb hm) fun _ _ _ q => op_in hs q
end
/-- a worth that is a truth -/
def isB (r : Rs D) : Rs Bool := r.bind fun x h => match x with
  | .bl b => .ok b h
  | _ => .no
def bOf (f : Sx) : Sb := fun fr h => isB (f fr h)
theorem test_in {K : PySem.W.Frag} {mg : Str → Option Value} {E : XK} {f : Sx} {σ : L2.St} {H : Hp} {Q : Bool → Hp → Prop} (q : tMb K mg E (bOf f) σ H Q) :
    tM K mg E f σ H fun x H1 => ∃ c, x = .bl c ∧ Q c H1 := by
  obtain ⟨ι, h, fr, R, F, P⟩ := q
  refine ⟨ι, h, fr, R, F, Po.mono ?_ (Po.bind P)⟩
  rintro v H1 ⟨ι1, h1, x, e1, R1, r1, P1⟩
  cases x with
  | bl b =>
    cases r1
    exact ⟨b, rfl, P1 ι1 H1 b (Ext.refl _ _) R1 rfl⟩
  | _ => exact P1.elim
section
variable {X : Cx} {E : XK} {a b c : Expr} {fa fb : Sx} {pos : Pos}
theorem m_cmp {op : CmpOp} {g : D → D → Hq → Rs D} {r : R2} (ho : OpR X (compareOp op) r) (hs : OpS X.K X.mg E g r) (ha : PM X E a fa) (hb : PM X E b fb) (hm : behindInMarks op b = false := by first | rfl | decide) :
    PMb X E (.Compare a [op] [b] pos) (bOf (eOp g fa fb)) := pt_imp (pt_cmpR ho ha hb hm) fun σ H Q q => op_in hs (test_in q)
/-- an expression whose worth is a truth, as a test -/
theorem m_test (ha : PM X E a fa) (he : ∀ whole, isTrue a X.env whole = (do let v ← whole; standAt a.pos; holding [v] (truthy v)) := by intro _; rfl) : PMb X E a (bOf fa) :=
  pt_imp (pt_val ha he) fun σ H Q q => test_in q
/-- a test as a worth -/
def eB (f : Sb) : Sx := fun fr h => (f fr h).bind fun b h1 => .ok (.bl b) h1
end

/-! ### and, or, not -/
def bAnd (f g : Sb) : Sb := fun fr h => (f fr h).bind fun c h1 => if c = true then g fr h1 else .ok false h1
def bOr (f g : Sb) : Sb := fun fr h => (f fr h).bind fun c h1 => if c = true then .ok true h1 else g fr h1
def bNot (f : Sb) : Sb := fun fr h => (f fr h).bind fun c h1 => .ok (!c) h1
section
variable {X : Cx} {E : XK} {a b : Expr} {fa fb : Sb} {rest : List Expr} {pos : Pos}
theorem m_and1 (ha : PMb X E a fa) : PMw X E (.BoolOp .And [a] pos) fa := pw_and1 ha
theorem m_or1 (ha : PMb X E a fa) : PMw X E (.BoolOp .Or [a] pos) fa := pw_or1 ha
theorem m_and (ha : PMb X E a fa) (hb : PMw X E (.BoolOp .And (b :: rest) pos) fb) : PMw X E (.BoolOp .And (a :: b :: rest) pos) (bAnd fa fb) := pw_imp (pw_and ha hb) fun σ H Q ⟨ι, h, fr, R, F, P⟩ => by
  refine ⟨ι, h, fr, R, F, Po.mono ?_ (Po.bind P)⟩
  rintro c H1 ⟨ι1, h1, d, e1, R1, r1, P1⟩
  subst r1
  cases c with
  | true => exact ⟨ι1, h1, fr, R1, F.ext e1, P1⟩
  | false => exact P1 ι1 H1 false (Ext.refl _ _) R1 rfl
theorem m_or (ha : PMb X E a fa) (hb : PMw X E (.BoolOp .Or (b :: rest) pos) fb) : PMw X E (.BoolOp .Or (a :: b :: rest) pos) (bOr fa fb) := pw_imp (pw_or ha hb) fun σ H Q ⟨ι, h, fr, R, F, P⟩ => by
  refine ⟨ι, h, fr, R, F, Po.mono ?_ (Po.bind P)⟩
  rintro c H1 ⟨ι1, h1, d, e1, R1, r1, P1⟩
  subst r1
  cases c with
  | false => exact ⟨ι1, h1, fr, R1, F.ext e1, P1⟩
  | true => exact P1 ι1 H1 true (Ext.refl _ _) R1 rfl
theorem m_w (h : PMw X E a fa) : PMb X E a fa := h.pt
theorem m_not (ha : PMb X E a fa) : PMb X E (.UnaryOp .Not a pos) (bNot fa) := pt_imp (pt_not ha) fun σ H Q ⟨ι, h, fr, R, F, P⟩ => by
  refine ⟨ι, h, fr, R, F, Po.mono ?_ (Po.bind P)⟩
  rintro c H1 ⟨ι1, h1, d, e1, R1, r1, P1⟩
  subst r1
  exact P1 ι1 H1 _ (Ext.refl _ _) R1 rfl
end
/-- .. as values -/
def eAnd (f g : Sx) : Sx := fun fr h => (isB (f fr h)).bind fun c h1 => if c = true then g fr h1 else .ok (.bl false) h1
def eOr (f g : Sx) : Sx := fun fr h => (isB (f fr h)).bind fun c h1 => if c = true then .ok (.bl true) h1 else g fr h1
def eNot (f : Sx) : Sx := fun fr h => (isB (f fr h)).bind fun c h1 => .ok (.bl (!c)) h1
theorem isB_in {K : PySem.W.Frag} {mg : Str → Option Value} {ι : List Addr} {H : Hp} {E : XK} {δ γ : Type} {S : List Addr → Hp → δ → γ → Prop} {Q : δ → Hp → Prop} {k : Bool → Hq → Rs γ} {r : Rs D} (P : Po K mg S ι H Q E ((isB r).bind k)) :
    PoV K mg ι H (fun v H1 => ∃ c, v = .bl c ∧ ∃ ι1 h1, Ext ι H ι1 H1 ∧ HR K ι1 h1 H1 ∧ Po K mg S ι1 H1 Q E (k c h1)) E r := by
  have P' : Po K mg S ι H Q E (r.bind fun x h => (match x with | .bl b => (.ok b h : Rs Bool) | _ => .no).bind k) := by
    cases r with
    | ok a h => exact P
    | exc x h => exact P
    | no => exact P
  refine Po.mono ?_ (Po.bind P')
  rintro v H1 ⟨ι1, h1, d, e1, R1, r1, P1⟩
  cases d with
  | bl b => cases r1; exact ⟨b, rfl, ι1, h1, e1, R1, P1⟩
  | _ => exact P1.elim
section
variable {X : Cx} {E : XK} {a b : Expr} {fa fb : Sx} {rest : List Expr} {pos : Pos}
theorem m_one {op : BoolOp} (ha : PM X E a fa) : PM X E (.BoolOp op [a] pos) fa := pe_one ha
theorem m_andV (ha : PM X E a fa) (hb : PM X E (.BoolOp .And (b :: rest) pos) fb) : PM X E (.BoolOp .And (a :: b :: rest) pos) (eAnd fa fb) := pe_imp (pe_and ha hb) fun σ H Q ⟨ι, h, fr, R, F, P⟩ => by
  refine ⟨ι, h, fr, R, F, Po.mono ?_ (isB_in P)⟩
  rintro v H1 ⟨c, rfl, ι1, h1, e1, R1, P1⟩
  refine ⟨c, rfl, ?_⟩
  cases c with
  | true => exact ⟨ι1, h1, fr, R1, F.ext e1, P1⟩
  | false => exact P1 ι1 H1 _ (Ext.refl _ _) R1 (.bl false)
theorem m_orV (ha : PM X E a fa) (hb : PM X E (.BoolOp .Or (b :: rest) pos) fb) : PM X E (.BoolOp .Or (a :: b :: rest) pos) (eOr fa fb) := pe_imp (pe_or ha hb) fun σ H Q ⟨ι, h, fr, R, F, P⟩ => by
  refine ⟨ι, h, fr, R, F, Po.mono ?_ (isB_in P)⟩
  rintro v H1 ⟨c, rfl, ι1, h1, e1, R1, P1⟩
  refine ⟨c, rfl, ?_⟩
  cases c with
  | true => exact P1 ι1 H1 _ (Ext.refl _ _) R1 (.bl true)
  | false => exact ⟨ι1, h1, fr, R1, F.ext e1, P1⟩
theorem m_notV (ha : PM X E a fa) : PM X E (.UnaryOp .Not a pos) (eNot fa) := pe_imp (pe_not ha) fun σ H Q ⟨ι, h, fr, R, F, P⟩ => by
  refine ⟨ι, h, fr, R, F, Po.mono ?_ (isB_in P)⟩
  rintro v H1 ⟨c, rfl, ι1, h1, e1, R1, P1⟩
  exact ⟨c, rfl, P1 ι1 H1 _ (Ext.refl _ _) R1 (.bl _)⟩
def eIf (t : Sb) (f g : Sx) : Sx := fun fr h => (t fr h).bind fun c h1 => if c = true then f fr h1 else g fr h1
theorem m_if {c : Expr} {fc : Sb} (hc : PMb X E c fc) (ha : PM X E a fa) (hb : PM X E b fb) : PM X E (.IfExp c a b pos) (eIf fc fa fb) := pe_imp (pe_ifExp hc ha hb) fun σ H Q ⟨ι, h, fr, R, F, P⟩ => by
  refine ⟨ι, h, fr, R, F, Po.mono ?_ (Po.bind P)⟩
  rintro c H1 ⟨ι1, h1, d, e1, R1, r1, P1⟩
  subst r1
  cases c with
  | true => rw [if_pos rfl]; exact ⟨ι1, h1, fr, R1, F.ext e1, P1⟩
  | false => rw [if_neg Bool.false_ne_true]; exact ⟨ι1, h1, fr, R1, F.ext e1, P1⟩
end

/-! ### arguments, displays -/
def aNil : Sa := fun _ h => .ok [] h
def aCons (f : Sx) (g : Sa) : Sa := fun fr h => (f fr h).bind fun x h1 => (g fr h1).bind fun xs h2 => .ok (x :: xs) h2
section
variable {X : Cx} {E : XK} {a : Expr} {as : List Expr} {fa : Sx} {fs : Sa} {pos : Pos}
theorem m_nil : PMa X E [] aNil := pa_imp pa_nil fun σ H Q ⟨ι, h, fr, R, F, P⟩ => P ι H [] (Ext.refl _ _) R .nil
theorem m_cons (ha : PM X E a fa) (hr : PMa X E as fs) (hs : starEach (a :: as) X.env = (false, eval a X.env) :: starEach as X.env := by rfl) : PMa X E (a :: as) (aCons fa fs) := pa_imp (pa_cons ha hr hs) fun σ H Q ⟨ι, h, fr, R, F, P⟩ => by
  refine ⟨ι, h, fr, R, F, Po.mono ?_ (Po.bind P)⟩
  rintro v H1 ⟨ι1, h1, x, e1, R1, r1, P1⟩
  refine ⟨ι1, h1, fr, R1, F.ext e1, Po.mono ?_ (Po.bind P1)⟩
  rintro vs H2 ⟨ι2, h2, xs, e2, R2, r2, P2⟩
  exact P2 ι2 H2 _ (Ext.refl _ _) R2 (.cons (r1.ext e2) r2)
def small (n : Nat) : Bool := decide (n ≤ 16777216)
def eTup (f : Sa) : Sx := fun fr h => (f fr h).bind fun xs h1 => if small xs.length = true then .ok (.tup xs) h1 else .no
def eLst (f : Sa) : Sx := fun fr h => (f fr h).bind fun xs h1 => if small xs.length = true then .ok (.ref h1.length) (h1 ++ [.lst xs]) else .no
theorem small_le {n : Nat} (h : small n = true) : n ≤ sizeLine := by rw [line_eq]; exact of_decide_eq_true h
theorem m_tup {k : Nat} (h : PMa X E as fs) : PM X E (.Tuple as k pos) (eTup fs) := pe_imp (pe_tup h) fun σ H Q ⟨ι, h, fr, R, F, P⟩ => by
  refine ⟨ι, h, fr, R, F, Po.mono ?_ (Po.bind P)⟩
  rintro vs H1 ⟨ι1, h1, xs, e1, R1, r1, P1⟩
  split at P1
  · rename_i hz
    refine ⟨by rw [r1.length]; exact small_le hz, fun p np => ?_⟩
    obtain ⟨e2, R2⟩ := R1.tup np vs
    exact P1 ι1 _ _ e2 R2 (.tup upd_same (r1.ext e2))
  · exact P1.elim
theorem ref_new {ι : List Addr} {h : Hq} {H : Hp} {K : PySem.W.Frag} (R : HR K ι h H) (p : Addr) : (ι ++ [p])[h.length]? = some p := by
  rw [← R.len, List.getElem?_append_right (Nat.le_refl _), Nat.sub_self]; rfl
theorem m_lst (h : PMa X E as fs) : PM X E (.List as pos) (eLst fs) := pe_imp (pe_lst h) fun σ H Q ⟨ι, h, fr, R, F, P⟩ => by
  refine ⟨ι, h, fr, R, F, Po.mono ?_ (Po.bind P)⟩
  rintro vs H1 ⟨ι1, h1, xs, e1, R1, r1, P1⟩
  split at P1
  · rename_i hz
    refine ⟨by rw [r1.length]; exact small_le hz, fun p np => ?_⟩
    obtain ⟨e2, R2⟩ := R1.new np (o := .lst vs) (c := .lst xs) fun ι' H' e q => ⟨vs, q, r1.ext e⟩
    exact P1 _ _ _ e2 R2 (.ref (ref_new R1 p))
  · exact P1.elim
/-- {} -/
def eDct0 : Sx := fun _ h => .ok (.ref h.length) (h ++ [.dct []])
theorem m_dct0 : PM X E (.Dict [] [] pos) eDct0 := pe_imp pe_dnewK fun σ H Q ⟨ι, h, fr, R, F, P⟩ p np => by
  obtain ⟨e2, R2⟩ := R.new np (o := .dK []) (c := .dct []) fun ι' H' e q => ⟨[], q, rfl, .nil⟩
  exact P _ _ _ e2 R2 (.ref (ref_new R p))
end
end MI
end

section
set_option Elab.async false
set_option linter.all false
set_option maxRecDepth 100000
set_option maxHeartbeats 4000000
/-! a dict is no text: == tells False -/
namespace PySem.MiDs
open PySem PySem.Spec PyProof.Rows PySem.SeqAt
theorem no1 (z : Str) (u : Tok) (l : Addr) (dt : Array DictEntry) (n : Nat) (dd : Option Addr) (sl : Array (Option Value)) :
    Meets (Builtin.«dict.__eq__» ⟨[.ref l, .str z u], []⟩) (fun _ R s => s.heap.get? l = some ⟨.type "dict", dd, .dict dt n, sl⟩ ∧ R (.ok (.ret .notImplemented)) s) := by
  refine .of_wp fun prog w A R s q => ?_
  obtain ⟨hp, g, d, tk, os⟩ := s
  obtain ⟨hl, q2⟩ := q
  have f1 := F.sub_str_dict
  wp_walk using wpAny_loadPart' hl
  exact ⟨_, rfl, q2⟩
theorem no2 (z : Str) (u : Tok) (l : Addr) (c : Value) (dt : Array DictEntry) (n : Nat) (dd : Option Addr) (sl : Array (Option Value)) :
    Meets (Builtin.«str.__eq__» ⟨[.str z u, .ref l], []⟩) (fun _ R s => s.heap.get? l = some ⟨c, dd, .dict dt n, sl⟩ ∧ R (.ok (.ret .notImplemented)) s) := by
  refine .of_wp fun prog w A R s q => ?_
  obtain ⟨hp, g, d, tk, os⟩ := s
  obtain ⟨hl, q2⟩ := q
  wp_walk using wpAny_loadPart' hl, wpAny_load hl
  exact ⟨_, rfl, q2⟩
theorem eqDS {prog : Program} {w : World} {A : Around} {E : Value → Shared → Prop} {s : Shared} {l : Addr} {o : Obj} {dt : Array DictEntry} {n : Nat} {z : Str} {u : Tok} {Q : Value → Shared → Prop} (ho : s.heap.get? l = some o) (hc : o.cls = .type "dict") (hd : o.data = .dict dt n) (hu : A.units < cLine)
    (q : Q (.bool false) s) : wpAny (model prog w) A (compareOp .Eq (.ref l) (.str z u)) Q E s := by
  obtain ⟨c, dd, dat, sl⟩ := o
  dsimp only at hc hd
  subst hc hd
  show wpAny (model prog w) A (richCompare .Eq (.ref l) (.str z u)) Q E s
  refine rc_eq_decline_or (k := false) ⟨_, ho, rfl⟩ (typeIs_str s z u) (by decide) F.sub_str_dict F.slot_dict_eq F.slot_str_eq_refl (fun Q' q' => ?_) (fun Q' q' => ?_) (fun Q' q' => ?_) (.inr hu) q
  · exact call_meets F.slot_dict_eq ⟨_, ho, rfl⟩ F.entry_dict_eq (F.args_dict_eq_2 _ _) (no1 z u l dt n dd sl) ⟨ho, q'⟩
  · exact call_meets F.slot_str_eq_refl (typeIs_str s z u) F.entry_str_eq (F.args_str_eq_2 _ _) (no2 z u l (.type "dict") dt n dd sl) ⟨ho, q'⟩
  · exact wpAny_of_eq (rfl : isSame (.ref l) (.str z u) = pure false) q'
end PySem.MiDs
namespace L2
open PySem PySem.Spec PyProof.Rows
def rEqDS : R2 := fun x y H Q => ∃ (a : Addr) (kvs : List (L2.Key × V)) (z : Str), x = .ref a ∧ y = .str z ∧ H a = some (.dK kvs) ∧ Q (.bl false) H
theorem op_eqDS {X : Cx} (hu : X.A.units + 64 < cLine) : OpR X (compareOp .Eq) rEqDS := by
  intro pins s σ H x y v u Q I rx ry h
  obtain ⟨a, kvs, z, rfl, rfl, hx, q⟩ := h
  cases rx
  obtain ⟨t, rfl⟩ := ry
  obtain ⟨_, _, vs, _, hd⟩ : kvs.length ≤ sizeLine ∧ (a == sysModules) = false ∧ ∃ vs, KV kvs vs ∧ s.heap.DictOf (mixKind X.prog X.w) a vs := I.hok a _ hx
  obtain ⟨o, es, ep, g1, g2, g3, _⟩ := hd
  exact PySem.MiDs.eqDS g1 g2.1 g3 (by omega) ⟨.bl false, H, I, rfl, q⟩
end L2
end

section
set_option Elab.async false
set_option linter.all false
set_option autoImplicit false
set_option maxRecDepth 100000
set_option maxHeartbeats 4000000
namespace MI
open PySem L2

def lstAt (h : Hq) (n : Nat) : Option (List D) := match h[n]? with
  | some (.lst l) => some l
  | _ => none
theorem lstAt_some {h : Hq} {n : Nat} {l : List D} (e : lstAt h n = some l) : h[n]? = some (.lst l) := by
  unfold lstAt at e
  split at e
  · rename_i l' q; cases e; exact q
  · cases e
theorem HR.lst {K : PySem.W.Frag} {ι : List Addr} {h : Hq} {H : Hp} (R : HR K ι h H) {n : Nat} {a : Addr} {l : List D} (ha : ι[n]? = some a) (e : lstAt h n = some l) : ∃ vs, H a = some (.lst vs) ∧ VRs K ι H vs l :=
  R.cells n _ a (lstAt_some e) ha
def ltI (a b : Nat) : Bool := decide (a < b)

/-! ### + - * // % ** -/
def dAdd (x y : D) (h : Hq) : Rs D := match x, y with
  | .int i, .int j => .ok (.int (i + j)) h
  | .str a, .str b => if small (a.length + b.length) = true then .ok (.str (a ++ b)) h else .no
  | .tup a, .tup b => if small (a.length + b.length) = true then .ok (.tup (a ++ b)) h else .no
  | .ref m, .ref n => match lstAt h m, lstAt h n with
    | some a, some b => if small (a.length + b.length) = true then .ok (.ref h.length) (h ++ [.lst (a ++ b)]) else .no
    | _, _ => .no
  | _, _ => .no
def rAddA (K : PySem.W.Frag) : R2 := fun x y H Q => (∃ i j, x = .int i ∧ y = .int j ∧ Q (.int (i + j)) H) ∨ ((∃ i j, x = .str i ∧ y = .str j ∧ i.length + j.length ≤ sizeLine ∧ Q (.str (i ++ j)) H) ∨ (rCatA K x y H Q ∨ rCat x y H Q))
theorem nil_of {K : PySem.W.Frag} {ι : List Addr} {H : Hp} {vs : List V} {l : List D} (r : VRs K ι H vs l) : vs = [] ↔ l = [] := by
  cases r <;> simp
section
variable {K : PySem.W.Frag} {mg : Str → Option Value} {E : XK}
theorem s_add : OpS K mg E dAdd (rAddA K) := by
  intro ι h H x y v w Q R rx ry P
  unfold dAdd at P
  split at P
  · cases rx; cases ry
    exact .inl ⟨_, _, rfl, rfl, P ι H _ (Ext.refl _ _) R (.int _)⟩
  · split at P
    · rename_i a b hz
      cases rx; cases ry
      exact .inr (.inl ⟨_, _, rfl, rfl, small_le hz, P ι H _ (Ext.refl _ _) R (.str _)⟩)
    · exact P.elim
  · rename_i l m
    split at P
    · rename_i hz
      cases rx with
      | tup hx qx =>
        cases ry with
        | tup hy qy =>
          rename_i a vs b ws
          refine .inr (.inr (.inl ⟨a, b, vs, ws, rfl, rfl, .of hx, .of hy, ?_, fun e => ?_, fun _ e => ?_, fun _ _ p np => ?_⟩))
          · rw [qx.length, qy.length]; exact small_le hz
          · have : l = [] := (nil_of qx).mp e
            subst this
            exact P ι H _ (Ext.refl _ _) R (.tup hy qy)
          · have : m = [] := (nil_of qy).mp e
            subst this
            rw [List.append_nil] at P
            exact P ι H _ (Ext.refl _ _) R (.tup hx qx)
          · obtain ⟨e2, R2⟩ := R.tup np (vs ++ ws)
            exact P ι _ _ e2 R2 (.tup upd_same ((qx.append qy).ext e2))
    · exact P.elim
  · split at P
    · rename_i m n l1 l2 e1 e2
      split at P
      · rename_i hz
        cases rx with
        | ref hx =>
          cases ry with
          | ref hy =>
            rename_i a b
            obtain ⟨vs, c1, q1⟩ := R.lst hx e1
            obtain ⟨ws, c2, q2⟩ := R.lst hy e2
            refine .inr (.inr (.inr ⟨a, b, vs, ws, rfl, rfl, c1, c2, ?_, fun p np => ?_⟩))
            · rw [q1.length, q2.length]; exact small_le hz
            · obtain ⟨e3, R3⟩ := R.new np (o := .lst (vs ++ ws)) (c := .lst (l1 ++ l2)) fun ι' H' e q => ⟨_, q, (q1.append q2).ext e⟩
              exact P _ _ _ e3 R3 (.ref (ref_new R p))
      · exact P.elim
    · exact P.elim
  · exact P.elim
theorem o_add {X : Cx} : OpR X (binaryOp .Add) (rAddA X.K) := op_add.or (op_add_str.or (op_catA.or op_cat))
def dSub (x y : D) (h : Hq) : Rs D := match x, y with
  | .int i, .int j => .ok (.int (i - j)) h
  | _, _ => .no
theorem s_sub : OpS K mg E dSub (rI0 fun i j => .int (i - j)) := by
  intro ι h H x y v w Q R rx ry P
  unfold dSub at P
  split at P
  · cases rx; cases ry
    exact ⟨_, _, rfl, rfl, P ι H _ (Ext.refl _ _) R (.int _)⟩
  · exact P.elim
def mulOk (i j : Int) : Bool := decide (i.natAbs.log2 + j.natAbs.log2 < 1000000)
def dMul (x y : D) (h : Hq) : Rs D := match x, y with
  | .int i, .int j => if mulOk i j = true then .ok (.int (i * j)) h else .no
  | .ref m, .int k => match lstAt h m with
    | some l => if 0 ≤ k ∧ k < 1000000 ∧ small (l.length * k.toNat) = true then .ok (.ref h.length) (h ++ [.lst (List.replicate k.toNat l).flatten]) else .no
    | none => .no
  | _, _ => .no
theorem VRs.rep {ι : List Addr} {H : Hp} {vs : List V} {l : List D} (r : VRs K ι H vs l) : ∀ n : Nat, VRs K ι H (List.replicate n vs).flatten (List.replicate n l).flatten
  | 0 => by simp only [List.replicate_zero, List.flatten_nil]; exact .nil
  | n + 1 => by simp only [List.replicate_succ, List.flatten_cons]; exact r.append (VRs.rep r n)
theorem s_mul : OpS K mg E dMul (fun x y H Q => rI CMulW (fun i j => .int (i * j)) x y H Q ∨ rRep x y H Q) := by
  intro ι h H x y v w Q R rx ry P
  unfold dMul at P
  split at P
  · split at P
    · rename_i i j hz
      cases rx; cases ry
      have hz' : CMulW i j := by unfold CMulW; exact of_decide_eq_true hz
      exact .inl ⟨_, _, rfl, rfl, hz', P ι H _ (Ext.refl _ _) R (.int _)⟩
    · exact P.elim
  · split at P
    · rename_i m k _ l e1
      split at P
      · rename_i hz
        cases rx with
        | ref hx =>
          cases ry
          rename_i a
          obtain ⟨vs, c1, q1⟩ := R.lst hx e1
          refine .inr ⟨a, k, vs, rfl, rfl, c1, by omega, by omega, ?_, fun p np => ?_⟩
          · rw [q1.length]; exact small_le hz.2.2
          · obtain ⟨e3, R3⟩ := R.new np (o := .lst (List.replicate k.toNat vs).flatten) (c := .lst (List.replicate k.toNat l).flatten) fun ι' H' e q => ⟨_, q, (q1.rep _).ext e⟩
            exact P _ _ _ e3 R3 (.ref (ref_new R p))
      · exact P.elim
    · exact P.elim
  · exact P.elim
theorem o_mul {X : Cx} : OpR X (binaryOp .Mult) (fun x y H Q => rI CMulW (fun i j => .int (i * j)) x y H Q ∨ rRep x y H Q) := op_mulW.or op_rep
def divOk (j : Int) : Bool := decide (0 < j) && decide (j.natAbs.log2 < 9000)
def dDiv (x y : D) (h : Hq) : Rs D := match x, y with
  | .int i, .int j => if divOk j = true then .ok (.int (i / j)) h else .no
  | _, _ => .no
theorem s_div : OpS K mg E dDiv (rI CDivW fun i j => .int (i / j)) := by
  intro ι h H x y v w Q R rx ry P
  unfold dDiv at P
  split at P
  · split at P
    · rename_i hz
      cases rx; cases ry
      have hz' := Bool.and_eq_true_iff.mp hz
      exact ⟨_, _, rfl, rfl, ⟨of_decide_eq_true hz'.1, of_decide_eq_true hz'.2⟩, P ι H _ (Ext.refl _ _) R (.int _)⟩
    · exact P.elim
  · exact P.elim
def dMod (x y : D) (h : Hq) : Rs D := match x, y with
  | .int i, .int j => if 0 < j then .ok (.int (i % j)) h else .no
  | _, _ => .no
theorem s_mod : OpS K mg E dMod (rI (fun _ j => 0 < j) fun i j => .int (i % j)) := by
  intro ι h H x y v w Q R rx ry P
  unfold dMod at P
  split at P
  · split at P
    · rename_i hz
      cases rx; cases ry
      exact ⟨_, _, rfl, rfl, hz, P ι H _ (Ext.refl _ _) R (.int _)⟩
    · exact P.elim
  · exact P.elim
def dPow (x y : D) (h : Hq) : Rs D := match x, y with
  | .int i, .int j => if 0 ≤ j ∧ j ≤ 1000 ∧ i.natAbs.log2 < 10000 then .ok (.int (i ^ j.toNat)) h else .no
  | _, _ => .no
def CPowL (i j : Int) : Prop := 0 ≤ j ∧ j ≤ 1000 ∧ i.natAbs.log2 < 10000
theorem o_pow {X : Cx} : OpR X (binaryOp .Pow) (rI CPowL fun i j => .int (i ^ j.toNat)) := opI fun i j _ _ _ _ _ hc q => PyProof.Rows.pow_int hc.1 (by
  obtain ⟨h0, h1, h2⟩ := hc
  have hb : Builtin.Int.intBits i ≤ 10000 := by
    unfold Builtin.Int.intBits
    split <;> omega
  have h3 : (Builtin.Int.intBits i : Int) * j ≤ 10000 * j := Int.mul_le_mul_of_nonneg_right (by omega) h0
  omega) q
theorem s_pow : OpS K mg E dPow (rI CPowL fun i j => .int (i ^ j.toNat)) := by
  intro ι h H x y v w Q R rx ry P
  unfold dPow at P
  split at P
  · split at P
    · rename_i hz
      cases rx; cases ry
      exact ⟨_, _, rfl, rfl, hz, P ι H _ (Ext.refl _ _) R (.int _)⟩
    · exact P.elim
  · exact P.elim
end
/-- one-place -/
def eUn (g : D → Hq → Rs D) (a : Sx) : Sx := fun fr h => (a fr h).bind g
def UnS (K : PySem.W.Frag) (mg : Str → Option Value) (E : XK) (g : D → Hq → Rs D) (r : V → Hp → VK → Prop) : Prop :=
  ∀ (ι : List Addr) (h : Hq) (H : Hp) (x : D) (v : V) (Q : VK), HR K ι h H → VR K ι H v x → PoV K mg ι H Q E (g x h) → r v H Q
section
variable {X : Cx} {E : XK} {a b c : Expr} {fa fb fc : Sx} {pos : Pos} {K : PySem.W.Frag} {mg : Str → Option Value}
theorem m_un {op : UnaryOp} {g : D → Hq → Rs D} {r : V → Hp → VK → Prop} (ho : UnR X (unaryOp op) r) (hs : UnS X.K X.mg E g r) (ha : PM X E a fa) : PM X E (.UnaryOp op a pos) (eUn g fa) := pe_imp (pe_un ho ha) fun σ H Q ⟨ι, h, fr, R, F, P⟩ => by
  refine ⟨ι, h, fr, R, F, Po.mono ?_ (Po.bind P)⟩
  rintro v H1 ⟨ι1, h1, x, e1, R1, r1, P1⟩
  exact hs ι1 h1 H1 x v Q R1 r1 P1
def dNeg (x : D) (h : Hq) : Rs D := match x with
  | .int i => .ok (.int (-i)) h
  | _ => .no
theorem s_neg : UnS K mg E dNeg (rU fun i => .int (-i)) := by
  intro ι h H x v Q R rx P
  unfold dNeg at P
  split at P
  · cases rx; exact ⟨_, rfl, P ι H _ (Ext.refl _ _) R (.int _)⟩
  · exact P.elim
theorem m_add (ha : PM X E a fa) (hb : PM X E b fb) : PM X E (.BinOp a .Add b pos) (eOp dAdd fa fb) := m_bin o_add s_add ha hb
theorem m_sub (ha : PM X E a fa) (hb : PM X E b fb) : PM X E (.BinOp a .Sub b pos) (eOp dSub fa fb) := m_bin op_sub s_sub ha hb
theorem m_mul (ha : PM X E a fa) (hb : PM X E b fb) : PM X E (.BinOp a .Mult b pos) (eOp dMul fa fb) := m_bin o_mul s_mul ha hb
theorem m_fdiv (ha : PM X E a fa) (hb : PM X E b fb) : PM X E (.BinOp a .FloorDiv b pos) (eOp dDiv fa fb) := m_bin op_fdivW s_div ha hb
theorem m_mod (ha : PM X E a fa) (hb : PM X E b fb) : PM X E (.BinOp a .Mod b pos) (eOp dMod fa fb) := m_bin op_mod s_mod ha hb
theorem m_pow (ha : PM X E a fa) (hb : PM X E b fb) : PM X E (.BinOp a .Pow b pos) (eOp dPow fa fb) := m_bin o_pow s_pow ha hb
theorem m_neg (ha : PM X E a fa) : PM X E (.UnaryOp .USub a pos) (eUn dNeg fa) := m_un un_neg s_neg ha

/-! ### comparisons -/
def dRel (p : Int → Int → Bool) (x y : D) (h : Hq) : Rs D := match x, y with
  | .int i, .int j => .ok (.bl (p i j)) h
  | _, _ => .no
theorem s_rel (p : Int → Int → Bool) : OpS K mg E (dRel p) (rI0 fun i j => .bl (p i j)) := by
  intro ι h H x y v w Q R rx ry P
  unfold dRel at P
  split at P
  · cases rx; cases ry
    exact ⟨_, _, rfl, rfl, P ι H _ (Ext.refl _ _) R (.bl _)⟩
  · exact P.elim
abbrev dLt : D → D → Hq → Rs D := dRel fun i j => decide (i < j)
abbrev dLe : D → D → Hq → Rs D := dRel fun i j => decide (i ≤ j)
abbrev dGt : D → D → Hq → Rs D := dRel fun i j => decide (j < i)
abbrev dGe : D → D → Hq → Rs D := dRel fun i j => decide (j ≤ i)
theorem m_lt (ha : PM X E a fa) (hb : PM X E b fb) : PMb X E (.Compare a [.Lt] [b] pos) (bOf (eOp dLt fa fb)) := m_cmp op_lt (s_rel _) ha hb (nomark _)
theorem m_le (ha : PM X E a fa) (hb : PM X E b fb) : PMb X E (.Compare a [.LtE] [b] pos) (bOf (eOp dLe fa fb)) := m_cmp op_le (s_rel _) ha hb (nomark _)
theorem m_gt (ha : PM X E a fa) (hb : PM X E b fb) : PMb X E (.Compare a [.Gt] [b] pos) (bOf (eOp dGt fa fb)) := m_cmp op_gt (s_rel _) ha hb (nomark _)
theorem m_ge (ha : PM X E a fa) (hb : PM X E b fb) : PMb X E (.Compare a [.GtE] [b] pos) (bOf (eOp dGe fa fb)) := m_cmp op_ge (s_rel _) ha hb (nomark _)
theorem m_ltV (ha : PM X E a fa) (hb : PM X E b fb) : PM X E (.Compare a [.Lt] [b] pos) (eOp dLt fa fb) := m_cmpV op_lt (s_rel _) ha hb (nomark _)
theorem m_leV (ha : PM X E a fa) (hb : PM X E b fb) : PM X E (.Compare a [.LtE] [b] pos) (eOp dLe fa fb) := m_cmpV op_le (s_rel _) ha hb (nomark _)
theorem m_gtV (ha : PM X E a fa) (hb : PM X E b fb) : PM X E (.Compare a [.Gt] [b] pos) (eOp dGt fa fb) := m_cmpV op_gt (s_rel _) ha hb (nomark _)
theorem m_geV (ha : PM X E a fa) (hb : PM X E b fb) : PM X E (.Compare a [.GtE] [b] pos) (eOp dGe fa fb) := m_cmpV op_ge (s_rel _) ha hb (nomark _)
/-- a chain a op b op' c of ints -/
def eChain (p q : Int → Int → Bool) (fa fb fc : Sx) : Sx := fun fr h => (fa fr h).bind fun x h1 => (fb fr h1).bind fun y h2 => match x, y with
  | .int i, .int j => if p i j = true then (fc fr h2).bind fun z h3 => dRel q (.int j) z h3 else .ok (.bl false) h2
  | _, _ => .no
theorem m_chainV {op op' : CmpOp} {p q : Int → Int → Bool} (ho : OpR X (compareOp op) (rI0 fun i j => .bl (p i j))) (ho' : OpR X (compareOp op') (rI0 fun i j => .bl (q i j))) (ha : PM X E a fa) (hb : PM X E b fb) (hc : PM X E c fc)
    (hm : lastMarks [op, op'] [b, c] = false := by with_unfolding_all rfl) : PM X E (.Compare a [op, op'] [b, c] pos) (eChain p q fa fb fc) := pe_imp (pe_chain ho ho' ha hb hc hm) fun σ H Q ⟨ι, h, fr, R, F, P⟩ => by
  refine ⟨ι, h, fr, R, F, Po.mono ?_ (Po.bind P)⟩
  rintro v H1 ⟨ι1, h1, x, e1, R1, r1, P1⟩
  refine ⟨ι1, h1, fr, R1, F.ext e1, Po.mono ?_ (Po.bind P1)⟩
  rintro w H2 ⟨ι2, h2, y, e2, R2, r2, P2⟩
  split at P2
  · rename_i i j
    cases r1; cases r2
    refine ⟨i, j, rfl, rfl, p i j, rfl, ?_⟩
    cases hp : p i j with
    | true =>
      rw [hp, if_pos rfl] at P2
      rw [if_pos rfl]
      refine ⟨ι2, h2, fr, R2, (F.ext e1).ext e2, Po.mono ?_ (Po.bind P2)⟩
      rintro z H3 ⟨ι3, h3, u, e3, R3, r3, P3⟩
      exact s_rel q ι3 h3 H3 (.int j) u _ z Q R3 (.int j) r3 P3
    | false =>
      rw [hp, if_neg Bool.false_ne_true] at P2
      rw [if_neg Bool.false_ne_true]
      exact P2 ι2 H2 _ (Ext.refl _ _) R2 (.bl false)
  · exact P2.elim
theorem m_leLe (ha : PM X E a fa) (hb : PM X E b fb) (hc : PM X E c fc) (hm : lastMarks [.LtE, .LtE] [b, c] = false := by with_unfolding_all rfl) :
    PM X E (.Compare a [.LtE, .LtE] [b, c] pos) (eChain (fun i j => decide (i ≤ j)) (fun i j => decide (i ≤ j)) fa fb fc) := m_chainV op_le op_le ha hb hc hm
/-- is None, is True, is False -/
def isV (x y : V) : Bool := match x, y with
  | .non, .non => true
  | .bl a, .bl b => a == b
  | _, _ => false
def isC (y : V) : Prop := y = .non ∨ ∃ b, y = .bl b
theorem op_isC {X : Cx} : OpR X (compareOp .Is) (fun x y H Q => isC y ∧ Q (.bl (isV x y)) H) := by
  intro pins s σ H x y v u Q I rx ry h
  obtain ⟨h | ⟨b, h⟩, q⟩ := h
  · subst h
    cases ry
    refine PyProof.Rows.is_none_gen (fin_bl I q ?_)
    cases x <;> first
      | (cases rx; rfl)
      | (obtain ⟨t, rfl⟩ := rx; rfl)
  · subst h
    cases ry
    cases x with
    | bl a => cases rx; exact PyProof.Rows.is_bool (fin_bl I q (by cases a <;> cases b <;> rfl))
    | _ => first
      | (cases rx; exact wpAny_is_other rfl (fun z => nomatch z) (fin_bl I q rfl))
      | (obtain ⟨t, rfl⟩ := rx; exact wpAny_is_other rfl (fun z => nomatch z) (fin_bl I q rfl))
theorem op_notC {X : Cx} : OpR X (compareOp .IsNot) (fun x y H Q => isC y ∧ Q (.bl (!isV x y)) H) := by
  intro pins s σ H x y v u Q I rx ry h
  obtain ⟨h | ⟨b, h⟩, q⟩ := h
  · subst h
    cases ry
    refine PyProof.Rows.isnot_none_gen (fin_bl I q ?_)
    cases x <;> first
      | (cases rx; rfl)
      | (obtain ⟨t, rfl⟩ := rx; rfl)
  · subst h
    cases ry
    cases x with
    | bl a => cases rx; exact PyProof.Rows.isnot_bool (fin_bl I q (by cases a <;> cases b <;> rfl))
    | _ => first
      | (cases rx; exact wpAny_isNot_other rfl (fun z => nomatch z) (fin_bl I q rfl))
      | (obtain ⟨t, rfl⟩ := rx; exact wpAny_isNot_other rfl (fun z => nomatch z) (fin_bl I q rfl))
def dIsN (neg : Bool) (x y : D) (h : Hq) : Rs D := match x, y with
  | .opq, _ => .no
  | .adr _, _ => .no
  | .ty _, _ => .no
  | .non, .non => .ok (.bl (!neg)) h
  | _, .non => .ok (.bl neg) h
  | .bl a, .bl b => .ok (.bl ((a == b) != neg)) h
  | _, .bl _ => .ok (.bl neg) h
  | _, _ => .no
theorem s_isC (neg : Bool) : OpS K mg E (dIsN neg) (fun x y H Q => isC y ∧ Q (.bl (isV x y != neg)) H) := by
  intro ι h H x y v w Q R rx ry P
  have k : ∀ b, dIsN neg x y h = .ok (.bl b) h → isC w ∧ isV v w = (b != neg) → isC w ∧ Q (.bl (isV v w != neg)) H := fun b e ⟨c, q⟩ => by
    rw [e] at P
    refine ⟨c, ?_⟩
    have := P ι H _ (Ext.refl _ _) R (.bl b)
    rw [q]
    cases b <;> cases neg <;> exact this
  have n0 : ((!neg) != neg) = true := by cases neg <;> rfl
  have n1 : (neg != neg) = false := by cases neg <;> rfl
  have n2 : ∀ a : Bool, ((a != neg) != neg) = a := fun a => by cases a <;> cases neg <;> rfl
  cases ry with
  | non => cases rx <;> first
    | exact P.elim
    | exact k _ rfl ⟨.inl rfl, by first | exact n0.symm | exact n1.symm⟩
  | bl b => cases rx <;> first
    | exact P.elim
    | exact k _ rfl ⟨.inr ⟨_, rfl⟩, by first | exact n1.symm | exact (n2 _).symm⟩
  | _ => cases rx <;> exact P.elim
theorem s_isN : OpS K mg E (dIsN false) (fun x y H Q => isC y ∧ Q (.bl (isV x y)) H) := fun ι h H x y v w Q R rx ry P => by
  have := s_isC (K := K) (mg := mg) (E := E) false ι h H x y v w Q R rx ry P
  simpa using this
theorem s_notN : OpS K mg E (dIsN true) (fun x y H Q => isC y ∧ Q (.bl (!isV x y)) H) := fun ι h H x y v w Q R rx ry P => by
  have := s_isC (K := K) (mg := mg) (E := E) true ι h H x y v w Q R rx ry P
  simpa using this
theorem m_isN (ha : PM X E a fa) (hb : PM X E b fb) : PMb X E (.Compare a [.Is] [b] pos) (bOf (eOp (dIsN false) fa fb)) := m_cmp op_isC s_isN ha hb (nomark _)
theorem m_notN (ha : PM X E a fa) (hb : PM X E b fb) : PMb X E (.Compare a [.IsNot] [b] pos) (bOf (eOp (dIsN true) fa fb)) := m_cmp op_notC s_notN ha hb (nomark _)
theorem m_isNV (ha : PM X E a fa) (hb : PM X E b fb) : PM X E (.Compare a [.Is] [b] pos) (eOp (dIsN false) fa fb) := m_cmpV op_isC s_isN ha hb (nomark _)
theorem m_notNV (ha : PM X E a fa) (hb : PM X E b fb) : PM X E (.Compare a [.IsNot] [b] pos) (eOp (dIsN true) fa fb) := m_cmpV op_notC s_notN ha hb (nomark _)

/-! ### data as a whole: == -/
def opts {α β : Type} (f : α → Option β) : List α → Option (List β)
  | [] => some []
  | d :: l => match f d, opts f l with
    | some p, some q => some (p :: q)
    | _, _ => none
def toPy (h : Hq) : Nat → D → Option PyData
  | 0, _ => none
  | _ + 1, .non => some .none
  | _ + 1, .bl b => some (.bool b)
  | _ + 1, .int i => some (.int i)
  | _ + 1, .str x => some (.str x)
  | n + 1, .tup l => (opts (toPy h n) l).map .tuple
  | n + 1, .ref m => match lstAt h m with
    | some l => (opts (toPy h n) l).map .list
    | none => none
  | _ + 1, .scr l => some (.list (l.map .int))
  | _ + 1, .opq => none
  | _ + 1, .adr _ => none
  | _ + 1, .ty _ => none
theorem dp_ints {H : Hp} : ∀ l : List Int, DpAll K H (l.map V.int) (l.map PyData.int)
  | [] => .nil
  | i :: l => .cons (.int i) (dp_ints l)
theorem dp_all {ι : List Addr} {H : Hp} {f : D → Option PyData} (hf : ∀ d p v, f d = some p → VR K ι H v d → Dp K H v p) : ∀ {l : List D} {ps : List PyData} {vs : List V}, opts f l = some ps → VRs K ι H vs l → DpAll K H vs ps
  | [], ps, vs, e, r => by
    cases r
    cases e
    exact .nil
  | d :: l, ps, vs, e, r => by
    unfold opts at e
    split at e
    · rename_i p q h1 h2
      cases e
      cases r with
      | cons r1 r2 => exact .cons (hf _ _ _ h1 r1) (dp_all hf h2 r2)
    · cases e
theorem dp_of {ι : List Addr} {h : Hq} {H : Hp} (R : HR K ι h H) : ∀ (n : Nat) (d : D) (p : PyData) (v : V), toPy h n d = some p → VR K ι H v d → Dp K H v p
  | 0, _, _, _, e, _ => by cases e
  | n + 1, d, p, v, e, r => by
    cases r with
    | non => cases e; exact .non
    | bl b => cases e; exact .bl b
    | int i => cases e; exact .int i
    | str x => cases e; exact .str x
    | tup hx q =>
      rename_i a vs l
      have e' : (opts (toPy h n) l).map PyData.tuple = some p := e
      obtain ⟨ps, h1, h2⟩ := Option.map_eq_some_iff.mp e'
      subst h2
      exact .tup (.of hx) (dp_all (fun d p v => dp_of R n d p v) h1 q)
    | ref hx =>
      rename_i a m
      have e' : (match lstAt h m with | some l => (opts (toPy h n) l).map PyData.list | none => none) = some p := e
      split at e'
      · rename_i l hl
        obtain ⟨ps, h1, h2⟩ := Option.map_eq_some_iff.mp e'
        subst h2
        obtain ⟨vs, c1, q1⟩ := R.lst hx hl
        exact .lst (.of c1) (dp_all (fun d p v => dp_of R n d p v) h1 q1)
      · cases e'
    | scr hx =>
      cases e
      exact .lst hx.sq (dp_ints _)
    | opq v => cases e
    | adr a => cases e
    | ty n => cases e
def eqQ (neg : Bool) (x y : D) (h : Hq) : Option Bool := match x, y with
  | .str a, .str b => some (decide (a = b) != neg)
  | .ref m, .str _ => match h[m]? with
    | some (.dct _) => if neg = true then none else some false
    | _ => none
  | _, _ => none
def dEqP (neg : Bool) (x y : D) (h : Hq) : Rs D := match toPy h 60 x, toPy h 60 y with
  | some p, some q => if SeqAt.shaped p = true ∧ SeqAt.shaped q = true then .ok (.bl (PyData.eqv p q != neg)) h else .no
  | _, _ => .no
def dEqs (neg : Bool) (x y : D) (h : Hq) : Rs D := match eqQ neg x y h with
  | some b => .ok (.bl b) h
  | none => dEqP neg x y h
theorem dec_str {a b : Str} : decide (V.str a = V.str b) = decide (a = b) := by
  rw [Bool.eq_iff_iff]
  simp
theorem eqQ_in {ι : List Addr} {h : Hq} {H : Hp} {neg b : Bool} {x y : D} {v w : V} (R : HR K ι h H) (rx : VR K ι H v x) (ry : VR K ι H w y) (e : eqQ neg x y h = some b) :
    (∃ p q, v = .str p ∧ w = .str q ∧ b = (decide (p = q) != neg)) ∨ (neg = false ∧ b = false ∧ ∃ a kvs z, v = .ref a ∧ w = .str z ∧ H a = some (.dK kvs)) := by
  unfold eqQ at e
  split at e
  · cases rx; cases ry; cases e
    exact .inl ⟨_, _, rfl, rfl, rfl⟩
  · split at e
    · rename_i l hl
      split at e
      · cases e
      · rename_i hn
        cases e
        cases rx with
        | ref hx =>
          cases ry
          obtain ⟨kvs, c1, _⟩ := R.cells _ _ _ hl hx
          exact .inr ⟨by simpa using hn, rfl, _, kvs, _, rfl, rfl, c1⟩
    · cases e
  · cases e
theorem s_eq : OpS K mg E (dEqs false) (fun x y H Q => rEq x y H Q ∨ (rEqDS x y H Q ∨ rEqD K x y H Q)) := by
  intro ι h H x y v w Q R rx ry P
  unfold dEqs at P
  split at P
  · rename_i b e
    have := P ι H _ (Ext.refl _ _) R (.bl _)
    rcases eqQ_in R rx ry e with ⟨p, q, rfl, rfl, rfl⟩ | ⟨_, rfl, a, kvs, z, rfl, rfl, hx⟩
    · refine .inl ⟨rfl, ?_⟩
      rw [dec_str]
      rw [Bool.bne_false] at this
      exact this
    · exact .inr (.inl ⟨a, kvs, z, rfl, rfl, hx, this⟩)
  · unfold dEqP at P
    split at P
    · rename_i p q e1 e2
      split at P
      · rename_i hs
        have := P ι H _ (Ext.refl _ _) R (.bl _)
        rw [Bool.bne_false] at this
        exact .inr (.inr ⟨p, q, dp_of R 60 x p v e1 rx, dp_of R 60 y q w e2 ry, hs.1, hs.2, this⟩)
      · exact P.elim
    · exact P.elim
theorem s_ne : OpS K mg E (dEqs true) (fun x y H Q => rNe x y H Q ∨ rNeD K x y H Q) := by
  intro ι h H x y v w Q R rx ry P
  unfold dEqs at P
  split at P
  · rename_i b e
    have := P ι H _ (Ext.refl _ _) R (.bl _)
    rcases eqQ_in R rx ry e with ⟨p, q, rfl, rfl, rfl⟩ | ⟨hn, _⟩
    · refine .inl ⟨rfl, ?_⟩
      rw [dec_str]
      rw [Bool.bne_true] at this
      exact this
    · cases hn
  · unfold dEqP at P
    split at P
    · rename_i p q e1 e2
      split at P
      · rename_i hs
        have := P ι H _ (Ext.refl _ _) R (.bl _)
        rw [Bool.bne_true] at this
        exact .inr ⟨p, q, dp_of R 60 x p v e1 rx, dp_of R 60 y q w e2 ry, hs.1, hs.2, this⟩
      · exact P.elim
    · exact P.elim
theorem m_eq (hu : X.A.units + 64 < cLine) (ha : PM X E a fa) (hb : PM X E b fb) : PMb X E (.Compare a [.Eq] [b] pos) (bOf (eOp (dEqs false) fa fb)) := m_cmp (op_eq.or ((op_eqDS hu).or (op_eqD hu))) s_eq ha hb (nomark _)
theorem m_ne (hu : X.A.units + 64 < cLine) (ha : PM X E a fa) (hb : PM X E b fb) : PMb X E (.Compare a [.NotEq] [b] pos) (bOf (eOp (dEqs true) fa fb)) := m_cmp (op_ne.or (op_neD hu)) s_ne ha hb (nomark _)
theorem m_eqV (hu : X.A.units + 64 < cLine) (ha : PM X E a fa) (hb : PM X E b fb) : PM X E (.Compare a [.Eq] [b] pos) (eOp (dEqs false) fa fb) := m_cmpV (op_eq.or ((op_eqDS hu).or (op_eqD hu))) s_eq ha hb (nomark _)
theorem m_neV (hu : X.A.units + 64 < cLine) (ha : PM X E a fa) (hb : PM X E b fb) : PM X E (.Compare a [.NotEq] [b] pos) (eOp (dEqs true) fa fb) := m_cmpV (op_ne.or (op_neD hu)) s_ne ha hb (nomark _)

/-! ### items, slices -/
def dIx (x y : D) (h : Hq) : Rs D := match x, y with
  | .tup l, .int i => match atI l i with
    | some d => .ok d h
    | none => .no
  | .ref m, .int i => match lstAt h m with
    | some l => match atI l i with
      | some d => .ok d h
      | none => .no
    | none => .no
  | .scr l, .int i => match atI l i with
    | some k => .ok (.int k) h
    | none => .no
  | _, _ => .no
theorem atI_at {α β : Type} {xs : List α} {ys : List β} (hl : xs.length = ys.length) {i : Int} {y : β} (h : atI ys i = some y) : ∃ j : Nat, ys[j]? = some y ∧ ∀ x, xs[j]? = some x → atI xs i = some x := by
  unfold atI at h ⊢
  rw [hl]
  cases e : ixN ys.length i with
  | none => rw [e] at h; cases h
  | some j => rw [e] at h; exact ⟨j, h, fun x hx => hx⟩
theorem s_ix : OpS K mg E dIx (fun x y H Q => rIxL K x y H Q ∨ rIxT K x y H Q) := by
  intro ι h H x y v w Q R rx ry P
  unfold dIx at P
  split at P
  · split at P
    · rename_i l i _ d e
      cases rx with
      | tup hx q =>
        cases ry
        rename_i a vs
        obtain ⟨j, h1, h2⟩ := atI_at q.length e
        obtain ⟨u, g1, g2⟩ := q.get h1
        exact .inr ⟨a, vs, i, u, rfl, rfl, .of hx, h2 u g1, P ι H u (Ext.refl _ _) R g2⟩
    · exact P.elim
  · split at P
    · split at P
      · rename_i m i _ l hl _ d e
        cases rx with
        | ref hx =>
          cases ry
          rename_i a
          obtain ⟨vs, c1, q⟩ := R.lst hx hl
          obtain ⟨j, h1, h2⟩ := atI_at q.length e
          obtain ⟨u, g1, g2⟩ := q.get h1
          exact .inl ⟨a, vs, i, u, rfl, rfl, .of c1, h2 u g1, P ι H u (Ext.refl _ _) R g2⟩
      · exact P.elim
    · exact P.elim
  · split at P
    · rename_i l i _ k e
      cases rx with
      | scr hx =>
        cases ry
        rename_i a
        obtain ⟨j, h1, h2⟩ := atI_at (xs := l.map V.int) (by simp) e
        exact .inl ⟨a, _, i, .int k, rfl, rfl, hx.sq, h2 _ (by rw [List.getElem?_map, h1]; rfl), P ι H _ (Ext.refl _ _) R (.int k)⟩
    · exact P.elim
  · exact P.elim
theorem m_ix (ha : PM X E a fa) (hb : PM X E b fb) (hs : PlainIx b := by exact fun _ _ => rfl) : PM X E (.Subscript a b pos) (eOp dIx fa fb) := pe_imp (pe_ix (ix_list.or ix_tup) ha hb hs) fun _ _ _ q => op_in s_ix q
end
/-- the parts of a slice -/
abbrev So := Fr → Hq → Rs (Option Int)
def oNone : So := fun _ h => .ok none h
def oSome (f : Sx) : So := fun fr h => (f fr h).bind fun x h1 => match x with
  | .int i => .ok (some i) h1
  | _ => .no
def tMo (K : PySem.W.Frag) (mg : Str → Option Value) (E : XK) (f : So) : TO := fun σ H Q => ∃ ι h fr, HR K ι h H ∧ FR K ι H σ fr ∧ Po K mg (fun _ _ (b c : Option Int) => b = c) ι H Q E (f fr h)
abbrev PMo (X : Cx) (E : XK) (e : Option Expr) (f : So) : Prop := PO X e (tMo X.K X.mg E f)
def cutD (xs : List D) (lo hi : Option Int) : List D := (xs.drop (HT.sIx xs.length 0 lo)).take (HT.sIx xs.length xs.length hi - HT.sIx xs.length 0 lo)
def dCut (x : D) (lo hi : Option Int) (h : Hq) : Rs D := match x with
  | .tup l => .ok (.tup (cutD l lo hi)) h
  | .ref m => match lstAt h m with
    | some l => .ok (.ref h.length) (h ++ [.lst (cutD l lo hi)])
    | none => .no
  | _ => .no
def eCut (f : Sx) (lo hi : So) : Sx := fun fr h => (f fr h).bind fun x h1 => (lo fr h1).bind fun l h2 => (hi fr h2).bind fun u h3 => dCut x l u h3
theorem cut_rel {K : PySem.W.Frag} {ι : List Addr} {H : Hp} {vs : List V} {l : List D} (r : VRs K ι H vs l) (lo hi : Option Int) : VRs K ι H (cutV vs lo hi) (cutD l lo hi) := by
  unfold cutV cutD
  rw [r.length]
  exact (r.drop _).take _
theorem cut_whole {l : List D} {lo hi : Option Int} (h : HT.sIx l.length 0 lo = 0 ∧ HT.sIx l.length l.length hi = l.length) : cutD l lo hi = l := by
  unfold cutD
  rw [h.1, h.2]
  simp
section
variable {X : Cx} {E : XK} {a : Expr} {fa : Sx} {lo hi : Option Expr} {fl fu : So} {pos p2 : Pos}
theorem m_ono : PMo X E none oNone := ⟨fun pins s σ H Q I ⟨ι, h, fr, R, F, P⟩ => po_none.run pins s σ H Q I (P ι H _ (Ext.refl _ _) R rfl)⟩
theorem m_oso (ha : PM X E a fa) : PMo X E (some a) (oSome fa) := ⟨fun pins s σ H Q I ⟨ι, h, fr, R, F, P⟩ => (po_some ha).run pins s σ H Q I (by
  refine ⟨ι, h, fr, R, F, Po.mono ?_ (Po.bind P)⟩
  rintro v H1 ⟨ι1, h1, x, e1, R1, r1, P1⟩
  split at P1
  · cases r1; exact ⟨_, rfl, P1 ι1 H1 _ (Ext.refl _ _) R1 rfl⟩
  · exact P1.elim)⟩
theorem m_cut (ha : PM X E a fa) (hl : PMo X E lo fl) (hu : PMo X E hi fu) : PM X E (.Subscript a (.Slice lo hi none p2) pos) (eCut fa fl fu) := pe_imp (pe_slice (sl_tupA.or sl_list) ha hl hu) fun σ H Q ⟨ι, h, fr, R, F, P⟩ => by
  refine ⟨ι, h, fr, R, F, Po.mono ?_ (Po.bind P)⟩
  rintro v H1 ⟨ι1, h1, x, e1, R1, r1, P1⟩
  refine ⟨ι1, h1, fr, R1, F.ext e1, Po.mono ?_ (Po.bind P1)⟩
  rintro l H2 ⟨ι2, h2, l', e2, R2, r2, P2⟩
  subst r2
  refine ⟨ι2, h2, fr, R2, (F.ext e1).ext e2, Po.mono ?_ (Po.bind P2)⟩
  rintro u H3 ⟨ι3, h3, u', e3, R3, r3, P3⟩
  subst r3
  have rx := r1.ext (e2.trans e3)
  unfold dCut at P3
  split at P3
  · cases rx with
    | tup hx q =>
      rename_i xs a vs
      refine .inl ⟨a, vs, rfl, .of hx, fun hw => ?_, fun _ p np => ?_⟩
      · rw [q.length] at hw
        rw [cut_whole hw] at P3
        exact P3 ι3 H3 _ (Ext.refl _ _) R3 (.tup hx q)
      · obtain ⟨e4, R4⟩ := R3.tup np (cutV vs l u)
        exact P3 ι3 _ _ e4 R4 (.tup upd_same ((cut_rel q l u).ext e4))
  · split at P3
    · rename_i m xs hl
      cases rx with
      | ref hx =>
        rename_i a
        obtain ⟨vs, c1, q⟩ := R3.lst hx hl
        refine .inr ⟨a, vs, rfl, .of c1, fun p np => ?_⟩
        obtain ⟨e4, R4⟩ := R3.new np (o := .lst (cutV vs l u)) (c := .lst (cutD xs l u)) fun ι' H' e z => ⟨_, z, (cut_rel q l u).ext e⟩
        exact P3 _ _ _ e4 R4 (.ref (ref_new R3 p))
    · exact P3.elim
  · exact P3.elim
end
end MI
end

section
set_option Elab.async false
set_option linter.all false
set_option autoImplicit false
set_option maxRecDepth 100000
set_option maxHeartbeats 4000000
namespace MI
open PySem L2

/-! ### what a def is worth -/
/-- the def at f, called (below the guards' line) with plain things, is worth what sem tells -/
structure FnG (P : Program) (w : World) (K : PySem.W.Frag) (mg : Str → Option Value) (base : Heap) (k : Nat) (f : Addr) (fd : FuncData) (ps : List Str) (sem : Sf) : Prop where
  go : ∀ (A : Around) (outer : List Env) (s : Shared) (H : Hp) (args : Args) (us : List Value) (vs : List V) (ds : List D) (ι : List Addr) (h : Hq) (Q : VK) (E : XK),
    Room k A → A.guards = some [] → Env0 P w K mg base A outer s H → BindsTo s fd args (ps.zip us) → Vals vs us → HR K ι h H → VRs K ι H vs ds → ds.length = ps.length →
    PoV K mg ι H Q E (sem ds h) → codeAny (model P w) A (.call (.ref f) args) (L2.CR (L2.CX P w) outer P w H s Q E) s
theorem FnG.mono {P : Program} {w : World} {K : PySem.W.Frag} {mg : Str → Option Value} {base : Heap} {j k : Nat} {f : Addr} {fd : FuncData} {ps : List Str} {sem : Sf} (F : FnG P w K mg base j f fd ps sem) (hjk : j ≤ k) : FnG P w K mg base k f fd ps sem :=
  ⟨fun A outer s H args us vs ds ι h Q E hr => F.go A outer s H args us vs ds ι h Q E (hr.mono hjk)⟩
/-- the same worth, told otherwise -/
theorem FnG.as {P : Program} {w : World} {K : PySem.W.Frag} {mg : Str → Option Value} {base : Heap} {k : Nat} {f : Addr} {fd : FuncData} {ps : List Str} {sem sem' : Sf} (F : FnG P w K mg base k f fd ps sem)
    (e : ∀ ds h, sem' ds h = .no ∨ sem ds h = sem' ds h) : FnG P w K mg base k f fd ps sem' :=
  ⟨fun A outer s H args us vs ds ι h Q E hr hg e0 hb rv R r hl P => F.go A outer s H args us vs ds ι h Q E hr hg e0 hb rv R r hl (by
    rcases e ds h with z | z
    · rw [z] at P; exact P.elim
    · rw [z]; exact P)⟩

/-- where a def's body stands: what is raised is taken as E tells, the guards' line is free -/
structure Wh (X : Cx) (E : XK) : Prop where
  tk : Takes X (fun cls d _ H => E cls d H)
  po : PassesOwn (model X.prog X.w) X.A X.env X.xe
  gd : X.A.guards = some []
  calm : X.calm = true
  nd : X.N.Nodup

def eCall (n : Nat) (sem : Sf) (f : Sa) : Sx := fun fr h => (f fr h).bind fun ds h1 => if ds.length = n then sem ds h1 else .no
section
variable {X : Cx} {E : XK} {k : Nat} {f : Addr} {fd : FuncData} {ps : List Str} {sem : Sf} {x : Str} {p pos : Pos} {a : Expr} {as : List Expr} {fs : Sa}
theorem runG {pins : List (Addr × Obj)} {σ : L2.St} {H : Hp} {s : Shared} {Q : VK} {us : List Value} {vs : List V} {ds : List D} {ι : List Addr} {h : Hq} {args : Args} {us' : List Value} {vs' : List V} (F : FnG X.prog X.w X.K X.mg X.base k f fd ps sem) (wh : Wh X E) (hr : Room k X.A)
    (I : Inv X pins σ H s) (hb : BindsTo s fd args (ps.zip us')) (rv : Vals vs' us') (R : HR X.K ι h H) (r : VRs X.K ι H vs' ds) (hl : ds.length = ps.length) (P : PoV X.K X.mg ι H Q E (sem ds h)) :
    codeAny (model X.prog X.w) X.A (.call (.ref f) args) (fun r s' => match r with
      | .ok (.ret u) => EP X pins σ Q u s'
      | .ok _ => False
      | .error e => X.xe e s') s := by
  refine codeAny_mono (F.go X.A X.stack s H args us' vs' ds ι h Q E hr wh.gd I.env0 hb rv R r hl P) fun z s' q => ?_
  cases z with
  | error e => exact wh.tk e s' (XE.of_call (W := fun cls d _ H => E cls d H) I (fun _ _ _ z => z) q)
  | ok fl =>
    cases fl with
    | ret u => exact I.after q
    | next => exact q.elim
    | brk => exact q.elim
    | cont => exact q.elim
/-- f(e, ..): the written arguments, then the defaults -/
theorem m_callD {dds : List D} {dvs : List V} {dus : List Value} (F : FnG X.prog X.w X.K X.mg X.base k f fd ps sem) (wh : Wh X E) (hr : Room k X.A) (hm : X.mg x = some (.ref f)) (hk : PySem.W.keepIn X.K (.ref f) = true) (hb : Binds X.K fd ps dus)
    (hd : Vals dvs dus) (hdd : ∀ ι H, VRs X.K ι H dvs dds) (ha : PMa X E (a :: as) fs) (hg : Gl X x := by rfl) (hdb : (x == ("__debug__" : Str)) = false := by decide)
    (he : starEach (a :: as) X.env = (false, eval a X.env) :: starEach as X.env := by rfl) (hpl : (backTo pos (starEach as X.env)).any (·.1) = false := by rfl) :
    PM X E (.Call (.Name x p) (a :: as) [] pos) (eCall ps.length (fun ds => sem ds) (fun fr h => (fs fr h).bind fun ds h1 => .ok (ds ++ dds) h1)) := by
  constructor
  intro pins s σ H Q I q
  obtain ⟨ι, h, fr, R, F', P⟩ := q
  have P' : PoV X.K X.mg ι H Q E ((fs fr h).bind fun ds h1 => if (ds ++ dds).length = ps.length then sem (ds ++ dds) h1 else .no) := by
    have e : eCall ps.length (fun ds => sem ds) (fun fr h => (fs fr h).bind fun ds h1 => .ok (ds ++ dds) h1) fr h = (fs fr h).bind fun ds h1 => if (ds ++ dds).length = ps.length then sem (ds ++ dds) h1 else .no := by
      show ((fs fr h).bind fun ds h1 => Rs.ok (ds ++ dds) h1).bind _ = _
      cases fs fr h <;> rfl
    rw [← e]; exact P
  refine wpAny_Call_Name_kw (ld_glob I hg hm ?_ hdb)
  refine PySem.W.callWith_K (h₀ := X.base) I.ok.mod.kin hk (thn (ha.run pos pins s σ H _ I ⟨ι, h, fr, R, F', Po.bind P'⟩) ?_) he hpl
  rintro us s1 ⟨vs, H1, I1, rv, ι1, h1, ds, e1, R1, r1, P1⟩
  refine ⟨I1.kIn, ?_⟩
  split at P1
  · rename_i hl
    have rr : VRs X.K ι1 H1 (vs ++ dvs) (ds ++ dds) := r1.append (hdd ι1 H1)
    have ru : Vals (vs ++ dvs) (us ++ dus) := rv.append hd
    refine wpAny_call (codeAny_mono (runG (us := us) (vs := vs) F wh hr I1 (hb s1 us I1.kIn (by rw [← ru.length, rr.length]; exact hl)) ru R1 rr hl P1) ?_)
    intro z s' q
    cases z with
    | error e => exact q
    | ok fl =>
      cases fl with
      | ret u => exact q
      | next => exact q.elim
      | brk => exact q.elim
      | cont => exact q.elim
  · exact P1.elim
theorem m_call (F : FnG X.prog X.w X.K X.mg X.base k f fd ps sem) (wh : Wh X E) (hr : Room k X.A) (hm : X.mg x = some (.ref f)) (hk : PySem.W.keepIn X.K (.ref f) = true) (hb : Binds X.K fd ps [])
    (ha : PMa X E (a :: as) fs) (hg : Gl X x := by rfl) (hdb : (x == ("__debug__" : Str)) = false := by decide)
    (he : starEach (a :: as) X.env = (false, eval a X.env) :: starEach as X.env := by rfl) (hpl : (backTo pos (starEach as X.env)).any (·.1) = false := by rfl) :
    PM X E (.Call (.Name x p) (a :: as) [] pos) (eCall ps.length sem fs) := by
  have q := m_callD (dds := []) (dvs := []) F wh hr hm hk hb .nil (fun _ _ => .nil) ha hg hdb he hpl (p := p) (pos := pos)
  have e : (eCall ps.length (fun ds => sem ds) (fun fr h => (fs fr h).bind fun ds h1 => .ok (ds ++ []) h1)) = eCall ps.length sem fs := by
    funext fr h
    show ((fs fr h).bind fun ds h1 => Rs.ok (ds ++ []) h1).bind _ = (fs fr h).bind _
    cases fs fr h with
    | ok ds h1 => simp only [Rs.bind_ok, List.append_nil]
    | exc x h1 => rfl
    | no => rfl
  rw [e] at q
  exact q
end

/-! ### calls of built-ins -/
def CaS (K : PySem.W.Frag) (mg : Str → Option Value) (E : XK) (g : List D → Hq → Rs D) (r : List V → Hp → VK → Prop) : Prop :=
  ∀ (ι : List Addr) (h : Hq) (H : Hp) (ds : List D) (vs : List V) (Q : VK), HR K ι h H → VRs K ι H vs ds → PoV K mg ι H Q E (g ds h) → r vs H Q
def eBi (g : List D → Hq → Rs D) (f : Sa) : Sx := fun fr h => (f fr h).bind g
theorem bi_in {K : PySem.W.Frag} {mg : Str → Option Value} {E : XK} {g : List D → Hq → Rs D} {r : List V → Hp → VK → Prop} (hs : CaS K mg E g r) {f : Sa} {σ : L2.St} {H : Hp} {Q : VK} (q : tM K mg E (eBi g f) σ H Q) : tCB r (tMa K mg E f) σ H Q := by
  obtain ⟨ι, h, fr, R, F, P⟩ := q
  refine ⟨ι, h, fr, R, F, Po.mono ?_ (Po.bind P)⟩
  rintro vs H1 ⟨ι1, h1, ds, e1, R1, r1, P1⟩
  exact hs ι1 h1 H1 ds vs Q R1 r1 P1
section
variable {X : Cx} {E : XK} {a : Expr} {as : List Expr} {fs : Sa} {x : Str} {p pos : Pos} {K : PySem.W.Frag} {mg : Str → Option Value}
theorem m_bi {id : String} {g : List D → Hq → Rs D} {r : List V → Hp → VK → Prop} (hc : CallR X (.builtin id) r) (hs : CaS X.K X.mg E g r) (hm : X.mg x = none) (hv : bootBuiltins x = some (.builtin id)) (ha : PMa X E (a :: as) fs) (hg : Gl X x := by rfl) (hn : x ≠ "__name__" := by decide)
    (hdb : (x == ("__debug__" : Str)) = false := by decide) (he : starEach (a :: as) X.env = (false, eval a X.env) :: starEach as X.env := by rfl) (hpl : (backTo pos (starEach as X.env)).any (·.1) = false := by rfl) : PM X E (.Call (.Name x p) (a :: as) [] pos) (eBi g fs) :=
  pe_imp (pe_callB hc hg hm hv ha hn hdb he hpl) fun _ _ _ q => bi_in hs q
theorem m_ty {T : String} {g : List D → Hq → Rs D} {r : List V → Hp → VK → Prop} (hc : CallR X (.type T) r) (hs : CaS X.K X.mg E g r) (hm : X.mg x = none) (hv : bootBuiltins x = some (.type T)) (ha : PMa X E (a :: as) fs) (hg : Gl X x := by rfl) (hn : x ≠ "__name__" := by decide)
    (hdb : (x == ("__debug__" : Str)) = false := by decide) (he : starEach (a :: as) X.env = (false, eval a X.env) :: starEach as X.env := by rfl) (hpl : (backTo pos (starEach as X.env)).any (·.1) = false := by rfl) : PM X E (.Call (.Name x p) (a :: as) [] pos) (eBi g fs) :=
  pe_imp (pe_callTy hc hg hm hv ha hn hdb he hpl) fun _ _ _ q => bi_in hs q
/-- a module's name for a built-in (gcd) -/
theorem m_bf {id : String} {g : List D → Hq → Rs D} {r : List V → Hp → VK → Prop} (hc : CallR X (.builtin id) r) (hs : CaS X.K X.mg E g r) (hm : X.mg x = some (.builtin id)) (ha : PMa X E (a :: as) fs) (hg : Gl X x := by rfl)
    (hdb : (x == ("__debug__" : Str)) = false := by decide) (he : starEach (a :: as) X.env = (false, eval a X.env) :: starEach as X.env := by rfl) (hpl : (backTo pos (starEach as X.env)).any (·.1) = false := by rfl) : PM X E (.Call (.Name x p) (a :: as) [] pos) (eBi g fs) :=
  pe_imp (pe_callBfun hc hg hm ha hdb he hpl) fun _ _ _ q => bi_in hs q
def gAbs (ds : List D) (h : Hq) : Rs D := match ds with
  | [.int i] => .ok (.int (if i < 0 then -i else i)) h
  | _ => .no
theorem s_abs : CaS K mg E gAbs (fun xs H Q => ∃ i, xs = [.int i] ∧ Q (.int (if i < 0 then -i else i)) H) := by
  intro ι h H ds vs Q R r P
  unfold gAbs at P
  split at P
  · obtain ⟨v, rfl, q⟩ := r.one
    cases q
    exact ⟨_, rfl, P ι H _ (Ext.refl _ _) R (.int _)⟩
  · exact P.elim
def gMax (ds : List D) (h : Hq) : Rs D := match ds with
  | [.int i, .int j] => .ok (.int (if j > i then j else i)) h
  | _ => .no
theorem s_max : CaS K mg E gMax (fun xs H Q => ∃ i j, xs = [.int i, .int j] ∧ Q (.int (if j > i then j else i)) H) := by
  intro ι h H ds vs Q R r P
  unfold gMax at P
  split at P
  · obtain ⟨v, w, rfl, q1, q2⟩ := r.two
    cases q1; cases q2
    exact ⟨_, _, rfl, P ι H _ (Ext.refl _ _) R (.int _)⟩
  · exact P.elim
def gMin (ds : List D) (h : Hq) : Rs D := match ds with
  | [.int i, .int j] => .ok (.int (if j < i then j else i)) h
  | _ => .no
theorem s_min : CaS K mg E gMin (fun xs H Q => ∃ i j, xs = [.int i, .int j] ∧ Q (.int (if j < i then j else i)) H) := by
  intro ι h H ds vs Q R r P
  unfold gMin at P
  split at P
  · obtain ⟨v, w, rfl, q1, q2⟩ := r.two
    cases q1; cases q2
    exact ⟨_, _, rfl, P ι H _ (Ext.refl _ _) R (.int _)⟩
  · exact P.elim
def gInt (ds : List D) (h : Hq) : Rs D := match ds with
  | [.int i] => .ok (.int i) h
  | [.bl b] => .ok (.int (if b then 1 else 0)) h
  | _ => .no
theorem s_int : CaS K mg E gInt (fun xs H Q => (∃ i, xs = [.int i] ∧ Q (.int i) H) ∨ ∃ k, xs = [.bl k] ∧ Q (.int (if k then 1 else 0)) H) := by
  intro ι h H ds vs Q R r P
  unfold gInt at P
  split at P
  · obtain ⟨v, rfl, q⟩ := r.one
    cases q
    exact .inl ⟨_, rfl, P ι H _ (Ext.refl _ _) R (.int _)⟩
  · obtain ⟨v, rfl, q⟩ := r.one
    cases q
    exact .inr ⟨_, rfl, P ι H _ (Ext.refl _ _) R (.int _)⟩
  · exact P.elim
def bitsOk (i : Int) : Bool := decide (i.natAbs.log2 < 1920)
def gStr (ds : List D) (h : Hq) : Rs D := match ds with
  | [.int i] => if bitsOk i = true then .ok (.str (toString i)) h else .no
  | [.bl b] => .no
  | _ => .no
theorem s_str : CaS K mg E gStr (fun xs H Q => ∃ i, xs = [.int i] ∧ i.natAbs.log2 < 1920 ∧ Q (.str (toString i)) H) := by
  intro ι h H ds vs Q R r P
  unfold gStr at P
  split at P
  · split at P
    · rename_i hz
      obtain ⟨v, rfl, q⟩ := r.one
      cases q
      exact ⟨_, rfl, of_decide_eq_true hz, P ι H _ (Ext.refl _ _) R (.str _)⟩
    · exact P.elim
  · exact P.elim
  · exact P.elim
def gLen (ds : List D) (h : Hq) : Rs D := match ds with
  | [.tup l] => .ok (.int l.length) h
  | [.scr l] => .ok (.int l.length) h
  | [.ref m] => match lstAt h m with
    | some l => .ok (.int l.length) h
    | none => .no
  | _ => .no
theorem s_len : CaS K mg E gLen (fun xs H Q => ∃ p ys, xs = [.ref p] ∧ (SqL K H p ys ∨ SqT K H p ys) ∧ Q (.int ys.length) H) := by
  intro ι h H ds vs Q R r P
  unfold gLen at P
  split at P
  · obtain ⟨v, rfl, q⟩ := r.one
    cases q with
    | tup hx q => exact ⟨_, _, rfl, .inr (.of hx), by rw [q.length]; exact P ι H _ (Ext.refl _ _) R (.int _)⟩
  · obtain ⟨v, rfl, q⟩ := r.one
    cases q with
    | scr hx => exact ⟨_, _, rfl, .inl hx.sq, by rw [List.length_map]; exact P ι H _ (Ext.refl _ _) R (.int _)⟩
  · split at P
    · rename_i hl
      obtain ⟨v, rfl, q⟩ := r.one
      cases q with
      | ref hx =>
        obtain ⟨ws, c1, q1⟩ := R.lst hx hl
        exact ⟨_, _, rfl, .inl (.of c1), by rw [q1.length]; exact P ι H _ (Ext.refl _ _) R (.int _)⟩
    · exact P.elim
  · exact P.elim
def gList (ds : List D) (h : Hq) : Rs D := match ds with
  | [.tup l] => .ok (.ref h.length) (h ++ [.lst l])
  | [.ref m] => match lstAt h m with
    | some l => .ok (.ref h.length) (h ++ [.lst l])
    | none => .no
  | _ => .no
theorem s_list : CaS K mg E gList (fun xs H Q => ∃ p ys, xs = [.ref p] ∧ (SqL K H p ys ∨ SqT K H p ys) ∧ ∀ l, H l = none → Q (.ref l) (upd H l (.lst ys))) := by
  intro ι h H ds vs Q R r P
  unfold gList at P
  split at P
  · rename_i l
    obtain ⟨v, rfl, q⟩ := r.one
    cases q with
    | tup hx q =>
      refine ⟨_, _, rfl, .inr (.of hx), fun p np => ?_⟩
      obtain ⟨e3, R3⟩ := R.new np (c := .lst l) fun ι' H' e z => ⟨_, z, q.ext e⟩
      exact P _ _ _ e3 R3 (.ref (ref_new R p))
  · split at P
    · rename_i l hl
      obtain ⟨v, rfl, q⟩ := r.one
      cases q with
      | ref hx =>
        obtain ⟨ws, c1, q1⟩ := R.lst hx hl
        refine ⟨_, _, rfl, .inl (.of c1), fun p np => ?_⟩
        obtain ⟨e3, R3⟩ := R.new np (c := .lst l) fun ι' H' e z => ⟨_, z, q1.ext e⟩
        exact P _ _ _ e3 R3 (.ref (ref_new R p))
    · exact P.elim
  · exact P.elim
def gTuple (ds : List D) (h : Hq) : Rs D := match ds with
  | [.tup l] => .ok (.tup l) h
  | [.ref m] => match lstAt h m with
    | some l => .ok (.tup l) h
    | none => .no
  | _ => .no
theorem s_tuple : CaS K mg E gTuple (fun xs H Q => ∃ p ys, xs = [.ref p] ∧ ((SqL K H p ys ∧ ∀ l, H l = none → Q (.ref l) (upd H l (.tup ys))) ∨ (SqT K H p ys ∧ Q (.ref p) H))) := by
  intro ι h H ds vs Q R r P
  unfold gTuple at P
  split at P
  · rename_i l
    obtain ⟨v, rfl, q⟩ := r.one
    cases q with
    | tup hx q => exact ⟨_, _, rfl, .inr ⟨.of hx, P ι H _ (Ext.refl _ _) R (.tup hx q)⟩⟩
  · split at P
    · rename_i l hl
      obtain ⟨v, rfl, q⟩ := r.one
      cases q with
      | ref hx =>
        obtain ⟨ws, c1, q1⟩ := R.lst hx hl
        refine ⟨_, ws, rfl, .inl ⟨.of c1, fun p np => ?_⟩⟩
        obtain ⟨e3, R3⟩ := R.tup np ws
        exact P _ _ _ e3 R3 (.tup upd_same (q1.ext e3))
    · exact P.elim
  · exact P.elim
def gGcd (ds : List D) (h : Hq) : Rs D := match ds with
  | [.int i, .int j] => .ok (.int ((Nat.gcd i.natAbs j.natAbs : Nat) : Int)) h
  | _ => .no
theorem s_gcd : CaS K mg E gGcd rGcd := by
  intro ι h H ds vs Q R r P
  unfold gGcd at P
  split at P
  · obtain ⟨v, w, rfl, q1, q2⟩ := r.two
    cases q1; cases q2
    exact ⟨_, _, rfl, P ι H _ (Ext.refl _ _) R (.int _)⟩
  · exact P.elim
theorem m_abs (hm : X.mg "abs" = none) (ha : PMa X E (a :: as) fs) (hg : Gl X "abs" := by rfl) (he : starEach (a :: as) X.env = (false, eval a X.env) :: starEach as X.env := by rfl) (hpl : (backTo pos (starEach as X.env)).any (·.1) = false := by rfl) :
    PM X E (.Call (.Name "abs" p) (a :: as) [] pos) (eBi gAbs fs) := m_bi call_abs s_abs hm (by decide +kernel) ha hg (he := he) (hpl := hpl)
theorem m_max (hc : X.calm = true) (hm : X.mg "max" = none) (ha : PMa X E (a :: as) fs) (hg : Gl X "max" := by rfl) (he : starEach (a :: as) X.env = (false, eval a X.env) :: starEach as X.env := by rfl) (hpl : (backTo pos (starEach as X.env)).any (·.1) = false := by rfl) :
    PM X E (.Call (.Name "max" p) (a :: as) [] pos) (eBi gMax fs) := m_bi (call_max2 hc) s_max hm (by decide +kernel) ha hg (he := he) (hpl := hpl)
theorem m_min (hc : X.calm = true) (hm : X.mg "min" = none) (ha : PMa X E (a :: as) fs) (hg : Gl X "min" := by rfl) (he : starEach (a :: as) X.env = (false, eval a X.env) :: starEach as X.env := by rfl) (hpl : (backTo pos (starEach as X.env)).any (·.1) = false := by rfl) :
    PM X E (.Call (.Name "min" p) (a :: as) [] pos) (eBi gMin fs) := m_bi (call_min2 hc) s_min hm (by decide +kernel) ha hg (he := he) (hpl := hpl)
theorem m_len (hm : X.mg "len" = none) (ha : PMa X E (a :: as) fs) (hg : Gl X "len" := by rfl) (he : starEach (a :: as) X.env = (false, eval a X.env) :: starEach as X.env := by rfl) (hpl : (backTo pos (starEach as X.env)).any (·.1) = false := by rfl) :
    PM X E (.Call (.Name "len" p) (a :: as) [] pos) (eBi gLen fs) := m_bi call_len_seq s_len hm boot_len ha hg (he := he) (hpl := hpl)
theorem m_intc (hm : X.mg "int" = none) (ha : PMa X E (a :: as) fs) (hg : Gl X "int" := by rfl) (he : starEach (a :: as) X.env = (false, eval a X.env) :: starEach as X.env := by rfl) (hpl : (backTo pos (starEach as X.env)).any (·.1) = false := by rfl) :
    PM X E (.Call (.Name "int" p) (a :: as) [] pos) (eBi gInt fs) := m_ty call_int1 s_int hm (by decide +kernel) ha hg (he := he) (hpl := hpl)
theorem m_strc (hm : X.mg "str" = none) (ha : PMa X E (a :: as) fs) (hg : Gl X "str" := by rfl) (he : starEach (a :: as) X.env = (false, eval a X.env) :: starEach as X.env := by rfl) (hpl : (backTo pos (starEach as X.env)).any (·.1) = false := by rfl) :
    PM X E (.Call (.Name "str" p) (a :: as) [] pos) (eBi gStr fs) := m_ty call_str_int s_str hm (by decide +kernel) ha hg (he := he) (hpl := hpl)
theorem m_listc (hm : X.mg "list" = none) (ha : PMa X E (a :: as) fs) (hg : Gl X "list" := by rfl) (he : starEach (a :: as) X.env = (false, eval a X.env) :: starEach as X.env := by rfl) (hpl : (backTo pos (starEach as X.env)).any (·.1) = false := by rfl) :
    PM X E (.Call (.Name "list" p) (a :: as) [] pos) (eBi gList fs) := m_ty call_list_of s_list hm (by decide +kernel) ha hg (he := he) (hpl := hpl)
theorem m_tuplec (hm : X.mg "tuple" = none) (ha : PMa X E (a :: as) fs) (hg : Gl X "tuple" := by rfl) (he : starEach (a :: as) X.env = (false, eval a X.env) :: starEach as X.env := by rfl) (hpl : (backTo pos (starEach as X.env)).any (·.1) = false := by rfl) :
    PM X E (.Call (.Name "tuple" p) (a :: as) [] pos) (eBi gTuple fs) := m_ty call_tuple_of s_tuple hm (by decide +kernel) ha hg (he := he) (hpl := hpl)
theorem m_gcd (hm : X.mg "gcd" = some (.builtin "math.gcd")) (ha : PMa X E (a :: as) fs) (hg : Gl X "gcd" := by rfl) (he : starEach (a :: as) X.env = (false, eval a X.env) :: starEach as X.env := by rfl) (hpl : (backTo pos (starEach as X.env)).any (·.1) = false := by rfl) :
    PM X E (.Call (.Name "gcd" p) (a :: as) [] pos) (eBi gGcd fs) := m_bf cr_gcd s_gcd hm ha hg (he := he) (hpl := hpl)
end

/-! ### isinstance -/
inductive Tn where
  | int | str | bool | list | tuple | dict
def Tn.s : Tn → String
  | .int => "int" | .str => "str" | .bool => "bool" | .list => "list" | .tuple => "tuple" | .dict => "dict"
/-- the type's name of a plain thing -/
def tyD (h : Hq) : D → Option String
  | .non => some "NoneType"
  | .bl _ => some "bool"
  | .int _ => some "int"
  | .str _ => some "str"
  | .tup _ => some "tuple"
  | .scr _ => some "list"
  | .opq => none
  | .adr _ => none
  | .ty _ => none
  | .ref m => match h[m]? with
    | some (.lst _) => some "list"
    | some (.dct _) => some "dict"
    | none => none
theorem tyD_rel {K : PySem.W.Frag} {ι : List Addr} {h : Hq} {H : Hp} (R : HR K ι h H) {v : V} {d : D} {n : String} (r : VR K ι H v d) (e : tyD h d = some n) : TyX K H v (.type n) := by
  cases r with
  | non => cases e; exact .base .non
  | bl b => cases e; exact .base (.bl b)
  | int i => cases e; exact .base (.int i)
  | str x => cases e; exact .base (.str x)
  | tup hx _ => cases e; exact .base (.tup hx)
  | opq v => cases e
  | adr a => cases e
  | ty n => cases e
  | scr hx =>
    cases e
    rcases hx with ⟨o, hx⟩ | ⟨o, its, m, hk, hc, _⟩
    · exact .base (.frz hx)
    · exact .kList hk hc
  | ref hx =>
    rename_i a m
    have e' : (match h[m]? with | some (.lst _) => some "list" | some (.dct _) => some "dict" | none => none) = some n := e
    split at e'
    · rename_i l q
      cases e'
      obtain ⟨vs, c1, _⟩ := R.cells m _ a q hx
      exact .base (.lst c1)
    · rename_i l q
      cases e'
      obtain ⟨vs, c1, _⟩ := R.cells m _ a q hx
      exact .base (.dK c1)
    · cases e'
/-- isinstance(x, T): what the library's own look at built-in classes says -/
def gIsi (c : String) (d : D) (h : Hq) : Rs D := match tyD h d with
  | some n => match kitB n c with
    | some b => .ok (.bl b) h
    | none => .no
  | none => .no
def eIsi (c : String) (f : Sx) : Sx := fun fr h => (f fr h).bind fun d h1 => gIsi c d h1
section
variable {X : Cx} {E : XK} {a b c : Expr} {fa : Sx} {p pos q : Pos} {x : Str}
theorem m_isi {T : String} (hi : X.mg "isinstance" = none) (hx : X.mg x = none) (hv : bootBuiltins x = some (.type T)) (ha : PM X E a fa) (hg : Gl X "isinstance" := by rfl) (hgx : Gl X x := by rfl) (hn : x ≠ "__name__" := by decide) (hdb : (x == ("__debug__" : Str)) = false := by decide)
    (he : starEach [a, .Name x q] X.env = (false, eval a X.env) :: starEach [.Name x q] X.env := by rfl) (he2 : starEach [.Name x q] X.env = (false, eval (.Name x q) X.env) :: starEach [] X.env := by rfl)
    (hpl : (backTo pos (starEach [.Name x q] X.env)).any (·.1) = false := by rfl) :
    PM X E (.Call (.Name "isinstance" p) [a, .Name x q] [] pos) (eIsi T fa) := by
  have h1 := pe_callB (p := p) (pos := pos) call_isi hg hi (by decide +kernel) (pa_cons ha (pa_cons (pe_bltn (v := .ty T) hgx hx hv rfl hn hdb) pa_nil he2) he) (he := he) (hpl := hpl)
  refine pe_imp h1 fun σ H Q ⟨ι, h, fr, R, F, P⟩ => ?_
  refine ⟨ι, h, fr, R, F, Po.mono ?_ (Po.bind P)⟩
  rintro v H1 ⟨ι1, h1, d, e1, R1, r1, P1⟩
  unfold gIsi at P1
  split at P1
  · rename_i n hn
    split at P1
    · rename_i b hb
      exact ⟨v, .ty T, .type n, .type T, b, rfl, .ty T, tyD_rel R1 r1 hn, kit_ty hb, P1 ι1 H1 _ (Ext.refl _ _) R1 (.bl b)⟩
    · exact P1.elim
  · exact P1.elim
/-- isinstance(x, (S, T)) -/
def eIsi2 (c1 c2 : String) (f : Sx) : Sx := fun fr h => (f fr h).bind fun d h1 => match tyD h1 d with
  | some n => match kitB n c1, kitB n c2 with
    | some b, some b2 => .ok (.bl (b || b2)) h1
    | _, _ => .no
  | none => .no
theorem m_isi2 {T S : String} {y : Str} {q2 q3 : Pos} {kk : Nat} (hi : X.mg "isinstance" = none) (hx : X.mg x = none) (hv : bootBuiltins x = some (.type T)) (hy : X.mg y = none) (hvy : bootBuiltins y = some (.type S)) (ha : PM X E a fa) (hg : Gl X "isinstance" := by rfl) (hgx : Gl X x := by rfl) (hgy : Gl X y := by rfl)
    (hn : x ≠ "__name__" := by decide) (hdb : (x == ("__debug__" : Str)) = false := by decide) (hn2 : y ≠ "__name__" := by decide) (hdb2 : (y == ("__debug__" : Str)) = false := by decide)
    (he : starEach [a, .Tuple [.Name x q, .Name y q2] kk q3] X.env = (false, eval a X.env) :: starEach [.Tuple [.Name x q, .Name y q2] kk q3] X.env := by rfl)
    (he2 : starEach [.Tuple [.Name x q, .Name y q2] kk q3] X.env = (false, eval (.Tuple [.Name x q, .Name y q2] kk q3) X.env) :: starEach [] X.env := by rfl)
    (he3 : starEach [.Name x q, .Name y q2] X.env = (false, eval (.Name x q) X.env) :: starEach [.Name y q2] X.env := by rfl) (he4 : starEach [.Name y q2] X.env = (false, eval (.Name y q2) X.env) :: starEach [] X.env := by rfl)
    (hpl : (backTo pos (starEach [.Tuple [.Name x q, .Name y q2] kk q3] X.env)).any (·.1) = false := by rfl) :
    PM X E (.Call (.Name "isinstance" p) [a, .Tuple [.Name x q, .Name y q2] kk q3] [] pos) (eIsi2 T S fa) := by
  have h0 := pe_tup (x1 := kk) (pos := q3) (pa_cons (pe_bltn (v := .ty T) (pos := q) hgx hx hv rfl hn hdb) (pa_cons (pe_bltn (v := .ty S) (pos := q2) hgy hy hvy rfl hn2 hdb2) pa_nil he4) he3)
  have h1 := pe_callB (p := p) (pos := pos) call_isiT hg hi (by decide +kernel) (pa_cons ha (pa_cons h0 pa_nil he2) he) (he := he) (hpl := hpl)
  refine pe_imp h1 fun σ H Q ⟨ι, h, fr, R, F, P⟩ => ?_
  refine ⟨ι, h, fr, R, F, Po.mono ?_ (Po.bind P)⟩
  rintro v H1 ⟨ι1, h1, d, e1, R1, r1, P1⟩
  refine ⟨by show 2 ≤ sizeLine; rw [line_eq]; omega, fun t nt => ?_⟩
  obtain ⟨e2, R2⟩ := R1.tup nt [.ty T, .ty S]
  split at P1
  · rename_i n hn
    split at P1
    · rename_i b b2 hb hb2
      have hn' : TyX X.K (upd H1 t (.tup [.ty T, .ty S])) v (.type n) := tyD_rel R2 (r1.ext e2) hn
      refine ⟨v, t, [.ty T, .ty S], .type n, [.type T, .type S], b || b2, rfl, upd_same, .cons (.ty T) (.cons (.ty S) .nil), hn', ?_, P1 ι1 _ _ e2 R2 (.bl _)⟩
      refine kitAny_cons (kit_ty hb) (fun e => ?_) fun e => by rw [e]; rfl
      rw [e, Bool.false_or]
      refine kitAny_cons (kit_ty hb2) (fun e => ?_) fun e => by rw [e]
      rw [e]; exact kitAny_nil
    · exact P1.elim
  · exact P1.elim
end
end MI
end

section
set_option Elab.async false
set_option linter.all false
set_option autoImplicit false
set_option maxRecDepth 100000
set_option maxHeartbeats 4000000
namespace MI
open PySem L2

/-! ### statements -/
inductive SR where
  | nx (fr : Fr) (h : Hq) | rt (d : D) (h : Hq) | bk (fr : Fr) (h : Hq) | ct (fr : Fr) (h : Hq) | exc (x : Xn) (h : Hq) | no
abbrev Ss := Fr → Hq → SR
def SR.then (r : SR) (g : Ss) : SR := match r with
  | .nx fr h => g fr h
  | r => r
/-- an expression first -/
def Rs.into {α : Type} (r : Rs α) (f : α → Hq → SR) : SR := match r with
  | .ok a h => f a h
  | .exc x h => .exc x h
  | .no => .no
@[simp] theorem Rs.into_ok {α : Type} (a : α) (h : Hq) (f : α → Hq → SR) : (Rs.ok a h).into f = f a h := rfl
@[simp] theorem Rs.into_exc {α : Type} (x : Xn) (h : Hq) (f : α → Hq → SR) : (Rs.exc x h : Rs α).into f = .exc x h := rfl
@[simp] theorem Rs.into_no {α : Type} (f : α → Hq → SR) : (Rs.no : Rs α).into f = .no := rfl
@[simp] theorem SR.then_nx (fr : Fr) (h : Hq) (g : Ss) : (SR.nx fr h).then g = g fr h := rfl
@[simp] theorem SR.then_rt (d : D) (h : Hq) (g : Ss) : (SR.rt d h).then g = .rt d h := rfl
@[simp] theorem SR.then_exc (x : Xn) (h : Hq) (g : Ss) : (SR.exc x h).then g = .exc x h := rfl
@[simp] theorem SR.then_no (g : Ss) : SR.no.then g = .no := rfl
@[simp] theorem SR.then_bk (fr : Fr) (h : Hq) (g : Ss) : (SR.bk fr h).then g = .bk fr h := rfl
@[simp] theorem SR.then_ct (fr : Fr) (h : Hq) (g : Ss) : (SR.ct fr h).then g = .ct fr h := rfl
def SPo (K : PySem.W.Frag) (mg : Str → Option Value) (ι : List Addr) (H : Hp) (Z : Ends) (E : XK) : SR → Prop
  | .nx fr h' => ∀ ι' H' σ', Ext ι H ι' H' → HR K ι' h' H' → FR K ι' H' σ' fr → Z.nx σ' H'
  | .rt d h' => ∀ ι' H' v, Ext ι H ι' H' → HR K ι' h' H' → VR K ι' H' v d → Z.rt v H'
  | .bk fr h' => ∀ ι' H' σ', Ext ι H ι' H' → HR K ι' h' H' → FR K ι' H' σ' fr → Z.bk σ' H'
  | .ct fr h' => ∀ ι' H' σ', Ext ι H ι' H' → HR K ι' h' H' → FR K ι' H' σ' fr → Z.ct σ' H'
  | .exc x h' => ∀ ι' H' cls d, Ext ι H ι' H' → HR K ι' h' H' → XR K mg ι' H' x cls d → E cls d H'
  | .no => False
section
variable {K : PySem.W.Frag} {mg : Str → Option Value} {ι ι' : List Addr} {H H' : Hp} {E : XK} {Z Z' : Ends}
theorem SPo.ext (e : Ext ι H ι' H') : ∀ {r : SR}, SPo K mg ι H Z E r → SPo K mg ι' H' Z E r
  | .nx _ _, h => fun a b c e2 => h a b c (e.trans e2)
  | .rt _ _, h => fun a b c e2 => h a b c (e.trans e2)
  | .bk _ _, h => fun a b c e2 => h a b c (e.trans e2)
  | .ct _ _, h => fun a b c e2 => h a b c (e.trans e2)
  | .exc _ _, h => fun a b c d e2 => h a b c d (e.trans e2)
  | .no, h => h
/-- what a statement's rest wants, as what is wanted behind it -/
def Rest (K : PySem.W.Frag) (mg : Str → Option Value) (ι : List Addr) (H : Hp) (Z : Ends) (E : XK) (g : Ss) (σ : L2.St) (H1 : Hp) : Prop :=
  ∃ ι1 h1 fr, Ext ι H ι1 H1 ∧ HR K ι1 h1 H1 ∧ FR K ι1 H1 σ fr ∧ SPo K mg ι1 H1 Z E (g fr h1)
theorem SPo.then {g : Ss} : ∀ {r : SR}, SPo K mg ι H Z E (r.then g) → SPo K mg ι H { Z with nx := Rest K mg ι H Z E g } E r
  | .nx fr h1, h => fun i1 H1 σ e R F => ⟨i1, h1, fr, e, R, F, SPo.ext e h⟩
  | .rt _ _, h => h
  | .bk _ _, h => h
  | .ct _ _, h => h
  | .exc _ _, h => h
  | .no, h => h
theorem Po.into {α β : Type} {R : List Addr → Hp → β → α → Prop} {f : α → Hq → SR} : ∀ {r : Rs α}, SPo K mg ι H Z E (r.into f) →
    Po K mg R ι H (fun v H1 => ∃ ι1 h1 a, Ext ι H ι1 H1 ∧ HR K ι1 h1 H1 ∧ R ι1 H1 v a ∧ SPo K mg ι1 H1 Z E (f a h1)) E r
  | .ok a h1, h => fun i1 H1 v e1 r1 q => ⟨i1, h1, a, e1, r1, q, SPo.ext e1 h⟩
  | .exc _ _, h => h
  | .no, h => h
end
def tMs (K : PySem.W.Frag) (mg : Str → Option Value) (E : XK) (f : Ss) : TS := fun Z σ H => ∃ ι h fr, HR K ι h H ∧ FR K ι H σ fr ∧ SPo K mg ι H Z E (f fr h)
abbrev PMs (X : Cx) (E : XK) (st : Stmt) (f : Ss) : Prop := PS X st (tMs X.K X.mg E f)
abbrev PMb' (X : Cx) (E : XK) (st : List Stmt) (f : Ss) : Prop := PSs X st (tMs X.K X.mg E f)
section
variable {X : Cx}
theorem ps_imp {st : Stmt} {t t' : TS} (h : PS X st t) (m : ∀ Z σ H, t' Z σ H → t Z σ H) : PS X st t' := ⟨fun pins s σ H Z I q => h.run pins s σ H Z I (m Z σ H q)⟩
theorem pss_imp {st : List Stmt} {t t' : TS} (h : PSs X st t) (m : ∀ Z σ H, t' Z σ H → t Z σ H) : PSs X st t' := ⟨fun pins s σ H Z I q => h.run pins s σ H Z I (m Z σ H q)⟩
variable {E : XK} {st : Stmt} {rest : List Stmt} {f g : Ss} {e a b c : Expr} {fe : Sx} {pos : Pos}
def sEnd : Ss := fun fr h => .nx fr h
def sSeq (f g : Ss) : Ss := fun fr h => (f fr h).then g
theorem m_end : PMb' X E [] sEnd := pss_imp pss_nil fun Z σ H ⟨ι, h, fr, R, F, P⟩ => P ι H σ (Ext.refl _ _) R F
theorem m_seq (h1 : PMs X E st f) (h2 : PMb' X E rest g) : PMb' X E (st :: rest) (sSeq f g) := pss_imp (pss_cons h1 h2) fun Z σ H ⟨ι, h, fr, R, F, P⟩ => by
  refine ⟨ι, h, fr, R, F, ?_⟩
  have q := SPo.then P
  revert q
  cases f fr h with
  | nx fr1 h1 =>
    intro q i1 H1 σ1 e1 R1 F1
    obtain ⟨i2, h2, fr2, e2, R2, F2, P2⟩ := q i1 H1 σ1 e1 R1 F1
    exact ⟨i2, h2, fr2, R2, F2, P2⟩
  | rt d h1 => exact fun q => q
  | bk fr1 h1 => exact fun q => q
  | ct fr1 h1 => exact fun q => q
  | exc x h1 => exact fun q => q
  | no => exact fun q => q
theorem m_pass : PMs X E (.Pass pos) sEnd := ps_imp ps_pass fun Z σ H ⟨ι, h, fr, R, F, P⟩ => P ι H σ (Ext.refl _ _) R F
def sBreak : Ss := fun fr h => .bk fr h
def sCont : Ss := fun fr h => .ct fr h
theorem m_break : PMs X E (.Break pos) sBreak := ps_imp ps_break fun Z σ H ⟨ι, h, fr, R, F, P⟩ => P ι H σ (Ext.refl _ _) R F
theorem m_cont : PMs X E (.Continue pos) sCont := ps_imp ps_continue fun Z σ H ⟨ι, h, fr, R, F, P⟩ => P ι H σ (Ext.refl _ _) R F
theorem m_doc {x : Str} {j : Nat} {pos' : Pos} : PMs X E (.Expr (.Constant (.str x) j pos) pos') sEnd := ps_imp ps_doc fun Z σ H ⟨ι, h, fr, R, F, P⟩ => P ι H σ (Ext.refl _ _) R F
def sRet (f : Sx) : Ss := fun fr h => (f fr h).into fun d h1 => .rt d h1
theorem m_ret (ha : PM X E e fe) : PMs X E (.Return (some e) pos) (sRet fe) := ps_imp (ps_ret ha) fun Z σ H ⟨ι, h, fr, R, F, P⟩ => by
  refine ⟨ι, h, fr, R, F, Po.mono ?_ (Po.into P)⟩
  rintro v H1 ⟨i1, h1, d, e1, R1, r1, P1⟩
  exact P1 i1 H1 v (Ext.refl _ _) R1 r1
def sExpr (f : Sx) : Ss := fun fr h => (f fr h).into fun _ h1 => .nx fr h1
theorem m_expr (ha : PM X E e fe) (hs : swapsWith e none pos.line X.env = pure false := by rfl) : PMs X E (.Expr e pos) (sExpr fe) := ps_imp (ps_expr ha hs) fun Z σ H ⟨ι, h, fr, R, F, P⟩ => by
  refine ⟨ι, h, fr, R, F, Po.mono ?_ (Po.into P)⟩
  rintro v H1 ⟨i1, h1, d, e1, R1, r1, P1⟩
  exact P1 i1 H1 σ (Ext.refl _ _) R1 (F.ext e1)
def sIf (c : Sb) (f g : Ss) : Ss := fun fr h => (c fr h).into fun b h1 => if b = true then f fr h1 else g fr h1
theorem m_ifs {fc : Sb} {bs cs : List Stmt} (hc : PMb X E c fc) (hb : PMb' X E bs f) (ho : PMb' X E cs g) : PMs X E (.If c bs cs pos) (sIf fc f g) := ps_imp (ps_if hc hb ho) fun Z σ H ⟨ι, h, fr, R, F, P⟩ => by
  refine ⟨ι, h, fr, R, F, Po.mono ?_ (Po.into P)⟩
  rintro v H1 ⟨i1, h1, d, e1, R1, r1, P1⟩
  subst r1
  cases v with
  | true => exact ⟨i1, h1, fr, R1, F.ext e1, P1⟩
  | false => exact ⟨i1, h1, fr, R1, F.ext e1, P1⟩

/-! ### stores -/
abbrev Tg := D → Fr → Option Fr
def TgS (K : PySem.W.Frag) (g : TG) (t : Tg) : Prop :=
  ∀ (ι : List Addr) (h : Hq) (H : Hp) (v : V) (d : D) (σ : L2.St) (fr fr' : Fr) (Q : L2.St → Hp → Prop), HR K ι h H → VR K ι H v d → FR K ι H σ fr → t d fr = some fr' → (∀ σ', FR K ι H σ' fr' → Q σ' H) → g v σ H Q
structure PMg (X : Cx) (tg : Expr) (t : Tg) : Prop where
  ex : ∃ g, PG X tg g ∧ TgS X.K g t
def tgN (i : Nat) : Tg := fun d fr => some (fr.set i (some d))
theorem tgN_s {K : PySem.W.Frag} (i : Nat) : TgS K (gName i) (tgN i) := by
  intro ι h H v d σ fr fr' Q R r F e k
  cases e
  exact k _ (F.set r)
theorem m_tgN (i : Nat) {x : Str} (nd : X.N.Nodup) (hi : X.N[i]? = some x := by rfl) (hx : Loc X.env.scope x := by first | exact Or.inl rfl | exact Or.inr rfl) (hf : X.fn x = true ∨ X.env.scope.names.lookup x = some .local := by first | exact .inl rfl | exact .inr rfl) :
    PMg X (.Name x pos) (tgN i) := ⟨_, pg_name nd hi hx hf, tgN_s i⟩
/-- a, b, .. from a tuple -/
def setAll : List Nat → List D → Fr → Option Fr
  | [], [], fr => some fr
  | i :: is, d :: ds, fr => setAll is ds (fr.set i (some d))
  | _, _, _ => none
def tgT (is : List Nat) : Tg := fun d fr => match d with
  | .tup l => setAll is l fr
  | _ => none
structure PMgs (X : Cx) (tgs : List Expr) (is : List Nat) : Prop where
  ex : ∃ g, PGs X tgs g ∧ ∀ (ι : List Addr) (h : Hq) (H : Hp) (vs : List V) (ds : List D) (σ : L2.St) (fr fr' : Fr) (Q : L2.St → Hp → Prop), HR X.K ι h H → VRs X.K ι H vs ds → FR X.K ι H σ fr → setAll is ds fr = some fr' → (∀ σ', FR X.K ι H σ' fr' → Q σ' H) → g vs σ H Q
theorem m_gnil : PMgs X [] [] := ⟨_, pgs_nil, fun ι h H vs ds σ fr fr' Q R r F e k => by
  cases r with
  | nil => cases e; exact ⟨rfl, k σ F⟩
  | cons _ _ => cases e⟩
theorem m_gcons (i : Nat) {x : Str} {ts : List Expr} {is : List Nat} (nd : X.N.Nodup) (ht : PMgs X ts is) (hi : X.N[i]? = some x := by rfl) (hx : Loc X.env.scope x := by first | exact Or.inl rfl | exact Or.inr rfl)
    (hf : X.fn x = true ∨ X.env.scope.names.lookup x = some .local := by first | exact .inl rfl | exact .inr rfl) (hs : (assignEach (.Name x pos :: ts) X.env).map (·.2) = assign (.Name x pos) X.env :: (assignEach ts X.env).map (·.2) := by rfl) :
    PMgs X (.Name x pos :: ts) (i :: is) := by
  obtain ⟨g, hg, hgs⟩ := ht.ex
  refine ⟨_, pgs_cons (pg_name nd hi hx hf) hg hs, fun ι h H vs ds σ fr fr' Q R r F e k => ?_⟩
  cases r with
  | nil => cases e
  | cons r1 r2 => exact ⟨_, _, rfl, hgs ι h H _ _ _ _ _ Q R r2 (F.set r1) e k⟩
theorem setAll_len : ∀ {is : List Nat} {ds : List D} {fr fr' : Fr}, setAll is ds fr = some fr' → ds.length = is.length
  | [], [], _, _, _ => rfl
  | [], _ :: _, _, _, e => by cases e
  | _ :: _, [], _, _, e => by cases e
  | _ :: is, _ :: ds, _, _, e => by rw [List.length_cons, List.length_cons, setAll_len (is := is) (ds := ds) e]
theorem m_tgT {ts : List Expr} {is : List Nat} {k : Nat} (hc : X.calm = true) (ht : PMgs X ts is) (hn : (assignEach ts X.env).length = is.length := by rfl) (hst : (assignEach ts X.env).findIdx? (·.1) = none := by rfl) : PMg X (.Tuple ts k pos) (tgT is) := by
  obtain ⟨g, hg, hgs⟩ := ht.ex
  refine ⟨_, pg_tup hc hg hn hst, fun ι h H v d σ fr fr' Q R r F e kk => ?_⟩
  unfold tgT at e
  split at e
  · cases r with
    | tup hx q =>
      refine ⟨_, _, rfl, .of hx, by rw [q.length]; exact setAll_len e, ?_⟩
      exact hgs ι h H _ _ _ _ _ Q R q F e kk
  · cases e
def sAsg (f : Sx) (t : Tg) : Ss := fun fr h => (f fr h).into fun d h1 => match t d fr with
  | some fr' => .nx fr' h1
  | none => .no
theorem asg_in {K : PySem.W.Frag} {mg : Str → Option Value} {gg : TG} {t : Tg} (hs : TgS K gg t) {Z : Ends} {σ : L2.St} {H : Hp} (q : tMs K mg E (sAsg fe t) Z σ H) : tAsg (tM K mg E fe) gg Z σ H := by
  obtain ⟨ι, h, fr, R, F, P⟩ := q
  refine ⟨ι, h, fr, R, F, Po.mono ?_ (Po.into P)⟩
  rintro v H1 ⟨i1, h1, d, e1, R1, r1, P1⟩
  split at P1
  · rename_i fr' e
    exact hs i1 h1 H1 v d σ fr fr' _ R1 r1 (F.ext e1) e fun σ' F' => P1 i1 H1 σ' (Ext.refl _ _) R1 F'
  · exact P1.elim
/-- name = e -/
theorem m_set (i : Nat) {x : Str} {pos' : Pos} (nd : X.N.Nodup) (ha : PM X E e fe) (hi : X.N[i]? = some x := by rfl) (hx : Loc X.env.scope x := by first | exact Or.inl rfl | exact Or.inr rfl) (hs : swapsWith e (some (.Name x pos')) pos.line X.env = pure false := by rfl)
    (hf : X.fn x = true ∨ X.env.scope.names.lookup x = some .local := by first | exact .inl rfl | exact .inr rfl) : PMs X E (.Assign [.Name x pos'] e pos) (sAsg fe (tgN i)) := ps_imp (ps_set nd hi hx ha hs hf) fun _ _ _ q => asg_in (tgN_s i) q
/-- a target of another form = e -/
theorem m_asg {tg : Expr} {t : Tg} (ha : PM X E e fe) (ht : PMg X tg t) (hs : swapsWithSole [tg] e pos.line X.env = pure false := by rfl) (hw : swappedStores [tg] e X.env = pure none := by rfl) (h1 : (assignEach [tg] X.env).map (·.2) = [assign tg X.env] := by rfl) :
    PMs X E (.Assign [tg] e pos) (sAsg fe t) := by
  obtain ⟨g, hg, hgs⟩ := ht.ex
  exact ps_imp (ps_asg ha hg hs hw h1) fun _ _ _ q => asg_in hgs q
/-- a, b = x, y -/
def sPar (i j : Nat) (fs : Sa) : Ss := fun fr h => (fs fr h).into fun ds h1 => match ds with
  | [d, e] => .nx ((fr.set i (some d)).set j (some e)) h1
  | _ => .no
theorem m_par (i j : Nat) {x y : Str} {fs : Sa} {px py pt : Pos} {kt k2 : Nat} {pt2 : Pos} (wh : Wh X E) (ha : PMa X E [a, b] fs) (hi : X.N[i]? = some x := by rfl) (hj : X.N[j]? = some y := by rfl) (hij : i ≠ j := by decide)
    (hx : X.env.scope.names.lookup x = some .local := by rfl) (hy : X.env.scope.names.lookup y = some .local := by rfl) (hw : swappedStores [.Tuple [.Name x px, .Name y py] kt pt] (.Tuple [a, b] k2 pt2) X.env = pure (some [x, y]) := by rfl)
    (hs : swapsWithSole [.Tuple [.Name x px, .Name y py] kt pt] (.Tuple [a, b] k2 pt2) pos.line X.env = pure false := by rfl) :
    PMs X E (.Assign [.Tuple [.Name x px, .Name y py] kt pt] (.Tuple [a, b] k2 pt2) pos) (sPar i j fs) := ps_imp (ps_par wh.calm wh.nd hi hj hij hx hy ha hw hs) fun Z σ H ⟨ι, h, fr, R, F, P⟩ => by
  refine ⟨ι, h, fr, R, F, Po.mono ?_ (Po.into P)⟩
  rintro vs H1 ⟨i1, h1, ds, e1, R1, r1, P1⟩
  split at P1
  · obtain ⟨v, w, rfl, q1, q2⟩ := r1.two
    exact ⟨v, w, rfl, P1 i1 H1 _ (Ext.refl _ _) R1 (((F.ext e1).set q1).set q2)⟩
  · exact P1.elim
/-- xs[k] = e -/
def sPut (fe fo fi : Sx) : Ss := fun fr h => (fe fr h).into fun d h1 => (fo fr h1).into fun o h2 => (fi fr h2).into fun k h3 => match o, k with
  | .ref m, .int j => match lstAt h3 m with
    | some l => match ixN l.length j with
      | some n => .nx fr (h3.set m (.lst (l.set n d)))
      | none => .no
    | none => .no
  | _, _ => .no
theorem m_put {fo fi : Sx} {p2 : Pos} (ha : PM X E e fe) (ho : PM X E a fo) (hi : PM X E b fi) (hh : ∀ v, assign (.Subscript a b p2) X.env v = (do
      let ov ← holding [v] (eval a X.env)
      let iv ← holding [v, ov] (eval b X.env)
      standAt p2
      holding [v, ov, iv] (setItem ov iv v)
      release [v, ov, iv] []) := by intro _; rfl) (hs : swapsWithSole [.Subscript a b p2] e pos.line X.env = pure false := by rfl) (hw : swappedStores [.Subscript a b p2] e X.env = pure none := by rfl)
    (h1 : (assignEach [.Subscript a b p2] X.env).map (·.2) = [assign (.Subscript a b p2) X.env] := by rfl) :
    PMs X E (.Assign [.Subscript a b p2] e pos) (sPut fe fo fi) := ps_imp (ps_asg ha (pg_sub ho hi set_list hh) hs hw h1) fun Z σ H ⟨ι, h, fr, R, F, P⟩ => by
  refine ⟨ι, h, fr, R, F, Po.mono ?_ (Po.into P)⟩
  rintro v H1 ⟨i1, h1, d, e1, R1, r1, P1⟩
  refine ⟨i1, h1, fr, R1, F.ext e1, Po.mono ?_ (Po.into P1)⟩
  rintro o H2 ⟨i2, h2, od, e2, R2, r2, P2⟩
  refine ⟨i2, h2, fr, R2, (F.ext e1).ext e2, Po.mono ?_ (Po.into P2)⟩
  rintro i H3 ⟨i3, h3, kd, e3, R3, r3, P3⟩
  split at P3
  · rename_i m j
    split at P3
    · rename_i _ l hl
      split at P3
      · rename_i _ n hn
        cases r3
        cases r2.ext e3 with
        | ref hx =>
          rename_i p
          obtain ⟨vs, c1, q⟩ := R3.lst hx hl
          have rv := (r1.ext e2).ext e3
          obtain ⟨e4, R4⟩ := R3.put (lstAt_some hl) hx (o := .lst (vs.set n v)) (c := .lst (l.set n d)) fun H' e z => ⟨_, z, (VRs.set rv n q).ext e⟩
          exact ⟨p, vs, j, n, rfl, rfl, c1, by rw [q.length]; exact hn, P3 i3 _ σ e4 R4 ((((F.ext e1).ext e2).ext e3).ext e4)⟩
      · exact P3.elim
    · exact P3.elim
  · exact P3.elim
end
end MI
end

section
set_option Elab.async false
set_option linter.all false
set_option autoImplicit false
set_option maxRecDepth 100000
set_option maxHeartbeats 4000000
namespace MI
open PySem L2

/-! ### loops -/
/-- n turns from the i-th on: get tells a turn's item (none: it can't be told), fin whether the walk ends where it should -/
def turns (get : Nat → Hq → Option D) (fin : Nat → Hq → Bool) (t : Tg) (b : Ss) : Nat → Nat → Ss
  | 0, i, fr, h => if fin i h = true then .nx fr h else .no
  | n + 1, i, fr, h => match get i h with
    | none => .no
    | some d => match t d fr with
      | none => .no
      | some fr1 => match b fr1 h with
        | .nx fr2 h2 => turns get fin t b n (i + 1) fr2 h2
        | .ct fr2 h2 => turns get fin t b n (i + 1) fr2 h2
        | .bk fr2 h2 => .nx fr2 h2
        | .rt d h2 => .rt d h2
        | .exc x h2 => .exc x h2
        | .no => .no
/-- an iterator J (over the heap as it lies) walks as get and fin tell -/
structure Wk (K : PySem.W.Frag) (ι : List Addr) (H0 : Hp) (J : It) (get : Nat → Hq → Option D) (fin : Nat → Hq → Bool) : Prop where
  go : ∀ (i : Nat) (ι' : List Addr) (h : Hq) (H : Hp) (d : D), Ext ι H0 ι' H → HR K ι' h H → get i h = some d → J.go i H ∧ ∀ x H', J.yld i H x H' → ∃ ι2, Ext ι' H ι2 H' ∧ HR K ι2 h H' ∧ VR K ι2 H' x d
  stop : ∀ (i : Nat) (ι' : List Addr) (h : Hq) (H : Hp), Ext ι H0 ι' H → HR K ι' h H → fin i h = true → J.stop i H
section
variable {K : PySem.W.Frag} {mg : Str → Option Value} {E : XK} {Z : Ends}
/-- the loop's wish, from the worth of its turns -/
theorem for_in {ι : List Addr} {H0 : Hp} {J : It} {get : Nat → Hq → Option D} {fin : Nat → Hq → Bool} {t : Tg} {b : Ss} {gg : TG} {tb : TS} (w : Wk K ι H0 J get fin) (hg : TgS K gg t)
    (hb : ∀ (Z' : Ends) (σ : L2.St) (H : Hp), tMs K mg E b Z' σ H → tb Z' σ H) {n : Nat} {h0 : Hq} {fr0 : Fr} {σ0 : L2.St} (R0 : HR K ι h0 H0) (F0 : FR K ι H0 σ0 fr0) (P0 : SPo K mg ι H0 Z E (turns get fin t b n 0 fr0 h0)) :
    ∃ W : Nat → Nat → L2.St → Hp → Prop, (∃ m, W 0 m σ0 H0) ∧ ∀ i m σ H, W i m σ H →
      (J.stop i H ∧ Z.nx σ H) ∨ (J.go i H ∧ ∃ N : L2.St → Hp → Prop, (∀ σ' H', N σ' H' → ∃ m', m' < m ∧ W (i + 1) m' σ' H') ∧ ∀ x H', J.yld i H x H' → gg x σ H' fun σ2 H2 => tb { Z with nx := N, ct := N, bk := Z.nx } σ2 H2) := by
  refine ⟨fun i m σ H => ∃ ι1 h fr, Ext ι H0 ι1 H ∧ HR K ι1 h H ∧ FR K ι1 H σ fr ∧ SPo K mg ι1 H Z E (turns get fin t b m i fr h), ⟨n, ι, h0, fr0, Ext.refl _ _, R0, F0, P0⟩, ?_⟩
  rintro i m σ H ⟨ι1, h, fr, e1, R, F, P⟩
  cases m with
  | zero =>
    unfold turns at P
    split at P
    · rename_i hf
      exact .inl ⟨w.stop i ι1 h H e1 R hf, P ι1 H σ (Ext.refl _ _) R F⟩
    · exact P.elim
  | succ m =>
    unfold turns at P
    split at P
    · exact P.elim
    · rename_i _ d hd
      split at P
      · exact P.elim
      · rename_i _ fr1 ht
        obtain ⟨g1, g2⟩ := w.go i ι1 h H d e1 R hd
        refine .inr ⟨g1, fun σ' H' => ∃ ι2 h2 fr2, Ext ι H0 ι2 H' ∧ HR K ι2 h2 H' ∧ FR K ι2 H' σ' fr2 ∧ SPo K mg ι2 H' Z E (turns get fin t b m (i + 1) fr2 h2), fun σ' H' q => ⟨m, Nat.lt_succ_self m, q⟩, fun x H' y => ?_⟩
        obtain ⟨ι2, e2, R2, r2⟩ := g2 x H' y
        refine hg ι2 h H' x d σ fr fr1 _ R2 r2 (F.ext e2) ht fun σ2 F2 => hb _ _ _ ⟨ι2, h, fr1, R2, F2, ?_⟩
        have P2 := SPo.ext e2 P
        revert P2
        cases b fr1 h with
        | nx fr3 h3 => exact fun q ι3 H3 σ3 e3 R3 F3 => ⟨ι3, h3, fr3, (e1.trans e2).trans e3, R3, F3, SPo.ext e3 q⟩
        | ct fr3 h3 => exact fun q ι3 H3 σ3 e3 R3 F3 => ⟨ι3, h3, fr3, (e1.trans e2).trans e3, R3, F3, SPo.ext e3 q⟩
        | bk fr3 h3 => exact fun q => q
        | rt d3 h3 => exact fun q => q
        | exc x3 h3 => exact fun q => q
        | no => exact fun q => q
end
/-- what is walked: how many turns, each turn's item, the end -/
structure Src where
  n : Nat
  get : Nat → Hq → Option D
  fin : Nat → Hq → Bool
abbrev Si := Fr → Hq → Rs Src
def tMi (K : PySem.W.Frag) (mg : Str → Option Value) (E : XK) (f : Si) : TI := fun σ H Q => ∃ ι h fr, HR K ι h H ∧ FR K ι H σ fr ∧ Po K mg (fun ι' H' (J : It) (S : Src) => Wk K ι' H' J S.get S.fin) ι H Q E (f fr h)
abbrev PMi (X : Cx) (E : XK) (tg iter : Expr) (f : Si) : Prop := PI X tg iter (tMi X.K X.mg E f)
theorem pi_imp {X : Cx} {tg iter : Expr} {w w' : TI} (h : PI X tg iter w) (m : ∀ σ H Q, w' σ H Q → w σ H Q) : PI X tg iter w' := ⟨fun pins s σ H R I q => h.run pins s σ H R I (m σ H R q)⟩
section
variable {X : Cx} {E : XK} {tg e e2 : Expr} {body : List Stmt} {fe fe2 : Sx} {fs : Sa} {b : Ss} {t : Tg} {pos p : Pos} {src : Si}
def sFor (t : Tg) (src : Si) (b : Ss) : Ss := fun fr h => (src fr h).into fun S h1 => turns S.get S.fin t b S.n 0 fr h1
theorem m_for (wh : Wh X E) (hi : PMi X E tg e src) (ht : PMg X tg t) (hb : PMb' X E body b) (hf : ∀ x, foldedSetIterable e X.env x = pure x := by intro _; rfl) : PMs X E (.For tg e body [] pos) (sFor t src b) := by
  obtain ⟨gg, hgg, hgs⟩ := ht.ex
  refine ps_imp (ps_for wh.po wh.calm hi hgg hb hf) fun Z σ H ⟨ι, h, fr, R, F, P⟩ => ?_
  refine ⟨ι, h, fr, R, F, Po.mono ?_ (Po.into P)⟩
  rintro J H1 ⟨i1, h1, S, e1, R1, w, P1⟩
  exact for_in w hgs (fun _ _ _ q => q) R1 (F.ext e1) P1
/-- range(n), range(m, n) -/
def iR (lo n : Int) (h : Hq) : Rs Src := if n < 2 ^ 61 ∧ -(2 ^ 61) < n ∧ lo < 2 ^ 61 ∧ -(2 ^ 61) < lo then .ok ⟨(n - lo).toNat, fun i _ => if i < (n - lo).toNat then some (.int (lo + i)) else none, fun i _ => decide ((n - lo).toNat ≤ i)⟩ h else .no
def iRange (fs : Sa) : Si := fun fr h => (fs fr h).bind fun ds h1 => match ds with
  | [.int j] => iR 0 j h1
  | _ => .no
def iRange2 (fs : Sa) : Si := fun fr h => (fs fr h).bind fun ds h1 => match ds with
  | [.int i, .int j] => iR i j h1
  | _ => .no
theorem wk_range (K : PySem.W.Frag) (ι : List Addr) (H0 : Hp) (lo : Int) (n : Nat) : Wk K ι H0 (Itr lo n) (fun i _ => if i < n then some (.int (lo + i)) else none) (fun i _ => decide (n ≤ i)) where
  go := fun i ι' h H d e R q => by
    split at q
    · rename_i hi
      cases q
      refine ⟨hi, fun x H' ⟨e1, e2⟩ => ?_⟩
      subst e1 e2
      exact ⟨ι', Ext.refl _ _, R, .int _⟩
    · cases q
  stop := fun i ι' h H e R q => show n ≤ i from of_decide_eq_true q
theorem m_range (hm : X.mg "range" = none) (ha : PMa X E [e] fs) (hg : Gl X "range" := by rfl) (hs : starEach [e] X.env = [(false, eval e X.env)] := by rfl) : PMi X E tg (.Call (.Name "range" p) [e] [] pos) (iRange fs) := pi_imp (pi_range1 hg hm ha hs) fun σ H Q ⟨ι, h, fr, R, F, P⟩ => by
  refine ⟨ι, h, fr, R, F, Po.mono ?_ (Po.bind P)⟩
  rintro vs H1 ⟨i1, h1, ds, e1, R1, r1, P1⟩
  split at P1
  · rename_i j
    unfold iR at P1
    split at P1
    · obtain ⟨v, rfl, q⟩ := r1.one
      cases q
      refine ⟨j, rfl, by omega, by omega, P1 i1 H1 _ (Ext.refl _ _) R1 ?_⟩
      rw [Int.sub_zero]
      exact wk_range X.K i1 H1 0 j.toNat
    · exact P1.elim
  · exact P1.elim
theorem m_range2 (hm : X.mg "range" = none) (ha : PMa X E [e, e2] fs) (hg : Gl X "range" := by rfl) (hs : starEach [e, e2] X.env = [(false, eval e X.env), (false, eval e2 X.env)] := by rfl) (hs2 : starEach [e2] X.env = [(false, eval e2 X.env)] := by rfl) :
    PMi X E tg (.Call (.Name "range" p) [e, e2] [] pos) (iRange2 fs) := pi_imp (pi_range2 hg hm ha hs hs2) fun σ H Q ⟨ι, h, fr, R, F, P⟩ => by
  refine ⟨ι, h, fr, R, F, Po.mono ?_ (Po.bind P)⟩
  rintro vs H1 ⟨i1, h1, ds, e1, R1, r1, P1⟩
  split at P1
  · rename_i i j
    unfold iR at P1
    split at P1
    · obtain ⟨v, w, rfl, q1, q2⟩ := r1.two
      cases q1; cases q2
      exact ⟨i, j, rfl, by omega, P1 i1 H1 _ (Ext.refl _ _) R1 (wk_range X.K i1 H1 i (j - i).toNat)⟩
    · exact P1.elim
  · exact P1.elim
/-- a list or a tuple -/
def srcT (l : List D) : Src := ⟨l.length, fun i _ => l[i]?, fun i _ => decide (l.length ≤ i)⟩
def srcC (m n : Nat) : Src := ⟨n, fun i h => (lstAt h m).bind fun l => l[i]?, fun i h => match lstAt h m with | some l => decide (l.length ≤ i) | none => false⟩
def iSeq (f : Sx) : Si := fun fr h => (f fr h).bind fun d h1 => match d with
  | .tup l => .ok (srcT l) h1
  | .ref m => match lstAt h1 m with
    | some l => .ok (srcC m l.length) h1
    | none => .no
  | _ => .no
theorem pi_seq {X : Cx} {tg l : Expr} {tl : TE} (hl : PE X l tl) : PI X tg l (fun σ H R => iList X.K tl σ H R ∨ iTup X.K tl σ H R) :=
  ⟨fun pins s σ H R I q => q.elim (fun q => (pi_list hl).run pins s σ H R I q) fun q => (pi_tup hl).run pins s σ H R I q⟩
theorem wk_tup {K : PySem.W.Frag} {ι : List Addr} {H0 : Hp} {a : Addr} {vs : List V} {l : List D} (hx : H0 a = some (.tup vs)) (q : VRs K ι H0 vs l) : Wk K ι H0 (Itt K a) (srcT l).get (srcT l).fin where
  go := fun i ι' h H d e R g => by
    have q' := q.ext e
    obtain ⟨v, h1, h2⟩ := q'.get g
    refine ⟨⟨vs, v, .of (e.tups _ _ hx), h1⟩, fun x H' ⟨e1, e2⟩ => ?_⟩
    subst e1
    have := e2 vs (.of (e.tups _ _ hx))
    rw [h1] at this; cases this
    exact ⟨ι', Ext.refl _ _, R, h2⟩
  stop := fun i ι' h H e R g => ⟨vs, .of (e.tups _ _ hx), by rw [q.length]; exact of_decide_eq_true g⟩
theorem wk_lst {K : PySem.W.Frag} {ι : List Addr} {H0 : Hp} {a : Addr} {m n : Nat} (hx : ι[m]? = some a) : Wk K ι H0 (Itl K a) (srcC m n).get (srcC m n).fin where
  go := fun i ι' h H d e R g => by
    obtain ⟨l, hl, g⟩ := Option.bind_eq_some_iff.mp (show (lstAt h m).bind (fun l => l[i]?) = some d from g)
    obtain ⟨vs, c1, q⟩ := R.lst (e.get hx) hl
    obtain ⟨v, h1, h2⟩ := q.get g
    refine ⟨⟨vs, v, .of c1, h1⟩, fun x H' ⟨e1, e2⟩ => ?_⟩
    subst e1
    have := e2 vs (.of c1)
    rw [h1] at this; cases this
    exact ⟨ι', Ext.refl _ _, R, h2⟩
  stop := fun i ι' h H e R g => by
    have g' : (match lstAt h m with | some l => decide (l.length ≤ i) | none => false) = true := g
    split at g'
    · rename_i l hl
      obtain ⟨vs, c1, q⟩ := R.lst (e.get hx) hl
      exact ⟨vs, .of c1, by rw [q.length]; exact of_decide_eq_true g'⟩
    · cases g'
theorem tM_pick {K : PySem.W.Frag} {mg : Str → Option Value} {f : Sx} {σ : L2.St} {H : Hp} {α β γ : Type} {A B : V → Hp → Prop} {ι : List Addr} {h : Hq} {fr : Fr} (R : HR K ι h H) (F : FR K ι H σ fr)
    (P : PoV K mg ι H (fun v H1 => A v H1) E (f fr h) ∨ PoV K mg ι H (fun v H1 => B v H1) E (f fr h)) : tM K mg E f σ H A ∨ tM K mg E f σ H B := P.elim (fun P => .inl ⟨ι, h, fr, R, F, P⟩) fun P => .inr ⟨ι, h, fr, R, F, P⟩
theorem m_seqI (ha : PM X E e fe) : PMi X E tg e (iSeq fe) := pi_imp (pi_seq ha) fun σ H Q ⟨ι, h, fr, R, F, P⟩ => by
  unfold iSeq at P
  cases q : fe fr h with
  | no => rw [q] at P; exact P.elim
  | exc x h1 => rw [q] at P; exact .inl ⟨ι, h, fr, R, F, by rw [q]; exact P⟩
  | ok d h1 =>
    rw [q] at P
    rw [Rs.bind_ok] at P
    have P1 := P
    clear P
    split at P1
    · rename_i l
      refine .inr ⟨ι, h, fr, R, F, ?_⟩
      rw [q]
      intro ι1 H1 v e1 R1 r1
      cases r1 with
      | tup hx q => exact ⟨_, rfl, ⟨_, .of hx⟩, P1 ι1 H1 _ e1 R1 (wk_tup hx q)⟩
    · split at P1
      · rename_i m _ l hl
        refine .inl ⟨ι, h, fr, R, F, ?_⟩
        rw [q]
        intro ι1 H1 v e1 R1 r1
        cases r1 with
        | ref hx =>
          obtain ⟨vs, c1, _⟩ := R1.lst hx hl
          exact ⟨_, rfl, ⟨_, .of c1⟩, P1 ι1 H1 _ e1 R1 (wk_lst hx)⟩
      · exact P1.elim
    · exact P1.elim
end

/-! ### while -/
def whileN (c : Sb) (b : Ss) : Nat → Fr → Hq → Option SR
  | 0, _, _ => none
  | n + 1, fr, h => match c fr h with
    | .ok true h1 => match b fr h1 with
      | .nx fr2 h2 => whileN c b n fr2 h2
      | .ct fr2 h2 => whileN c b n fr2 h2
      | .bk fr2 h2 => some (.nx fr2 h2)
      | r => some r
    | .ok false h1 => some (.nx fr h1)
    | .exc x h1 => some (.exc x h1)
    | .no => some .no
theorem whileN_mono {c : Sb} {b : Ss} : ∀ (n : Nat) (fr : Fr) (h : Hq) (r : SR), whileN c b n fr h = some r → whileN c b (n + 1) fr h = some r
  | 0, _, _, _, e => by cases e
  | n + 1, fr, h, r, e => by
    unfold whileN at e ⊢
    split at e
    · split at e
      · exact whileN_mono n _ _ _ e
      · exact whileN_mono n _ _ _ e
      · exact e
      · exact e
    · exact e
    · exact e
    · exact e
theorem whileN_le {c : Sb} {b : Ss} {n m : Nat} (hm : n ≤ m) {fr : Fr} {h : Hq} {r : SR} (e : whileN c b n fr h = some r) : whileN c b m fr h = some r := by
  obtain ⟨k, rfl⟩ := Nat.exists_eq_add_of_le hm
  induction k with
  | zero => exact e
  | succ k ih => exact whileN_mono _ _ _ _ (ih (Nat.le_add_right _ _))
open Classical in
noncomputable def sWhile (c : Sb) (b : Ss) : Ss := fun fr h => if q : ∃ r n, whileN c b n fr h = some r then q.choose else .no
theorem sWhile_eq {c : Sb} {b : Ss} {n : Nat} {fr : Fr} {h : Hq} {r : SR} (e : whileN c b n fr h = some r) : sWhile c b fr h = r := by
  have q : ∃ r n, whileN c b n fr h = some r := ⟨r, n, e⟩
  unfold sWhile
  rw [dif_pos q]
  obtain ⟨m, hm⟩ := q.choose_spec
  have h1 := whileN_le (Nat.le_max_left n m) e
  have h2 := whileN_le (Nat.le_max_right n m) hm
  rw [h1] at h2
  exact (Option.some.inj h2).symm
section
variable {X : Cx} {E : XK} {c : Expr} {body : List Stmt} {fc : Sb} {b : Ss} {pos : Pos}
theorem m_while (wh : Wh X E) (hc : PMb X E c fc) (hb : PMb' X E body b) : PMs X E (.While c body [] pos) (sWhile fc b) := ps_imp (ps_while wh.po hc hb) fun Z σ H ⟨ι, h, fr, R, F, P⟩ => by
  by_cases q : ∃ r n, whileN fc b n fr h = some r
  · obtain ⟨r, n, e⟩ := q
    rw [sWhile_eq e] at P
    refine ⟨fun m σ H => ∃ ι h fr r, HR X.K ι h H ∧ FR X.K ι H σ fr ∧ whileN fc b m fr h = some r ∧ SPo X.K X.mg ι H Z E r, ⟨n, ι, h, fr, r, R, F, e, P⟩, ?_⟩
    rintro m σ H ⟨ι, h, fr, r, R, F, e, P⟩
    cases m with
    | zero => cases e
    | succ m =>
      refine ⟨ι, h, fr, R, F, ?_⟩
      unfold whileN at e
      cases hq : fc fr h with
      | no => rw [hq] at e; cases e; exact P
      | exc x h1 => rw [hq] at e; cases e; exact P
      | ok v h1 =>
        rw [hq] at e
        intro ι1 H1 v' e1 R1 hv
        have hv' : v' = v := hv
        subst hv'
        cases v' with
        | false =>
          cases e
          exact P ι1 H1 σ e1 R1 (F.ext e1)
        | true =>
          refine ⟨fun σ' H' => ∃ ι h fr r, HR X.K ι h H' ∧ FR X.K ι H' σ' fr ∧ whileN fc b m fr h = some r ∧ SPo X.K X.mg ι H' Z E r, fun σ' H' q => ⟨m, Nat.lt_succ_self m, q⟩, ι1, h1, fr, R1, F.ext e1, ?_⟩
          have P1 := SPo.ext e1 P
          revert e
          dsimp only
          cases b fr h1 with
          | nx fr2 h2 => exact fun e ι2 H2 σ2 e2 R2 F2 => ⟨ι2, h2, fr2, r, R2, F2, e, SPo.ext e2 P1⟩
          | ct fr2 h2 => exact fun e ι2 H2 σ2 e2 R2 F2 => ⟨ι2, h2, fr2, r, R2, F2, e, SPo.ext e2 P1⟩
          | bk fr2 h2 => intro e; cases e; exact P1
          | rt d2 h2 => intro e; cases e; exact P1
          | exc x2 h2 => intro e; cases e; exact P1
          | no => intro e; cases e; exact P1
  · unfold sWhile at P
    rw [dif_neg q] at P
    exact P.elim
end

/-! ### raise X('..') -/
def sRaise (x : Str) : Ss := fun _ h => .exc { cls := x } h
section
variable {X : Cx} {E : XK} {C : Addr} {bmB : List Value} {B newId initId : String} {x m : Str} {j : Nat} {p p2 pos pos2 : Pos}
theorem m_raise (wh : Wh X E) (F0 : ExcBaseFacts B newId initId bmB) (q : PySem.W.excIn X.K C bmB newId = true) (gC : X.mg x = some (.ref C)) (kC : PySem.W.keepIn X.K (.ref C) = true) (r : Raises X (.ref C)) (hg : Gl X x := by rfl) (hdb : (x == ("__debug__" : Str)) = false := by decide) :
    PMs X E (.Raise (some (.Call (.Name x p) [.Constant (.str m) j p2] [] pos)) none pos2) (sRaise x) := ps_imp (ps_raise wh.calm wh.tk (pmk_own F0 q gC kC r hg hdb)) fun Z σ H ⟨ι, h, fr, R, F, P⟩ => P ι H (.ref C) none (Ext.refl _ _) R ⟨C, gC, rfl, rfl⟩
/-- xs.append(e) -/
def eApp (fo : Sx) (f : Sx) : Sx := fun fr h => (fo fr h).bind fun o h1 => match o with
  | .ref n => match lstAt h1 n with
    | some _ => (f fr h1).bind fun d h2 => match lstAt h2 n with
      | some l => if small (l.length + 1) = true then .ok .non (h2.set n (.lst (l ++ [d]))) else .no
      | none => .no
    | none => .no
  | _ => .no
theorem m_app {o e : Expr} {fo fe : Sx} {apos cpos : Pos} (ho : PM X E o fo) (he : PM X E e fe) (h1 : attributeBase o "append" X.env (eval o X.env) = eval o X.env := by rfl) (h3 : starEach (e :: []) X.env = (false, eval e X.env) :: starEach [] X.env := by rfl)
    (h2 : (((backTo cpos (starEach [e] X.env)).all fun x => !x.fst) && (backToKw cpos (keywordEach [] X.env)).all (fun x => x.fst.isSome) && decide (([e].length + ([] : List Keyword).length + if ([] : List Keyword).isEmpty = true then 0 else 1) < 30)) = true := by rfl)
    (h4 : (apos.endLine == cpos.line) = true := by rfl) :
    PM X E (.Call (.Attribute o "append" apos) [e] [] cpos) (eApp fo fe) := pe_imp (pe_bm PySem.F.plainAttrs_list PySem.F.slot_list_append PySem.F.type_list_append mt_append ho (pa_cons he pa_nil h3) h1 h2 h4 h3) fun σ H Q ⟨ι, h, fr, R, F, P⟩ => by
  refine ⟨ι, h, fr, R, F, Po.mono ?_ (Po.bind P)⟩
  rintro v H1 ⟨i1, h1, od, e1, R1, r1, P1⟩
  split at P1
  · rename_i n
    split at P1
    · rename_i _ l0 hl0
      cases r1 with
      | ref hx =>
        rename_i a
        obtain ⟨vs0, c0, _⟩ := R1.lst hx hl0
        refine ⟨.inl ⟨rfl, vs0, .of c0⟩, i1, h1, fr, R1, F.ext e1, Po.mono ?_ (Po.bind P1)⟩
        rintro w H2 ⟨i2, h2, d, e2, R2, r2, P2⟩
        split at P2
        · rename_i _ l hl
          split at P2
          · rename_i hz
            obtain ⟨vs, c2, q2⟩ := R2.lst (e2.get hx) hl
            obtain ⟨e3, R3⟩ := R2.put (lstAt_some hl) (e2.get hx) (o := .lst (vs ++ [w])) (c := .lst (l ++ [d])) fun H' e z => ⟨_, z, (q2.append (.cons r2 .nil)).ext e⟩
            refine ⟨a, vs, w, rfl, rfl, c2, ?_, P2 i2 _ _ e3 R3 .non⟩
            have := small_le hz
            rw [q2.length]; omega
          · exact P2.elim
        · exact P2.elim
    · exact P1.elim
  · exact P1.elim
end
end MI
end

section
set_option Elab.async false
set_option linter.all false
set_option autoImplicit false
set_option maxRecDepth 100000
set_option maxHeartbeats 4000000
namespace MI
open PySem L2
open PyProof.Rows (envOfC)

/-! ### a def by its body -/
def fin : SR → Rs D
  | .nx _ h => .ok .non h
  | .rt d h => .ok d h
  | .exc x h => .exc x h
  | _ => .no
/-- n parameters, k more names -/
def ofBody (n k : Nat) (b : Ss) : Sf := fun ds h => if ds.length = n then fin (b (ds.map some ++ List.replicate k none) h) else .no
theorem fr_start {K : PySem.W.Frag} {ι : List Addr} {H : Hp} {N : List Str} {vs : List V} {ds : List D} (r : VRs K ι H vs ds) : FR K ι H (L2.start N vs) (ds.map some ++ List.replicate (N.length - ds.length) none) := by
  unfold L2.start
  rw [r.length]
  refine ⟨by simp [r.length], fun i d e => ?_⟩
  by_cases hi : i < ds.length
  · rw [List.getElem?_append_left (by simpa using hi), List.getElem?_map] at e
    cases q : ds[i]? with
    | none => rw [q] at e; cases e
    | some d' =>
      rw [q] at e
      cases e
      obtain ⟨v, h1, h2⟩ := r.get q
      refine ⟨v, ?_, h2⟩
      rw [List.getElem?_append_left (by rw [List.length_map, r.length]; exact hi), List.getElem?_map, h1]
      rfl
  · rw [List.getElem?_append_right (by simpa using hi), List.getElem?_replicate] at e
    split at e <;> cases e
section
variable {P : Program} {w : World} {K : PySem.W.Frag} {mg : Str → Option Value} {base : Heap} {k : Nat} {f : Addr} {name qual : Str} {params : Arguments} {body : List Stmt} {scope : Scope} {dV kV doc pm cdv ct oc : Value} {an od : Option Addr}
  {osl : Array (Option Value)} {N ps : List Str}
theorem wh_of {A : Around} {outer : List Env} {s : Shared} {H : Hp} {E : XK} (S : FnScope N ps scope) (hg : A.guards = some []) : Wh (cxOf (L2.CX P w) P w K mg base N qual scope f cdv A outer s H E) E :=
  ⟨takes_of rfl rfl rfl rfl, passes_of rfl, hg, rfl, S.nd⟩
/-- a def's body, walked once, tells the def's worth -/
theorem fnG_of {b : Ss} (lk : K.lookup f = some ⟨oc, od, .func (PySem.W.fnOf name qual params body scope dV kV doc pm an cdv ct), osl⟩) (hcd : PySem.W.codeIn K cdv qual = true) (S : FnScope N ps scope)
    (hb : ∀ (A : Around) (outer : List Env) (s : Shared) (H : Hp) (E : XK), Room k (A.deeper (envOfC qual scope s.heap.objs.size f cdv)) → Wh (cxOf (L2.CX P w) P w K mg base N qual scope f cdv A outer s H E) E →
      PMb' (cxOf (L2.CX P w) P w K mg base N qual scope f cdv A outer s H E) E body b) :
    FnG P w K mg base (k + 1) f (PySem.W.fnOf name qual params body scope dV kV doc pm an cdv ct) ps (ofBody ps.length (N.length - ps.length) b) := by
  constructor
  intro A outer s H args us vs ds ι h Q E room guard e0 bind rv R rd hlen P1
  have hvl : vs.length = ps.length := by rw [rd.length]; exact hlen
  have kin : K.In s.heap := e0.mod.kin.keeps fun b o e => (e0.bs b o e).1
  have nolim : s.heap.NoLimit := e0.mod.nolimit.keeps fun b o e => (e0.bs b o e).1
  have kinds : ∀ y ∈ ps.zip us, scope.names.lookup y.1 = some .local ∨ (scope.names.lookup y.1 = some .cell ∧ ((cellsFrom (s.heap.objs.size + 1) scope.names []).lookup y.1).isSome = true) := by
    rintro ⟨n, v⟩ hy
    rcases S.par n (List.of_mem_zip hy).1 with q | q
    · exact .inl q
    · exact .inr ⟨q, PySem.W.cellsFrom_some _ _ _ (.inl q)⟩
  refine codeAny_call_function room.depth (kin _ _ lk) rfl S.co S.gen rfl (PySem.W.codeRec_of kin hcd) (bind _ _ _ _ ?_)
  refine wpAny_newFunctionEnv_cells S.kind kinds ?_
  intro env henv s1 x
  subst henv
  refine ⟨nolim.keeps x.toInCall.keep, codeAny_func ?_⟩
  have body1 := hb A outer s H E (room.deeper _) (wh_of S guard)
  have I1 : Inv (cxOf (L2.CX P w) P w K mg base N qual scope f cdv A outer s H E) [] (L2.start N vs) H s1 := inv_start S room.hd e0 hvl rv x
  have P2 : PoV K mg ι H Q E (fin (b (ds.map some ++ List.replicate (N.length - ds.length) none) h)) := by
    unfold ofBody at P1
    rw [if_pos hlen] at P1
    rw [hlen]
    exact P1
  have P3 : SPo K mg ι H { nx := fun _ H' => Q .non H', rt := Q } E (b (ds.map some ++ List.replicate (N.length - ds.length) none) h) := by
    revert P2
    cases b (ds.map some ++ List.replicate (N.length - ds.length) none) h with
    | nx fr h1 => exact fun q ι1 H1 σ1 e1 R1 _ => q ι1 H1 .non e1 R1 .non
    | rt d h1 => exact fun q => q
    | exc x h1 => exact fun q => q
    | bk fr h1 => exact fun q => q.elim
    | ct fr h1 => exact fun q => q.elim
    | no => exact fun q => q
  refine wpAny_mono (body1.run [] s1 (L2.start N vs) H { nx := fun _ H' => Q .non H', rt := Q } I1 ⟨ι, h, _, R, fr_start rd, P3⟩) (fun fl s2 q => ?_) fun e s2 q => q
  cases fl with
  | ret u =>
    obtain ⟨v, σ2, H2, J, r2, q2⟩ := q
    exact ⟨v, H2, J.os, J.bare, J.base, J.hok, r2, q2⟩
  | next =>
    obtain ⟨σ2, H2, J, q2⟩ := q
    exact ⟨V.non, H2, J.os, J.bare, J.base, J.hok, rfl, q2⟩
  | brk => obtain ⟨_, _, _, q2⟩ := q; exact q2.elim
  | cont => obtain ⟨_, _, _, q2⟩ := q; exact q2.elim
end
section
variable {P : Program} {w : World} {K : PySem.W.Frag} {mg : Str → Option Value} {base : Heap}
/-- as it stands behind the top, without defaults -/
theorem fun_G {x qual : Str} {st : Stmt} {f : Addr} {fd : FuncData} {N ps : List Str} {k : Nat} {b : Ss} (F : Fun K x qual st f fd) (S : FnScope N ps (defScope st))
    (hb : ∀ (cdv : Value) (A : Around) (outer : List Env) (s : Shared) (H : Hp) (E : XK), Room k (A.deeper (envOfC qual (defScope st) s.heap.objs.size f cdv)) → Wh (cxOf (L2.CX P w) P w K mg base N qual (defScope st) f cdv A outer s H E) E →
      PMb' (cxOf (L2.CX P w) P w K mg base N qual (defScope st) f cdv A outer s H E) E (defBody st) b) : FnG P w K mg base (k + 1) f fd ps (ofBody ps.length (N.length - ps.length) b) := by
  obtain ⟨oc, od, kV, doc, pm, an, cdv, ct, osl, rfl, lk, hcd⟩ := F.ex
  exact fnG_of lk hcd S fun A outer s H E => hb cdv A outer s H E
/-- .. with defaults -/
theorem funD_G {x qual : Str} {params : Arguments} {body : List Stmt} {scope : Scope} {dvs : List V} {kws : List (Str × V)} {f : Addr} {fd : FuncData} {N ps : List Str} {k : Nat} {b : Ss} (F : FunD K x qual params body scope dvs kws f fd) (S : FnScope N ps scope)
    (hb : ∀ (cdv : Value) (A : Around) (outer : List Env) (s : Shared) (H : Hp) (E : XK), Room k (A.deeper (envOfC qual scope s.heap.objs.size f cdv)) → Wh (cxOf (L2.CX P w) P w K mg base N qual scope f cdv A outer s H E) E →
      PMb' (cxOf (L2.CX P w) P w K mg base N qual scope f cdv A outer s H E) E body b) : FnG P w K mg base (k + 1) f fd ps (ofBody ps.length (N.length - ps.length) b) := by
  obtain ⟨oc, od, dV, kV, doc, pm, an, cdv, ct, osl, rfl, lk, hcd, _, _⟩ := F.ex
  exact fnG_of lk hcd S fun A outer s H E => hb cdv A outer s H E
end

/-! ### repr -/
def keyP : L2.Key → PyData
  | .inl i => .int i
  | .inr x => .str x
/-- data as a whole, dicts too -/
def toPyR (h : Hq) : Nat → D → Option PyData
  | 0, _ => none
  | _ + 1, .non => some .none
  | _ + 1, .bl b => some (.bool b)
  | _ + 1, .int i => some (.int i)
  | _ + 1, .str x => some (.str x)
  | n + 1, .tup l => (opts (toPyR h n) l).map .tuple
  | n + 1, .ref m => match h[m]? with
    | some (.lst l) => (opts (toPyR h n) l).map .list
    | some (.dct l) => (opts (toPyR h n) (l.map (·.2))).map fun ps => .dict ((l.map fun p => keyP p.1).zip ps)
    | none => none
  | _ + 1, .scr l => some (.list (l.map .int))
  | _ + 1, .opq => none
  | _ + 1, .adr _ => none
  | _ + 1, .ty _ => none
mutual
def noLst : PyData → Bool
  | .list _ => false
  | .tuple xs => noLsts xs
  | .dict kvs => noLstK kvs
  | _ => true
def noLsts : List PyData → Bool
  | [] => true
  | x :: xs => noLst x && noLsts xs
def noLstK : List (PyData × PyData) → Bool
  | [] => true
  | (_, v) :: r => noLst v && noLstK r
end
theorem noLsts_k : ∀ (ks : List PyData) (ps : List PyData), noLstK (ks.zip ps) = true → ks.length = ps.length → noLsts ps = true
  | [], [], _, _ => by simp [noLsts]
  | k :: ks, p :: ps, e, hl => by
    have e' : (noLst p && noLstK (ks.zip ps)) = true := by simpa [noLstK] using e
    have e2 := Bool.and_eq_true_iff.mp e'
    simp [noLsts, e2.1, noLsts_k ks ps e2.2 (by simpa using hl)]
def RdA (h : Heap) (us : List Value) (ps : List PyData) : Prop := ∃ as, ReadsAll h us ps as ∧ (noLsts ps = true → ∀ a ∈ as, (a == sysModules) = false)
def Rd1 (h : Heap) (u : Value) (p : PyData) : Prop := ∃ as, Reads h u p as ∧ (noLst p = true → ∀ a ∈ as, (a == sysModules) = false)
section
variable {X : Cx} {pins : List (Addr × Obj)} {σ : L2.St} {H : Hp} {s : Shared}
theorem rd_all {ι : List Addr} {f : D → Option PyData} (hf : ∀ d p v u, f d = some p → VR X.K ι H v d → RelV v u → Rd1 s.heap u p) : ∀ {l : List D} {ps : List PyData} {vs : List V} {us : List Value}, opts f l = some ps → VRs X.K ι H vs l → Vals vs us → RdA s.heap us ps
  | [], _, _, _, e, r, rv => by
    cases r; cases e; cases rv
    exact ⟨[], .nil, fun _ a z => (nomatch z)⟩
  | d :: l, _, _, _, e, r, rv => by
    unfold opts at e
    split at e
    · rename_i p q h1 h2
      cases e
      cases r with
      | cons r1 r2 =>
        cases rv with
        | cons v1 v2 =>
          obtain ⟨as, a1, a2⟩ := hf _ _ _ _ h1 r1 v1
          obtain ⟨bs, b1, b2⟩ := rd_all hf h2 r2 v2
          refine ⟨as ++ bs, .cons a1 b1, fun z a m => ?_⟩
          have z' : (noLst p && noLsts q) = true := by simpa [noLsts] using z
          have z2 := Bool.and_eq_true_iff.mp z'
          exact (List.mem_append.mp m).elim (a2 z2.1 a) (b2 z2.2 a)
    · cases e
theorem ints_rd : ∀ (l : List Int) (us : List Value), Vals (l.map V.int) us → ∃ as, ReadsAll s.heap us (l.map PyData.int) as
  | [], _, r => by cases r; exact ⟨[], .nil⟩
  | i :: l, _, r => by
    cases r with
    | cons r1 r2 =>
      obtain ⟨t, rfl⟩ := r1
      obtain ⟨as, h⟩ := ints_rd l _ r2
      exact ⟨_, .cons (.int i t) h⟩
theorem keys_read (P : Program) (w : World) (h : Heap) : ∀ (k : L2.Key) (key : Value), (mixKind P w).is k key = true → Reads h key (keyP k) [] := fun k key e => by
  rcases keyIs_shape e with ⟨i, t, rfl, rfl⟩ | ⟨x, t, rfl, rfl⟩
  · exact .int i t
  · exact .str x t
theorem pairs_rd {h : Heap} : ∀ {kvs : List (L2.Key × V)} {vs : List (L2.Key × Value)} {ps : List PyData} {as : List Addr}, KV kvs vs → ReadsAll h (vs.map (·.2)) ps as → PyProof.V.PairsRead h keyP vs ((kvs.map fun p => keyP p.1).zip ps) as
  | [], _, _, _, r, q => by
    cases r
    cases q
    exact .nil
  | p :: kvs, _, _, _, r, q => by
    cases r with
    | cons r1 r2 =>
      rename_i b vs
      obtain ⟨k, v⟩ := b
      have q' : ReadsAll h (v :: vs.map (·.2)) _ _ := q
      cases q' with
      | cons q1 q2 =>
        have e : p.1 = k := r1.1
        rw [List.map_cons, e, List.zip_cons_cons]
        exact .cons q1 (pairs_rd r2 q2)
theorem kv_vals : ∀ {kvs : List (L2.Key × V)} {vs : List (L2.Key × Value)}, KV kvs vs → Vals (kvs.map (·.2)) (vs.map (·.2))
  | [], _, r => by cases r; exact .nil
  | p :: kvs, _, r => by
    cases r with
    | cons r1 r2 => exact .cons r1.2 (kv_vals r2)
theorem opts_len {α β : Type} {f : α → Option β} : ∀ {l : List α} {ps : List β}, opts f l = some ps → ps.length = l.length
  | [], _, e => by cases e; rfl
  | d :: l, _, e => by
    unfold opts at e
    split at e
    · rename_i p q h1 h2
      cases e
      rw [List.length_cons, List.length_cons, opts_len h2]
    · cases e
theorem rd_of (I : Inv X pins σ H s) {ι : List Addr} {h : Hq} (R : HR X.K ι h H) : ∀ (n : Nat) (d : D) (p : PyData) (v : V) (u : Value), toPyR h n d = some p → VR X.K ι H v d → RelV v u → Rd1 s.heap u p
  | 0, _, _, _, _, e, _, _ => by cases e
  | n + 1, d, p, v, u, e, r, rv => by
    cases r with
    | non => cases e; cases rv; exact ⟨[], .none, fun _ a z => (nomatch z)⟩
    | bl b => cases e; cases rv; exact ⟨[], .bool b, fun _ a z => (nomatch z)⟩
    | int i => cases e; obtain ⟨t, rfl⟩ := rv; exact ⟨[], .int i t, fun _ a z => (nomatch z)⟩
    | str x => cases e; obtain ⟨t, rfl⟩ := rv; exact ⟨[], .str x t, fun _ a z => (nomatch z)⟩
    | tup hx q =>
      cases rv
      rename_i a vs l
      have e' : (opts (toPyR h n) l).map PyData.tuple = some p := e
      obtain ⟨ps, h1, h2⟩ := Option.map_eq_some_iff.mp e'
      subst h2
      obtain ⟨its, r1, ⟨o, g1, g2, m, g3⟩, _⟩ := I.tuple (.of hx)
      obtain ⟨as, a1, a2⟩ := rd_all (fun d p v u => rd_of I R n d p v u) h1 q r1
      exact ⟨as, .tuple g1 g2 g3 (by simpa using a1), fun z => a2 (by simpa [noLst] using z)⟩
    | ref hx =>
      cases rv
      rename_i a m
      have e' : (match h[m]? with
        | some (.lst l) => (opts (toPyR h n) l).map PyData.list
        | some (.dct l) => (opts (toPyR h n) (l.map (·.2))).map fun ps => .dict ((l.map fun p => keyP p.1).zip ps)
        | none => none) = some p := e
      split at e'
      · rename_i l hl
        obtain ⟨ps, h1, h2⟩ := Option.map_eq_some_iff.mp e'
        subst h2
        obtain ⟨vs, c1, q1⟩ := R.cells m _ a hl hx
        obtain ⟨its, r1, ⟨o, g1, g2, g3, g4, g5⟩, _⟩ := I.list (.of c1)
        obtain ⟨as, a1, a2⟩ := rd_all (fun d p v u => rd_of I R n d p v u) h1 q1 r1
        exact ⟨a :: as, .list g2 g3 g5 (by simpa using a1), fun z => by simp [noLst] at z⟩
      · rename_i l hl
        obtain ⟨ps, h1, h2⟩ := Option.map_eq_some_iff.mp e'
        subst h2
        obtain ⟨kvs, c1, k1, q1⟩ := R.cells m _ a hl hx
        obtain ⟨hz, hsys, vs, r1, dd⟩ : kvs.length ≤ sizeLine ∧ (a == sysModules) = false ∧ ∃ vs, KV kvs vs ∧ s.heap.DictOf (mixKind X.prog X.w) a vs := I.hok a _ c1
        obtain ⟨as, a1, a2⟩ := rd_all (fun d p v u => rd_of I R n d p v u) h1 q1 (kv_vals r1)
        have ek : (l.map fun p => keyP p.1) = kvs.map fun p => keyP p.1 := by
          have e1 : (l.map fun p => keyP p.1) = (l.map (·.1)).map keyP := by rw [List.map_map]; rfl
          rw [e1, ← k1, List.map_map]
          rfl
        rw [ek]
        refine ⟨a :: as, PyProof.V.reads_dictOf (keys_read X.prog X.w s.heap) dd (pairs_rd r1 a1), fun z b hb => ?_⟩
        rcases List.mem_cons.mp hb with rfl | hb
        · exact hsys
        · refine a2 (noLsts_k (kvs.map fun p => keyP p.1) ps (by simpa [noLst] using z) ?_) b hb
          have l1 := opts_len h1
          have l2 := congrArg List.length k1
          simp only [List.length_map] at l1 l2 ⊢
          omega
      · cases e'
    | opq v => cases e
    | adr a => cases e
    | ty n => cases e
    | scr hx =>
      cases rv
      cases e
      obtain ⟨its, r1, ⟨o, g1, g2, g3, g4, g5⟩, _⟩ := I.list hx.sq
      obtain ⟨as, a1⟩ := ints_rd (s := s) _ _ r1
      exact ⟨_ :: as, .list g2 g3 g5 (by simpa using a1), fun z => by simp [noLst] at z⟩
end
/-- what repr takes -/
def shows (p : PyData) : Bool := p.showable && (!p.hasDict || noLst p) && decide (p.depth ≤ 60) && small p.shown.length
def showsT (p : PyData) : Bool := match p with
  | .tuple ps => p.showable && ps.all (fun c => !c.hasDict || noLst c) && decide (p.depth ≤ 60) && small p.shown.length
  | _ => false
def gRepr (ds : List D) (h : Hq) : Rs D := match ds with
  | [d] => match toPyR h 60 d with
    | some p => if shows p = true then .ok (.str p.shown) h else if showsT p = true then .ok (.str p.shown) h else .no
    | none => .no
  | _ => .no
def rRepr (X : Cx) : List V → Hp → VK → Prop := fun xs H Q => ∃ ι h d p v, xs = [v] ∧ HR X.K ι h H ∧ VR X.K ι H v d ∧ toPyR h 60 d = some p ∧ (shows p = true ∨ showsT p = true) ∧ Q (.str p.shown) H
/-- item by item -/
inductive Each (h : Heap) : List Value → List PyData → Prop
  | nil : Each h [] []
  | cons {u : Value} {p : PyData} {us : List Value} {ps : List PyData} : Rd1 h u p → Each h us ps → Each h (u :: us) (p :: ps)
theorem each_of {X : Cx} {pins : List (Addr × Obj)} {σ : L2.St} {H : Hp} {s : Shared} (I : Inv X pins σ H s) {ι : List Addr} {h : Hq} (R : HR X.K ι h H) (n : Nat) : ∀ {l : List D} {ps : List PyData} {vs : List V} {us : List Value}, opts (toPyR h n) l = some ps → VRs X.K ι H vs l → Vals vs us → Each s.heap us ps
  | [], _, _, _, e, r, rv => by
    cases r; cases e; cases rv
    exact .nil
  | d :: l, _, _, _, e, r, rv => by
    unfold opts at e
    split at e
    · rename_i p q h1 h2
      cases e
      cases r with
      | cons r1 r2 =>
        cases rv with
        | cons v1 v2 => exact .cons (rd_of I R n _ _ _ _ h1 r1 v1) (each_of I R n h2 r2 v2)
    · cases e
theorem Each.repr {P : Program} {w : World} {h : Heap} : ∀ {us : List Value} {ps : List PyData}, Each h us ps → PyData.showableAll ps = true → ps.all (fun c => !c.hasDict || noLst c) = true → (∀ t ∈ PyData.shownAll ps, t.length ≤ sizeLine) →
    ∃ bs, ReadAtMost h (PyData.depthAll ps) bs ∧ ReprAllK P w bs h (PyData.depthAll ps) us (PyData.shownAll ps)
  | _, _, .nil, _, _, _ => ⟨[], fun b z => (nomatch z), .nil⟩
  | _, _, .cons (u := u) (p := p) (us := us) (ps := ps) r1 r2, hs, hd, hz => by
    have hs' : (p.showable && PyData.showableAll ps) = true := hs
    have hd' : ((!p.hasDict || noLst p) && ps.all (fun c => !c.hasDict || noLst c)) = true := hd
    obtain ⟨s1, s2⟩ := Bool.and_eq_true_iff.mp hs'
    obtain ⟨d1, d2⟩ := Bool.and_eq_true_iff.mp hd'
    obtain ⟨as, a1, a2⟩ := r1
    obtain ⟨b1, x1, x2⟩ := ReprAllK.of_readsAll (prog := P) (w := w) (.cons a1 .nil) (show (p.showable && true) = true by rw [s1]; rfl) (fun hx hm => by
      have hx' : p.hasDict = true := by simpa [PyData.hasDictAll] using hx
      rw [hx'] at d1
      have d1' : noLst p = true := by simpa using d1
      have := a2 d1' _ (by simpa using hm)
      simp at this) (fun t ht => by
      simp only [PyData.shownAll, List.mem_cons, List.not_mem_nil, or_false] at ht
      exact hz t (by rw [ht]; simp [PyData.shownAll]))
    obtain ⟨b2, y1, y2⟩ := Each.repr (P := P) (w := w) r2 s2 d2 fun t ht => hz t (List.mem_cons_of_mem _ ht)
    have m1 : PyData.depthAll [p] ≤ PyData.depthAll (p :: ps) := by simp only [PyData.depthAll]; omega
    have m2 : PyData.depthAll ps ≤ PyData.depthAll (p :: ps) := by simp only [PyData.depthAll]; omega
    refine ⟨b1 ++ b2, fun b hb => ?_, ?_⟩
    · rcases List.mem_append.mp hb with z | z
      · obtain ⟨d, as', q1, q2⟩ := x1 b z
        exact ⟨d, as', q1, Nat.le_trans q2 m1⟩
      · obtain ⟨d, as', q1, q2⟩ := y1 b z
        exact ⟨d, as', q1, Nat.le_trans q2 m2⟩
    · have z1 := x2.more_le (as' := b1 ++ b2) (fun b hb => List.mem_append_left _ hb) m1
      have z2 := y2.more_le (as' := b1 ++ b2) (fun b hb => List.mem_append_right _ hb) m2
      cases z1 with
      | cons q _ => exact .cons q z2
theorem Each.reads {h : Heap} : ∀ {us : List Value} {ps : List PyData}, Each h us ps → ∃ as, ReadsAll h us ps as
  | _, _, .nil => ⟨[], .nil⟩
  | _, _, .cons r1 r2 => by
    obtain ⟨as, a1, _⟩ := r1
    obtain ⟨bs, b1⟩ := Each.reads r2
    exact ⟨_, .cons a1 b1⟩
theorem call_reprT {X : Cx} (hg : X.A.guards = some []) (hu : X.A.units + 64 < cLine) {pins : List (Addr × Obj)} {σ : L2.St} {H : Hp} {s : Shared} {ι : List Addr} {h : Hq} {d : D} {p : PyData} {v : V} {u : Value} {Q : VK} (I : Inv X pins σ H s) (R : HR X.K ι h H) (rd : VR X.K ι H v d) (e : toPyR h 60 d = some p)
    (sh : showsT p = true) (rv : RelV v u) (q : Q (.str p.shown) H) : wpAny (model X.prog X.w) X.A (call (.builtin "repr") [u]) (EP X pins σ Q) X.xe s := by
  unfold showsT at sh
  split at sh
  · rename_i ps
    have sh' : (((PyData.showableAll ps = true ∧ ps.all (fun c => !c.hasDict || noLst c) = true) ∧ (PyData.tuple ps).depth ≤ 60) ∧ (PyData.tuple ps).shown.length ≤ 16777216) := by
      simpa [small, PyData.showable, Bool.and_eq_true, -List.all_eq_true] using sh
    obtain ⟨⟨⟨s1, s2⟩, s3⟩, s4⟩ := sh'
    have s3' : PyData.depthAll ps + 1 ≤ 60 := s3
    have sz : (tupleText (PyData.shownAll ps)).length ≤ sizeLine := by rw [line_eq]; exact s4
    cases rd with
    | tup hx qd =>
      rename_i a vs l
      cases rv
      have e' : (opts (toPyR h 59) l).map PyData.tuple = some (.tuple ps) := e
      obtain ⟨ps', h1, h2⟩ := Option.map_eq_some_iff.mp e'
      cases h2
      obtain ⟨its, r1, ⟨o, g1, g2, m, g3⟩, _⟩ := I.tuple (.of hx)
      have ea := each_of I R 59 h1 qd r1
      obtain ⟨bs, hb, hk⟩ := Each.repr (P := X.prog) (w := X.w) ea s1 s2 fun t ht => Nat.le_trans (tupleText_mem_le ht) sz
      obtain ⟨as, ra⟩ := ea.reads
      have hna : a ∉ bs := not_mem_of_deeper (.tuple g1 g2 g3 (by simpa using ra)) (by simp only [PyData.depth]; omega) hb
      refine call_repr_slot (by omega) ⟨o, g1, g2⟩ F.slot_tuple_repr ?_
      exact call_tuple_reprK (h₀ := s.heap) g1 g2 g3 hna (by simpa using hk) hg (fun b _ => Clear.nil b) (by show X.A.units + 1 + (PyData.depthAll ps + 1) < cLine; omega) (fun _ _ z => z) (fun h' t tk hk' => ⟨_, _, rfl, .str (PyData.tuple ps).shown, H, I.kept hk', ⟨t, rfl⟩, q⟩) sz
    | ref hx =>
      rename_i a m
      exfalso
      have e' : (match h[m]? with
        | some (.lst l) => (opts (toPyR h 59) l).map PyData.list
        | some (.dct l) => (opts (toPyR h 59) (l.map (·.2))).map fun ps => .dict ((l.map fun p => keyP p.1).zip ps)
        | none => none) = some (.tuple ps) := e
      split at e'
      · obtain ⟨_, _, z⟩ := Option.map_eq_some_iff.mp e'; cases z
      · obtain ⟨_, _, z⟩ := Option.map_eq_some_iff.mp e'; cases z
      · cases e'
    | scr hx => cases e
    | non => cases e
    | bl b => cases e
    | int i => cases e
    | str x => cases e
    | opq v => cases e
    | adr a => cases e
    | ty n => cases e
  · cases sh
theorem call_repr {X : Cx} (hg : X.A.guards = some []) (hu : X.A.units + 64 < cLine) : CallR X (.builtin "repr") (rRepr X) := by
  intro pins s σ H xs us Q I r h
  obtain ⟨ι, h, d, p, v, rfl, R, rd, e, sh0, q⟩ := h
  rcases sh0 with sh | sh
  rotate_left
  · cases r with
    | cons rv rr =>
      cases rr
      exact call_reprT hg hu I R rd e sh rv q
  have sh' : (((p.showable = true ∧ (p.hasDict = false ∨ noLst p = true)) ∧ p.depth ≤ 60) ∧ p.shown.length ≤ 16777216) := by
    simpa [shows, small, Bool.and_eq_true, Bool.or_eq_true] using sh
  obtain ⟨⟨⟨s1, s2⟩, s3⟩, s4⟩ := sh'
  cases r with
  | cons rv rr =>
    cases rr
    rename_i u
    have fin : ∀ (h' : Heap) (t : Tok) (tk : Nat), (∀ b o, s.heap.get? b = some o → h'.get? b = some o) → EP X pins σ Q (.str p.shown t) { s with heap := h', toks := tk } := fun h' t tk hk => ⟨.str p.shown, H, I.kept hk, ⟨t, rfl⟩, q⟩
    obtain ⟨as, rd1, rd2⟩ := rd_of I R 60 d p v u e rd rv
    by_cases hu' : ∃ a, u = .ref a
    · obtain ⟨a, rfl⟩ := hu'
      refine repr_of_reads' rd1 s1 (fun hd => ?_) hg (by omega) (fun _ _ z => z) (fun h' t tk hk => fin h' t tk hk) (by rw [line_eq]; exact s4)
      intro hm
      rcases s2 with z | z
      · rw [z] at hd; cases hd
      · have := rd2 z _ hm
        simp at this
    · cases rd1 with
      | none => exact PySem.P.repr_of_none (fin s.heap _ _ fun _ _ z => z)
      | bool b => exact PySem.P.repr_of_bool (fin s.heap _ _ fun _ _ z => z)
      | int i t => exact PySem.P.repr_of_int (by simpa [PyData.showable] using s1) (fin s.heap _ _ fun _ _ z => z)
      | str x t => exact PySem.P.repr_of_str (fin s.heap _ _ fun _ _ z => z) (by rw [line_eq]; exact s4)
      | list _ _ _ _ => exact absurd ⟨_, rfl⟩ hu'
      | tuple _ _ _ _ => exact absurd ⟨_, rfl⟩ hu'
      | dict _ _ _ _ _ => exact absurd ⟨_, rfl⟩ hu'
theorem s_repr {X : Cx} {E : XK} : CaS X.K X.mg E gRepr (rRepr X) := by
  intro ι h H ds vs Q R r P
  unfold gRepr at P
  split at P
  · split at P
    · rename_i d _ p e
      split at P
      · rename_i hs
        obtain ⟨v, rfl, q⟩ := r.one
        exact ⟨ι, h, d, p, v, rfl, R, q, e, .inl hs, P ι H _ (Ext.refl _ _) R (.str _)⟩
      · split at P
        · rename_i hs
          obtain ⟨v, rfl, q⟩ := r.one
          exact ⟨ι, h, d, p, v, rfl, R, q, e, .inr hs, P ι H _ (Ext.refl _ _) R (.str _)⟩
        · exact P.elim
    · exact P.elim
  · exact P.elim
theorem m_repr {X : Cx} {E : XK} {a : Expr} {as : List Expr} {fs : Sa} {p pos : Pos} (wh : Wh X E) (hu : X.A.units + 64 < cLine) (hm : X.mg "repr" = none) (ha : PMa X E (a :: as) fs) (hg : Gl X "repr" := by rfl) (he : starEach (a :: as) X.env = (false, eval a X.env) :: starEach as X.env := by rfl) (hpl : (backTo pos (starEach as X.env)).any (·.1) = false := by rfl) :
    PM X E (.Call (.Name "repr" p) (a :: as) [] pos) (eBi gRepr fs) := m_bi (call_repr wh.gd hu) s_repr hm PyProof.Rows.bootS_repr ha hg (he := he) (hpl := hpl)
end MI
end

section
set_option Elab.async false
set_option linter.all false
set_option autoImplicit false
set_option maxRecDepth 100000
set_option maxHeartbeats 4000000
namespace MI
open PySem L2 PyProof.Rows HT
/-! ### t[::-1] -/
theorem adjust_rev (n : Nat) : Builtin.Slice.sliceAdjust none none (-1) (n : Int) = ((n : Int) - 1, -1) := by
  unfold Builtin.Slice.sliceAdjust
  simp
theorem places_rev (n : Nat) : Builtin.Slice.slicePlaces ((n : Int) - 1) (-1) (-1) = n := by
  unfold Builtin.Slice.slicePlaces
  have h1 : ¬ ((-1 : Int) > 0) := by omega
  simp only [h1, if_false, Int.neg_neg, Int.ediv_one]
  by_cases h : ((n : Int) - 1) > -1
  · simp only [h, if_true]; omega
  · simp only [h, if_false]; omega
theorem back_run (l : List Value) : ∀ k : Nat, k ≤ l.length → (List.range k).filterMap (fun m : Nat => l[l.length - 1 - m]?) = (l.drop (l.length - k)).reverse
  | 0, _ => by simp
  | k + 1, h => by
    have hk : l.length - 1 - k < l.length := by omega
    have e1 : l.length - (k + 1) = l.length - 1 - k := by omega
    have e2 : l.length - 1 - k + 1 = l.length - k := by omega
    rw [List.range_succ, List.filterMap_append, back_run l k (by omega), e1, List.drop_eq_getElem_cons hk, List.reverse_cons, e2]
    simp [List.getElem?_eq_getElem hk]
theorem fm_congr {α β : Type} {f g : α → Option β} : ∀ {l : List α}, (∀ a ∈ l, f a = g a) → l.filterMap f = l.filterMap g
  | [], _ => rfl
  | a :: l, h => by rw [List.filterMap_cons, List.filterMap_cons, h a List.mem_cons_self, fm_congr fun b hb => h b (List.mem_cons_of_mem _ hb)]
theorem pick_rev (l : List Value) : ((List.range l.toArray.size).filterMap fun (m : Nat) => l.toArray[(((l.toArray.size : Nat) : Int) - 1 + (m : Int) * (-1)).toNat]?).toArray = l.reverse.toArray := by
  congr 1
  have e : (List.range l.length).filterMap (fun (m : Nat) => l.toArray[((l.length : Int) - 1 + (m : Int) * (-1)).toNat]?) = (List.range l.length).filterMap (fun m : Nat => l[l.length - 1 - m]?) := by
    refine fm_congr fun m hm => ?_
    have h1 := List.mem_range.mp hm
    have h2 : ((l.length : Int) - 1 + (m : Int) * (-1)).toNat = l.length - 1 - m := by omega
    rw [h2, List.getElem?_toArray]
  rw [List.size_toArray, e, back_run l l.length (Nat.le_refl _), Nat.sub_self, List.drop_zero]
section
variable {prog : Program} {w : World} {A : Around} {E : Value → Shared → Prop} {s : Shared}
theorem getItem_back {t sl : Addr} {l : List Value} {vs : Value} {Q : Value → Shared → Prop} (ht : IsTup s.heap t l.toArray) (hs : s.heap.IsSliceOf sl .none .none vs) (pk : IsPart vs (some (-1)))
    (h : Q (.ref s.heap.objs.size) { s with heap := s.heap.push { cls := .type "tuple", data := .seq l.reverse.toArray } }) (hsz : l.length ≤ sizeLine) : wpAny (model prog w) A (getItem (.ref t) (.ref sl)) Q E s := by
  have hfit : sizeOk (.seq l.reverse.toArray) := by
    show l.reverse.toArray.size ≤ sizeLine
    rw [List.size_toArray, List.length_reverse]
    exact hsz
  obtain ⟨os, hos, hcs, hds⟩ := id hs
  have hTs : s.TypeIs (.ref sl) "slice" := ⟨os, hos, hcs⟩
  unfold getItem
  try with_reducible refine wpAny_holding ?_
  first | refine wpAny_bind (wpAny_pure ?_) | skip
  refine wpAny_bind (wpAny_sequenceKey ht.typeIs (by decide) ?_)
  refine wpAny_bind (wpAny_callSpecial?_slot (name := Str.ofString "__getitem__") ht.typeIs PyProof.Rows.slot_tuple_getitem (wpAny_call_entry PyProof.Rows.slot_tuple_getitem ht.typeIs entry_tuple_getitem ?_ (args_tuple_getitem _ _)))
  show wpAny _ _ (Builtin.Tuple.tupleItemsOf (.ref t) >>= _) _ _ s
  refine wpAny_bind (tupleItemsOf_ ht (wpAny_bind (wpAny_typeOf hTs ?_)))
  rw [if_pos (by decide)]
  have ap : ∀ {A' : Around} {E' : Value → Shared → Prop} {Q' : Int × Int × Nat → Shared → Prop}, Q' ((l.toArray.size : Int) - 1, -1, l.toArray.size) s → wpAny (model prog w) A' (Builtin.Slice.sliceApplied (.ref sl) (pure (l.toArray.size : Int))) Q' E' s := by
    intro A' E' Q' q
    unfold Builtin.Slice.sliceApplied Builtin.Slice.sliceFields
    refine wpAny_bind (wpAny_bind (wpAny_field hos hds (x := .none) rfl (wpAny_bind (wpAny_field hos hds (x := .none) rfl (wpAny_bind (wpAny_field hos hds (x := vs) rfl (wpAny_pure ?_)))))))
    refine wpAny_bind (slicePart_ pk ?_)
    show wpAny _ _ (if ((-1 : Int) == 0) = true then _ else _) _ _ s
    rw [if_neg (by decide)]
    refine wpAny_bind (slicePart_ .none (wpAny_bind (slicePart_ .none (wpAny_bind (wpAny_pure ?_)))))
    show wpAny _ _ (match Builtin.Slice.sliceAdjust none none (-1) ((l.toArray.size : Nat) : Int) with | (lo, hi) => pure (lo, (-1 : Int), Builtin.Slice.slicePlaces lo hi (-1))) _ _ s
    rw [adjust_rev]
    show wpAny _ _ (pure (((l.toArray.size : Nat) : Int) - 1, (-1 : Int), Builtin.Slice.slicePlaces (((l.toArray.size : Nat) : Int) - 1) (-1) (-1))) _ _ s
    rw [places_rev]
    exact wpAny_pure q
  refine wpAny_bind (ap ?_)
  have hno : ¬ (((((l.toArray.size : Nat) : Int) - 1) == 0 && (-1 : Int) == 1 && l.toArray.size == l.toArray.size) = true) := by
    intro q
    rw [Bool.and_eq_true, Bool.and_eq_true] at q
    exact absurd q.1.2 (by decide)
  show wpAny _ _ (if ((((l.toArray.size : Nat) : Int) - 1) == 0 && (-1 : Int) == 1 && l.toArray.size == l.toArray.size) = true then _ else _) _ _ s
  rw [if_neg hno, pick_rev]
  first
    | exact wpAny_bind (m := Builtin.Tuple.tupleExact _) (wpAny_newObj_type (wpAny_pure ⟨_, rfl, wpAny_pure h⟩) hfit)
    | exact wpAny_bind (m := Builtin.Tuple.tupleExact _) (wpAny_newObj_type (wpAny_bind (wpAny_pure (wpAny_pure ⟨_, rfl, wpAny_pure h⟩))) hfit)
    | exact wpAny_bind (wpAny_bind (m := Builtin.Tuple.tupleExact _) (wpAny_newObj_type (wpAny_pure (wpAny_pure ⟨_, rfl, wpAny_pure h⟩)) hfit))
    | exact wpAny_bind (wpAny_bind (m := Builtin.Tuple.tupleExact _) (wpAny_newObj_type (wpAny_pure ⟨_, rfl, wpAny_pure h⟩) hfit))
end
/-- a tuple (or a list) the other way about -/
def dBack (x : D) (h : Hq) : Rs D := match x with
  | .tup l => .ok (.tup l.reverse) h
  | .ref m => match lstAt h m with
    | some l => .ok (.ref h.length) (h ++ [.lst l.reverse])
    | none => .no
  | _ => .no
theorem VRs.back {K : PySem.W.Frag} {ι : List Addr} {H : Hp} {vs : List V} {l : List D} (r : VRs K ι H vs l) : VRs K ι H vs.reverse l.reverse := by
  induction l generalizing vs with
  | nil => cases r; exact .nil
  | cons d l ih =>
    cases r with
    | cons r1 r2 => rw [List.reverse_cons, List.reverse_cons]; exact (ih r2).append (.cons r1 .nil)
section
variable {X : Cx} {E : XK} {a : Expr} {fa : Sx} {k : Nat} {p1 p2 p3 pos : Pos}
theorem m_back (ha : PM X E a fa) : PM X E (.Subscript a (.Slice none none (some (.UnaryOp .USub (.Constant (.int 1) k p1) p2)) p3) pos) (eUn dBack fa) := by
  constructor
  intro pins s σ H Q I q
  obtain ⟨ι, h, fr, R, F, P⟩ := q
  refine Subscript_ (thn (ha.run pins s σ H _ I ⟨ι, h, fr, R, F, Po.bind P⟩) ?_)
  rintro v s1 ⟨x, H1, I1, r1, ι1, h1, d, e1, R1, rd, P1⟩
  have hst : PO X (some (.UnaryOp .USub (.Constant (.int 1) k p1) p2)) (tPart (tUn (rU fun i => .int (-i)) (tC (.int 1)))) := po_some (pe_un un_neg pe_int)
  refine wpAny_Slice (thn (po_none.run pins s1 σ H1 (fun o H2 => o = none ∧ H2 = H1) I1 ⟨rfl, rfl⟩) ?_)
  rintro vl s2 ⟨l, H2, I2, pl, rfl, rfl⟩
  refine thn (po_none.run pins s2 σ H2 (fun o H3 => o = none ∧ H3 = H2) I2 ⟨rfl, rfl⟩) ?_
  rintro vu s3 ⟨u, H3, I3, pu, rfl, rfl⟩
  refine thn (hst.run pins s3 σ H3 (fun o H4 => o = some (-1) ∧ H4 = H3) I3 ⟨1, rfl, -1, rfl, rfl, rfl⟩) ?_
  rintro vk s4 ⟨o, H4, I4, pk, rfl, rfl⟩
  have I5 : L2.Inv X pins σ H4 { s4 with heap := s4.heap.push { cls := .type "slice", data := .fields #[vl, vu, vk] } } := I4.kept (t' := s4.toks) fun b ob q => Heap.get?_push_of_some _ q
  unfold dBack at P1
  split at P1
  · cases rd with
    | tup hx qd =>
      rename_i xs a' vs
      cases r1
      obtain ⟨its, r, ht, hz⟩ := I5.tuple (.of hx)
      have el : vl = .none := by cases pl; rfl
      have eu : vu = .none := by cases pu; rfl
      subst el eu
      refine tail_any (ops := [.ref a', .ref s4.heap.objs.size]) ht.typeIs PyProof.Rows.slot_tuple_getitem.lookup (getItem_back ht (Heap.IsSliceOf.new _ _ _ vk) pk ?_ (by rw [← r.length]; exact hz)) (by with_unfolding_all rfl)
      have hf := I5.hok.fresh (Nat.le_refl _)
      obtain ⟨e2, R2⟩ := R1.tup hf vs.reverse
      refine ⟨.ref _, _, I5.laid (t' := s4.toks) (o := .tup vs.reverse) (fun b ob q => Heap.get?_push_of_some _ q) (Nat.le_refl _) ⟨by rw [List.length_reverse]; exact hz, _, r.reverse, ⟨_, Heap.get?_push_size _ rfl, rfl, _, rfl⟩⟩, rfl, P1 ι1 _ _ e2 R2 (.tup upd_same ((VRs.back qd).ext e2))⟩
  · split at P1
    · rename_i m _ xs hl
      cases rd with
      | ref hx =>
        rename_i a'
        cases r1
        obtain ⟨vs, c1, qd⟩ := R1.lst hx hl
        obtain ⟨its, r, ht, hz⟩ := I5.list (.of c1)
        have hlen := r.length
        refine tail_any (ops := [.ref a', .ref s4.heap.objs.size]) ht.isList.typeIs (PySem.slot_list_getitem.lookup) ?_ (by with_unfolding_all rfl)
        refine wpAny_getItem_list_slice ht.isList (Heap.IsSliceOf.new _ vl vu vk) pl pu pk (by decide) ?_ (by rw [List.size_toArray]; omega)
        rw [PySem.W.krv_pick]
        have hf := I5.hok.fresh (Nat.le_refl _)
        obtain ⟨e2, R2⟩ := R1.new hf (o := .lst vs.reverse) (c := .lst xs.reverse) fun ι' H' e z => ⟨_, z, (VRs.back qd).ext e⟩
        refine ⟨.ref _, _, I5.laid (t' := s4.toks) (o := .lst vs.reverse) (fun b ob q => Heap.get?_push_of_some _ q) (Nat.le_refl _) ⟨by rw [List.length_reverse]; exact hz, _, 0, r.reverse, Heap.get?_push_size _ rfl⟩, rfl, P1 _ _ _ e2 R2 (.ref (ref_new R1 _))⟩
    · exact P1.elim
  · exact P1.elim
end
end MI
end

section
set_option Elab.async false
set_option linter.all false
set_option autoImplicit false
set_option maxRecDepth 100000
set_option maxHeartbeats 4000000
namespace MI
open PySem L2
open PyProof.Rows (envOfC)

/-! ### comprehensions -/
def wipeF (fr : Fr) : List Nat → Fr
  | [] => fr
  | v :: vs => (wipeF fr vs).set v none
theorem fr_wipe {K : PySem.W.Frag} {ι : List Addr} {H : Hp} {σ : L2.St} {fr : Fr} (F : FR K ι H σ fr) : ∀ vs : List Nat, FR K ι H (L2.wipe σ vs) (wipeF fr vs)
  | [] => F
  | v :: vs => (fr_wipe F vs).wipe v
theorem wipe_get (σ : L2.St) : ∀ (vs : List Nat) (j : Nat), (L2.wipe σ vs)[j]? = if j ∈ vs then σ[j]?.map (fun _ => none) else σ[j]?
  | [], j => by simp [L2.wipe]
  | v :: vs, j => by
    have e : L2.wipe σ (v :: vs) = (L2.wipe σ vs).set v none := rfl
    rw [e, List.getElem?_set]
    have ih := wipe_get σ vs j
    by_cases hj : v = j
    · subst hj
      rw [if_pos rfl, if_pos List.mem_cons_self, L2.wipe_length]
      by_cases hl : v < σ.length
      · rw [if_pos hl, List.getElem?_eq_getElem hl]; rfl
      · rw [if_neg hl, List.getElem?_eq_none (by omega)]; rfl
    · rw [if_neg hj, ih]
      by_cases hm : j ∈ vs
      · rw [if_pos hm, if_pos (List.mem_cons_of_mem _ hm)]
      · rw [if_neg hm, if_neg (by simp [hm]; omega)]
theorem wipe_set {σ : L2.St} {vs : List Nat} {i : Nat} {x : Option V} (hi : i ∈ vs) : L2.wipe (σ.set i x) vs = L2.wipe σ vs := by
  refine List.ext_getElem? fun j => ?_
  rw [wipe_get, wipe_get]
  by_cases hj : j ∈ vs
  · rw [if_pos hj, if_pos hj, List.getElem?_set]
    by_cases hij : i = j
    · subst hij
      by_cases hl : i < σ.length
      · simp [hl]
      · simp [hl]
    · simp [hij]
  · rw [if_neg hj, if_neg hj, List.getElem?_set_ne (fun z : i = j => hj (by rw [← z]; exact hi))]
theorem wipe_wipe (σ : L2.St) (vs : List Nat) : L2.wipe (L2.wipe σ vs) vs = L2.wipe σ vs := by
  refine List.ext_getElem? fun j => ?_
  rw [wipe_get, wipe_get]
  by_cases hj : j ∈ vs
  · rw [if_pos hj, if_pos hj]
    cases σ[j]? <;> rfl
  · rw [if_neg hj, if_neg hj]
/-- a comprehension's turns: its list grows at the cell m -/
def picks (m : Nat) (get : Nat → Hq → Option D) (fin : Nat → Hq → Bool) (t : Tg) (c : Sb) (e : Sx) (fr : Fr) : Nat → Nat → Hq → Rs D
  | 0, i, h => if fin i h = true then .ok (.ref m) h else .no
  | n + 1, i, h => match get i h with
    | none => .no
    | some d => match t d fr with
      | none => .no
      | some fr1 => match c fr1 h with
        | .ok true h1 => match e fr1 h1 with
          | .ok y h2 => match lstAt h2 m with
            | some acc => if small (acc.length + 1) = true then picks m get fin t c e fr n (i + 1) (h2.set m (.lst (acc ++ [y]))) else .no
            | none => .no
          | _ => .no
        | .ok false h1 => picks m get fin t c e fr n (i + 1) h1
        | _ => .no
def eComp (src : Si) (own : List Nat) (t : Tg) (c : Sb) (e : Sx) : Sx := fun fr h => (src fr h).bind fun S h1 => picks h1.length S.get S.fin t c e (wipeF fr own) S.n 0 (h1 ++ [.lst []])
def cYes : Sb := fun _ h => .ok true h
abbrev E00 : XK := fun _ _ _ => False
section
variable {K : PySem.W.Frag} {mg : Str → Option Value} {Q : VK}
theorem comp_in {ι : List Addr} {H1 : Hp} {J : It} {get : Nat → Hq → Option D} {fin : Nat → Hq → Bool} {t : Tg} {c : Sb} {e : Sx} {gg : TG} {own : List Nat} {E : XK} (w : Wk K ι H1 J get fin) (hg : TgS K gg t)
    (hw : ∀ (v : V) (σ : L2.St) (H : Hp) (Q : L2.St → Hp → Prop), gg v (L2.wipe σ own) H Q → gg v (L2.wipe σ own) H fun σ2 H2 => L2.wipe σ2 own = L2.wipe σ own ∧ Q σ2 H2)
    {n : Nat} {h0 : Hq} {fr : Fr} {σ : L2.St} (R0 : HR K ι h0 H1) (F0 : FR K ι H1 σ fr)
    (P0 : PoV K mg ι H1 Q E (picks h0.length get fin t c e (wipeF fr own) n 0 (h0 ++ [.lst []]))) : ∀ Dd, H1 Dd = none → ∃ W : Nat → Nat → Hp → Prop, (∃ m, W 0 m (upd H1 Dd (.lst []))) ∧ ∀ i m H, W i m H →
        (J.stop i H ∧ Q (.ref Dd) H) ∨ (J.go i H ∧ ∃ Nx : Hp → Prop, (∀ H', Nx H' → ∃ m', m' < m ∧ W (i + 1) m' H') ∧ ∀ x H', J.yld i H x H' → gg x (L2.wipe σ own) H' fun σ2 H2 => L2.wipe σ2 own = L2.wipe σ own ∧ tMb K mg E00 c σ2 H2 fun b H3 =>
          if b = true then tM K mg E00 e σ2 H3 fun y H4 => ∃ acc, H4 Dd = some (.lst acc) ∧ acc.length < sizeLine ∧ Nx (upd H4 Dd (.lst (acc ++ [y]))) else Nx H3) := by
  intro Dd nD
  obtain ⟨eD, RD⟩ := R0.new nD (o := .lst []) (c := .lst []) fun ι' H' _ q => ⟨[], q, .nil⟩
  have hD : (ι ++ [Dd])[h0.length]? = some Dd := ref_new R0 Dd
  refine ⟨fun i m H => ∃ ι1 h, Ext (ι ++ [Dd]) (upd H1 Dd (.lst [])) ι1 H ∧ HR K ι1 h H ∧ PoV K mg ι1 H Q E (picks h0.length get fin t c e (wipeF fr own) m i h), ⟨n, _, _, Ext.refl _ _, RD, Po.ext eD P0⟩, ?_⟩
  rintro i m H ⟨ι1, h, e1, R, P⟩
  have eAll : Ext ι H1 ι1 H := eD.trans e1
  cases m with
  | zero =>
    unfold picks at P
    split at P
    · rename_i hf
      exact .inl ⟨w.stop i ι1 h H eAll R hf, P ι1 H _ (Ext.refl _ _) R (.ref (e1.get hD))⟩
    · exact P.elim
  | succ m =>
    unfold picks at P
    split at P
    · exact P.elim
    · rename_i _ d hd
      split at P
      · exact P.elim
      · rename_i _ fr1 ht
        obtain ⟨g1, g2⟩ := w.go i ι1 h H d eAll R hd
        refine .inr ⟨g1, fun H' => ∃ ι2 h2, Ext (ι ++ [Dd]) (upd H1 Dd (.lst [])) ι2 H' ∧ HR K ι2 h2 H' ∧ PoV K mg ι2 H' Q E (picks h0.length get fin t c e (wipeF fr own) m (i + 1) h2), fun H' q => ⟨m, Nat.lt_succ_self m, q⟩, fun x H' y => ?_⟩
        obtain ⟨ι2, e2, R2, r2⟩ := g2 x H' y
        have F2 : FR K ι2 H' (L2.wipe σ own) (wipeF fr own) := (fr_wipe F0 own).ext (eAll.trans e2)
        refine hw x σ H' _ (hg ι2 h H' x d _ _ fr1 _ R2 r2 F2 ht fun σ2 F3 => ?_)
        refine ⟨ι2, h, fr1, R2, F3, ?_⟩
        split at P
        · rename_i h3 hc
          rw [hc]
          intro ι3 H3 b e3 R3 hb
          have hb' : b = true := hb
          subst hb'
          rw [if_pos rfl]
          refine ⟨ι3, h3, fr1, R3, F3.ext e3, ?_⟩
          split at P
          · rename_i y' h4 he
            split at P
            · rename_i _ acc hl
              split at P
              · rename_i hz
                rw [he]
                intro ι4 H4 v e4 R4 rv
                have eF : Ext (ι ++ [Dd]) (upd H1 Dd (.lst [])) ι4 H4 := ((e1.trans e2).trans e3).trans e4
                have hx := eF.get hD
                obtain ⟨vs, c1, q1⟩ := R4.lst hx hl
                have hz' := small_le hz
                obtain ⟨e5, R5⟩ := R4.put (lstAt_some hl) hx (o := .lst (vs ++ [v])) (c := .lst (acc ++ [y'])) fun H' e z => ⟨_, z, (q1.append (.cons rv .nil)).ext e⟩
                exact ⟨vs, c1, by rw [q1.length]; omega, ι4, _, eF.trans e5, R5, Po.ext (((e2.trans e3).trans e4).trans e5) P⟩
              · exact P.elim
            · exact P.elim
          · exact P.elim
        · rename_i h3 hc
          rw [hc]
          intro ι3 H3 b e3 R3 hb
          have hb' : b = false := hb
          subst hb'
          rw [if_neg Bool.false_ne_true]
          exact ⟨ι3, h3, (e1.trans e2).trans e3, R3, Po.ext (e2.trans e3) P⟩
        · exact P.elim
end
/-- a comprehension's target, of names of its own -/
structure PMo' (X : Cx) (scope : Scope) (tg : Expr) (t : Tg) (own : List Nat) : Prop where
  ex : ∃ g, (∀ (s : Shared) (H : Hp) (C : Addr) (cl : List (Str × Addr)) (fp : List Addr), PG (X.blk s H scope (compEnvC scope cl C X.env) fp) tg g) ∧ TgS X.K g t ∧
    ∀ (v : V) (σ : L2.St) (H : Hp) (Q : L2.St → Hp → Prop), g v (L2.wipe σ own) H Q → g v (L2.wipe σ own) H fun σ2 H2 => L2.wipe σ2 own = L2.wipe σ own ∧ Q σ2 H2
section
variable {X : Cx} {E : XK} {scope : Scope} {pos : Pos}
theorem m_oN (i : Nat) {x : Str} {own : List Nat} (nd : X.N.Nodup) (hi : X.N[i]? = some x := by rfl) (ho : i ∈ own := by decide)
    (hx : ∀ (C : Addr) (cl : List (Str × Addr)), Loc (compEnvC scope cl C X.env).scope x := by intro _ _; first | exact Or.inl rfl | exact Or.inr rfl)
    (hf : ∀ (C : Addr) (cl : List (Str × Addr)), (scope.names.lookup x == some NameKind.cell) = true ∨ (compEnvC scope cl C X.env).scope.names.lookup x = some .local := by intro _ _; first | exact .inl rfl | exact .inr rfl) :
    PMo' X scope (.Name x pos) (tgN i) own :=
  ⟨gName i, fun s H C cl fp => pg_name (X := X.blk s H scope (compEnvC scope cl C X.env) fp) nd hi (hx C cl) (hf C cl), tgN_s i, fun v σ H Q q => ⟨by rw [wipe_set ho, wipe_wipe], q⟩⟩
/-- two names, three -/
theorem m_oT2 (i j : Nat) {x y : Str} {own : List Nat} {k : Nat} {px py : Pos} (nd : X.N.Nodup) (hc : X.calm = true) (hi : X.N[i]? = some x := by rfl) (hj : X.N[j]? = some y := by rfl) (ho : i ∈ own := by decide) (ho2 : j ∈ own := by decide)
    (hx : ∀ (C : Addr) (cl : List (Str × Addr)), Loc (compEnvC scope cl C X.env).scope x := by intro _ _; first | exact Or.inl rfl | exact Or.inr rfl)
    (hf : ∀ (C : Addr) (cl : List (Str × Addr)), (scope.names.lookup x == some NameKind.cell) = true ∨ (compEnvC scope cl C X.env).scope.names.lookup x = some .local := by intro _ _; first | exact .inl rfl | exact .inr rfl)
    (hy : ∀ (C : Addr) (cl : List (Str × Addr)), Loc (compEnvC scope cl C X.env).scope y := by intro _ _; first | exact Or.inl rfl | exact Or.inr rfl)
    (hf2 : ∀ (C : Addr) (cl : List (Str × Addr)), (scope.names.lookup y == some NameKind.cell) = true ∨ (compEnvC scope cl C X.env).scope.names.lookup y = some .local := by intro _ _; first | exact .inl rfl | exact .inr rfl) :
    PMo' X scope (.Tuple [.Name x px, .Name y py] k pos) (tgT [i, j]) own := by
  refine ⟨gTup X.K 2 (gCons (gName i) (gCons (gName j) gNil)), fun s H C cl fp => pg_tup (X := X.blk s H scope (compEnvC scope cl C X.env) fp) hc
    (pgs_cons (pg_name (X := X.blk s H scope (compEnvC scope cl C X.env) fp) nd hi (hx C cl) (hf C cl)) (pgs_cons (pg_name (X := X.blk s H scope (compEnvC scope cl C X.env) fp) nd hj (hy C cl) (hf2 C cl)) pgs_nil)), ?_, ?_⟩
  · intro ι h H v d σ fr fr' Q R r F e k
    unfold tgT at e
    split at e
    · rename_i l
      cases r with
      | tup hx q =>
        match l, e with
        | [d1, d2], e =>
          cases e
          obtain ⟨v1, v2, rfl, q1, q2⟩ := q.two
          exact ⟨_, _, rfl, .of hx, rfl, v1, [v2], rfl, v2, [], rfl, rfl, k _ ((F.set q1).set q2)⟩
    · cases e
  · rintro v σ H Q ⟨a, xs, e1, hs, hl, v1, r, e2, v2, r2, e3, e4, q⟩
    subst e2 e3 e4
    exact ⟨a, _, e1, hs, hl, v1, _, rfl, v2, _, rfl, rfl, by rw [wipe_set ho2, wipe_set ho, wipe_wipe], q⟩
variable {elt tg iter : Expr} {src : Si} {t : Tg} {c : Sb} {fe : Sx} {own : List (Str × Nat)}
/-- the tests: none, one -/
def PMt (X : Cx) (scope : Scope) (ifs : List Expr) (c : Sb) : Prop := ∀ (s : Shared) (H : Hp) (C : Addr) (cl : List (Str × Addr)) (fp : List Addr), PTs (X.blk s H scope (compEnvC scope cl C X.env) fp) ifs (tMb X.K X.mg E00 c)
theorem m_t0 : PMt X scope [] cYes := fun s H C cl fp => ⟨fun pins s σ H Q I ⟨ι, h, fr, R, F, P⟩ => pts_nil.run pins s σ H Q I (P ι H true (Ext.refl _ _) R rfl)⟩
theorem m_t1 {a : Expr} (h : ∀ (s : Shared) (H : Hp) (C : Addr) (cl : List (Str × Addr)) (fp : List Addr), PMb (X.blk s H scope (compEnvC scope cl C X.env) fp) E00 a c) : PMt X scope [a] c := fun s H C cl fp => pts_one (h s H C cl fp)
theorem tLc_in {ifs : List Expr} {gg : TG} (hg : TgS X.K gg t) (hw : ∀ (v : V) (σ : L2.St) (H : Hp) (Q : L2.St → Hp → Prop), gg v (L2.wipe σ (own.map (·.2))) H Q → gg v (L2.wipe σ (own.map (·.2))) H fun σ2 H2 => L2.wipe σ2 (own.map (·.2)) = L2.wipe σ (own.map (·.2)) ∧ Q σ2 H2)
    {σ : L2.St} {H : Hp} {Q : VK} (q : tM X.K X.mg E (eComp src (own.map (·.2)) t c fe) σ H Q) : tLc (tMi X.K X.mg E src) gg (tMb X.K X.mg E00 c) (tM X.K X.mg E00 fe) (own.map (·.2)) σ H Q := by
  obtain ⟨ι, h, fr, R, F, P⟩ := q
  refine ⟨ι, h, fr, R, F, Po.mono ?_ (Po.bind P)⟩
  rintro J H1 ⟨i1, h1, S, e1, R1, w, P1⟩
  exact comp_in w hg hw R1 (F.ext e1) P1
/-- a comprehension as a worth -/
theorem m_comp {ifs : List Expr} (wh : Wh X E) (hi : PMi X E tg iter src) (ok : BlkOk X.N X.env.scope scope own) (ho : PMo' X scope tg t (own.map (·.2))) (ht : PMt X scope ifs c)
    (he : ∀ (s : Shared) (H : Hp) (C : Addr) (cl : List (Str × Addr)) (fp : List Addr), PM (X.blk s H scope (compEnvC scope cl C X.env) fp) E00 elt fe) (hs : ∀ x, foldedSetIterable iter X.env x = pure x := by intro _; rfl) :
    PM X E (.ListComp elt [⟨tg, iter, ifs, 0⟩] scope pos) (eComp src (own.map (·.2)) t c fe) := by
  obtain ⟨g, hg, hgs, hw⟩ := ho.ex
  exact pe_imp (pe_lc wh.calm wh.nd hi ok hg ht he hs) fun σ H Q q => tLc_in (ifs := ifs) hgs hw q
/-- name = [..] -/
theorem m_setC (i : Nat) {y : Str} {py spos : Pos} {ifs : List Expr} (wh : Wh X E) (hi : PMi X E tg iter src) (ok : BlkOk X.N X.env.scope scope own) (ho : PMo' X scope tg t (own.map (·.2))) (ht : PMt X scope ifs c)
    (he : ∀ (s : Shared) (H : Hp) (C : Addr) (cl : List (Str × Addr)) (fp : List Addr), PM (X.blk s H scope (compEnvC scope cl C X.env) fp) E00 elt fe)
    (hsw : swapsWith (.ListComp elt [⟨tg, iter, ifs, 0⟩] scope pos) (some (.Name y py)) spos.line X.env = pure true) (hy : X.N[i]? = some y := by rfl) (hyl : X.env.scope.names.lookup y = some .local := by rfl) (hs : ∀ x, foldedSetIterable iter X.env x = pure x := by intro _; rfl) :
    PMs X E (.Assign [.Name y py] (.ListComp elt [⟨tg, iter, ifs, 0⟩] scope pos) spos) (sAsg (eComp src (own.map (·.2)) t c fe) (tgN i)) := by
  obtain ⟨g, hg, hgs, hw⟩ := ho.ex
  refine ps_imp (ps_setLc (te := tM X.K X.mg E00 fe) wh.calm wh.nd hy hyl hsw hi ok hg ht he hs) fun Z σ H q => ?_
  have q2 := asg_in (tgN_s i) q
  exact tLc_in (ifs := ifs) hgs hw q2
end

/-! ### keywords -/
abbrev PMk (X : Cx) (E : XK) (kws : List Keyword) (f : Sa) : Prop := PK X kws (tMa X.K X.mg E f)
section
variable {X : Cx} {E : XK} {k : Nat} {f : Addr} {fd : FuncData} {ps ks : List Str} {sem : Sf} {x : Str} {p pos kpos : Pos} {a : Expr} {as : List Expr} {fs fk : Sa} {kws : List Keyword} {nm : Option Str} {fa : Sx}
theorem pk_imp {t t' : TA} (h : PK X kws t) (m : ∀ σ H Q, t' σ H Q → t σ H Q) : PK X kws t' := ⟨fun pos pins s σ H Q I q => h.run pos pins s σ H Q I (m σ H Q q)⟩
theorem m_kNil : PMk X E [] aNil := pk_imp pk_nil fun σ H Q ⟨ι, h, fr, R, F, P⟩ => P ι H [] (Ext.refl _ _) R .nil
theorem m_kCons (ha : PM X E a fa) (hr : PMk X E kws fk) : PMk X E (⟨nm, a, kpos⟩ :: kws) (aCons fa fk) := pk_imp (pk_cons ha hr) fun σ H Q ⟨ι, h, fr, R, F, P⟩ => by
  refine ⟨ι, h, fr, R, F, Po.mono ?_ (Po.bind P)⟩
  rintro v H1 ⟨ι1, h1, d, e1, R1, r1, P1⟩
  refine ⟨ι1, h1, fr, R1, F.ext e1, Po.mono ?_ (Po.bind P1)⟩
  rintro vs H2 ⟨ι2, h2, xs, e2, R2, r2, P2⟩
  exact P2 ι2 H2 _ (Ext.refl _ _) R2 (.cons (r1.ext e2) r2)
/-- f(a, .., k = b, ..): the written arguments, then the keywords' (in the parameters' order) -/
def eCallK (n : Nat) (sem : Sf) (f g : Sa) : Sx := fun fr h => (f fr h).bind fun ds h1 => (g fr h1).bind fun es h2 => if (ds ++ es).length = n then sem (ds ++ es) h2 else .no
theorem m_callK {n : Nat} (F : FnG X.prog X.w X.K X.mg X.base k f fd ps sem) (wh : Wh X E) (hr : Room k X.A) (hm : X.mg x = some (.ref f)) (hk : PySem.W.keepIn X.K (.ref f) = true)
    (hb : ∀ (s : Shared) (us ws : List Value), X.K.In s.heap → us.length = n → ws.length = ks.length → BindsTo s fd ⟨us, ks.zip ws⟩ (ps.zip (us ++ ws))) (hn : n + ks.length = ps.length)
    (ha : PMa X E (a :: as) fs) (hkw : PMk X E kws fk) (hlen : ∀ fr h ds h', fs fr h = .ok ds h' → ds.length = n) (hg : Gl X x := by rfl) (hall : (backToKw pos (keywordEach kws X.env)).all (·.1.isSome) = true := by rfl) (hks : (backToKw pos (keywordEach kws X.env)).filterMap (·.1) = ks := by rfl)
    (hdb : (x == ("__debug__" : Str)) = false := by decide) (he : starEach (a :: as) X.env = (false, eval a X.env) :: starEach as X.env := by rfl)
    (hpl : ((backTo pos (starEach (a :: as) X.env)).any (·.1) || (backToKw pos (keywordEach kws X.env)).any (·.1.isNone)) = false := by rfl) : PM X E (.Call (.Name x p) (a :: as) kws pos) (eCallK ps.length sem fs fk) := by
  constructor
  intro pins s σ H Q I q
  obtain ⟨ι, h, fr, R, F', P⟩ := q
  refine wpAny_Call_Name_kw (ld_glob I hg hm ?_ hdb)
  have P0 : PoA X.K X.mg ι H (fun vs H1 => ∃ ι1 h1 ds, Ext ι H ι1 H1 ∧ HR X.K ι1 h1 H1 ∧ VRs X.K ι1 H1 vs ds ∧ ds.length = n ∧ PoV X.K X.mg ι1 H1 Q E ((fk fr h1).bind fun es h2 => if (ds ++ es).length = ps.length then sem (ds ++ es) h2 else .no)) E (fs fr h) := by
    unfold eCallK at P
    cases hq : fs fr h with
    | no => rw [hq] at P; exact P.elim
    | exc x1 h1 => rw [hq] at P; exact P
    | ok ds h1 =>
      rw [hq] at P
      exact fun ι1 H1 vs e1 R1 r1 => ⟨ι1, h1, ds, e1, R1, r1, hlen fr h ds h1 hq, Po.ext e1 P⟩
  refine PySem.W.callWith_KW (h₀ := X.base) I.ok.mod.kin hk hall (thn (ha.run pos pins s σ H _ I ⟨ι, h, fr, R, F', P0⟩) ?_) hpl he
  rintro us s1 ⟨vs, H1, I1, rv, ι1, h1, ds, e1, R1, r1, hl1, P1⟩
  refine thn (hkw.run pos pins s1 σ H1 _ I1 ⟨ι1, h1, fr, R1, F'.ext e1, Po.bind P1⟩) ?_
  rintro ws s2 ⟨zs, H2, I2, rz, ι2, h2, es, e2, R2, r2, P2⟩
  refine ⟨I2.kIn, ?_⟩
  rw [hks]
  split at P2
  · rename_i hl
    have rr : VRs X.K ι2 H2 (vs ++ zs) (ds ++ es) := (r1.ext e2).append r2
    have ru : Vals (vs ++ zs) (us ++ ws) := rv.append rz
    have l1 : us.length = n := by rw [← rv.length, r1.length]; exact hl1
    have l2 : ws.length = ks.length := by
      rw [← rz.length, r2.length]
      rw [List.length_append] at hl
      omega
    refine wpAny_call (codeAny_mono (runG (us := us) (vs := vs) F wh hr I2 (hb s2 us ws I2.kIn l1 l2) ru R2 rr hl P2) ?_)
    intro z s' q
    cases z with
    | error e => exact q
    | ok fl =>
      cases fl with
      | ret u => exact q
      | next => exact q.elim
      | brk => exact q.elim
      | cont => exact q.elim
  · exact P2.elim
end
end MI
end

section
set_option Elab.async false
set_option linter.all false
set_option autoImplicit false
set_option maxRecDepth 100000
set_option maxHeartbeats 4000000
namespace MI
open PySem L2
open PyProof.Rows (envOfC)

/-! ### classes as values -/
section
variable {X : Cx} {E : XK} {x : Str} {pos : Pos}
theorem m_cls {C : Addr} (hm : X.mg x = some (.ref C)) (hg : Gl X x := by rfl) (hd : (x == ("__debug__" : Str)) = false := by decide) : PM X E (.Name x pos) (eK (.adr C)) :=
  pe_imp (pe_glob (v := V.ref C) hg hm rfl hd) fun σ H Q ⟨ι, h, fr, R, F, P⟩ => P ι H _ (Ext.refl _ _) R (.adr C)
theorem m_bty {T : String} (hm : X.mg x = none) (hv : bootBuiltins x = some (.type T)) (hg : Gl X x := by rfl) (hn : x ≠ "__name__" := by decide) (hd : (x == ("__debug__" : Str)) = false := by decide) : PM X E (.Name x pos) (eK (.ty T)) :=
  pe_imp (pe_bltn (v := V.ty T) hg hm hv rfl hn hd) fun σ H Q ⟨ι, h, fr, R, F, P⟩ => P ι H _ (Ext.refl _ _) R (.ty T)
end
/-- the class that a value is -/
def clsD : D → Option Value
  | .adr C => some (.ref C)
  | .ty n => some (.type n)
  | _ => none
theorem cls_rel {K : PySem.W.Frag} {ι : List Addr} {H : Hp} {v : V} {d : D} {c : Value} (r : VR K ι H v d) (e : clsD d = some c) : ClsV v c := by
  cases r <;> cases e
  · exact .own _
  · exact .ty _
theorem cls_rels {K : PySem.W.Frag} {ι : List Addr} {H : Hp} : ∀ {ds : List D} {vs : List V} {cs : List Value}, VRs K ι H vs ds → opts clsD ds = some cs → Paired ClsV vs cs
  | [], _, _, r, e => by cases r; cases e; exact .nil
  | d :: ds, _, _, r, e => by
    unfold opts at e
    split at e
    · rename_i p q h1 h2
      cases e
      cases r with
      | cons r1 r2 => exact .cons (cls_rel r1 h1) (cls_rels r2 h2)
    · cases e
/-- isinstance(e, (c1, ..)), e the exception that the suite holds -/
def rIsET (K : PySem.W.Frag) (Dc a : Addr) : List V → Hp → VK → Prop := fun xs H Q => ∃ (tp : Addr) (cs : List V) (us : List Value) (b : Bool), xs = [.ref a, .ref tp] ∧ SqT K H tp cs ∧ Paired ClsV cs us ∧ PySem.W.kitAny K (.ref Dc) us = some b ∧ Q (.bl b) H
theorem call_isET {X : Cx} {a Dc : Addr} {oe : Obj} {pn : List (Addr × Obj)} (C : ExcC X.K Dc) (hz : Zc (.ref Dc) none oe) (hf : ∃ vs, oe.data = .fields vs) : CallR (X.suite a ((a, oe) :: pn)) (.builtin "isinstance") (rIsET X.K Dc a) := by
  intro pins s σ H xs us Q I r h
  obtain ⟨tp, cs, ws, b, rfl, hx, hp, e, q⟩ := h
  cases r with
  | cons rx rr =>
    cases rr with
    | cons rt rr =>
      cases rr
      cases rx
      cases rt
      obtain ⟨hget, _⟩ := I.pin (a, oe) (List.mem_append.mpr (.inl List.mem_cons_self))
      obtain ⟨vs, hv⟩ := hf
      have J : PySem.W.InstAt s.heap a oe Dc none := by
        obtain ⟨oc, od, oda, osl⟩ := oe
        obtain ⟨h1, h2⟩ := hz
        dsimp only at h1 h2 hv
        subst h1 h2 hv
        exact ⟨hget, rfl, rfl, trivial⟩
      obtain ⟨its, r1, ⟨o, g1, g2, m, g3⟩, _⟩ := I.tuple hx
      have ew := ClsV.all hp r1
      subst ew
      obtain ⟨oc, od, oda, osl⟩ := o
      dsimp only at g2 g3
      subst g2 g3
      exact PySem.W.kia_tup (PySem.W.handS_kitx_exc C.hg C.hk C.hs C.hd C.ha C.hn C.ht C.hm) I.kIn J g1 e (fun z => nomatch z) fun tk => ⟨.bl b, H, I.kept (t' := tk) fun _ _ z => z, rfl, q⟩
/-- the answer b, which is known -/
def eIsE (a : Addr) (b : Bool) (f g : Sx) : Sx := fun fr h => (f fr h).bind fun d h1 => match d with
  | .adr c => if c = a then (g fr h1).bind fun _ h2 => .ok (.bl b) h2 else .no
  | _ => .no
section
variable {X : Cx} {E : XK} {a Dc : Addr} {oe : Obj} {pn : List (Addr × Obj)} {e c : Expr} {fe fc : Sx} {p pos : Pos} {b : Bool}
theorem m_isE (C : ExcC X.K Dc) (hz : Zc (.ref Dc) none oe) (hf : ∃ vs, oe.data = .fields vs) {dc : D} {u : Value} (hi : X.mg "isinstance" = none) (he0 : PM (X.suite a ((a, oe) :: pn)) E e fe) (hc0 : PM (X.suite a ((a, oe) :: pn)) E c (eK dc))
    (hu : clsD dc = some u) (hk : PySem.W.kitOne X.K (.ref Dc) u = some b) (hg : Gl X "isinstance" := by rfl)
    (he : starEach [e, c] X.env = (false, eval e X.env) :: starEach [c] X.env := by rfl) (he2 : starEach [c] X.env = (false, eval c X.env) :: starEach [] X.env := by rfl) (hpl : (backTo pos (starEach [c] X.env)).any (·.1) = false := by rfl) :
    PM (X.suite a ((a, oe) :: pn)) E (.Call (.Name "isinstance" p) [e, c] [] pos) (eIsE a b fe (eK dc)) := by
  have hc1 := pe_callB (X := X.suite a ((a, oe) :: pn)) (p := p) (pos := pos) (call_isE C hz hf) hg hi (by decide +kernel) (pa_cons he0 (pa_cons hc0 pa_nil he2) he) (he := he) (hpl := hpl)
  refine pe_imp hc1 fun σ H Q ⟨ι, h, fr, R, F, P⟩ => ?_
  unfold eIsE at P
  cases hq : fe fr h with
  | no => rw [hq] at P; exact P.elim
  | exc x1 h1 => rw [hq] at P; exact ⟨ι, h, fr, R, F, by rw [hq]; exact P⟩
  | ok d h1 =>
    rw [hq] at P
    refine ⟨ι, h, fr, R, F, ?_⟩
    rw [hq]
    intro ι1 H1 v e1 R1 r1
    cases d with
    | adr ca =>
      have P0 : PoV X.K X.mg ι H Q E (if ca = a then .ok (.bl b) h1 else .no) := P
      have ea : ca = a := by
        by_cases z : ca = a
        · exact z
        · rw [if_neg z] at P0; exact P0.elim
      subst ea
      refine ⟨ι1, h1, fr, R1, F.ext e1, ?_⟩
      intro ι2 H2 v2 e2 R2 r2
      cases r1
      rw [if_pos rfl] at P0
      have P' : PoV X.K X.mg ι H Q E (.ok (.bl b) h1) := P0
      exact ⟨v2, u, b, rfl, fun w rw' => (cls_rel r2 hu).eq rw', hk, P' ι2 H2 _ (e1.trans e2) R2 (.bl b)⟩
    | _ => exact P.elim
theorem m_isET (C : ExcC X.K Dc) (hz : Zc (.ref Dc) none oe) (hf : ∃ vs, oe.data = .fields vs) {ds : List D} {us : List Value} (hi : X.mg "isinstance" = none) (he0 : PM (X.suite a ((a, oe) :: pn)) E e fe) (hc0 : PM (X.suite a ((a, oe) :: pn)) E c fc)
    (hfc : ∀ fr h, fc fr h = .ok (.tup ds) h) (hu : opts clsD ds = some us) (hk : PySem.W.kitAny X.K (.ref Dc) us = some b) (hg : Gl X "isinstance" := by rfl)
    (he : starEach [e, c] X.env = (false, eval e X.env) :: starEach [c] X.env := by rfl) (he2 : starEach [c] X.env = (false, eval c X.env) :: starEach [] X.env := by rfl) (hpl : (backTo pos (starEach [c] X.env)).any (·.1) = false := by rfl) :
    PM (X.suite a ((a, oe) :: pn)) E (.Call (.Name "isinstance" p) [e, c] [] pos) (eIsE a b fe fc) := by
  have hc1 := pe_callB (X := X.suite a ((a, oe) :: pn)) (p := p) (pos := pos) (call_isET C hz hf) hg hi (by decide +kernel) (pa_cons he0 (pa_cons hc0 pa_nil he2) he) (he := he) (hpl := hpl)
  refine pe_imp hc1 fun σ H Q ⟨ι, h, fr, R, F, P⟩ => ?_
  unfold eIsE at P
  cases hq : fe fr h with
  | no => rw [hq] at P; exact P.elim
  | exc x1 h1 => rw [hq] at P; exact ⟨ι, h, fr, R, F, by rw [hq]; exact P⟩
  | ok d h1 =>
    rw [hq] at P
    refine ⟨ι, h, fr, R, F, ?_⟩
    rw [hq]
    intro ι1 H1 v e1 R1 r1
    cases d with
    | adr ca =>
      have P0 : PoV X.K X.mg ι H Q E (if ca = a then (fc fr h1).bind fun _ h2 => .ok (.bl b) h2 else .no) := P
      have ea : ca = a := by
        by_cases z : ca = a
        · exact z
        · rw [if_neg z] at P0; exact P0.elim
      subst ea
      rw [if_pos rfl] at P0
      have P' : PoV X.K X.mg ι H Q E ((fc fr h1).bind fun _ h2 => .ok (.bl b) h2) := P0
      rw [hfc] at P'
      refine ⟨ι1, h1, fr, R1, F.ext e1, ?_⟩
      rw [hfc]
      intro ι2 H2 v2 e2 R2 r2
      cases r1
      cases r2 with
      | tup hx q => exact ⟨_, _, us, b, rfl, .of hx, cls_rels q hu, hk, P' ι2 H2 _ (e1.trans e2) R2 (.bl b)⟩
    | _ => exact P.elim
end

/-! ### try: body, except x as n: suite -/
def SR.less (i : Nat) : SR → SR
  | .nx fr h => .nx (fr.set i none) h
  | .bk fr h => .bk (fr.set i none) h
  | .ct fr h => .ct (fr.set i none) h
  | r => r
/-- cat: whether the clause takes a class (by its name); hd: what the suite is worth -/
def sTry (cat : Str → Option Bool) (hd : Xn → Hq → SR) (b : Ss) : Ss := fun fr h => match b fr h with
  | .exc x h1 => match cat x.cls with
    | some true => if x.val.isNone = true then hd x h1 else .no
    | some false => .exc x h1
    | none => .no
  | r => r
theorem fr_none {K : PySem.W.Frag} {ι : List Addr} {H : Hp} {σ : L2.St} {n : Nat} (hl : σ.length = n) : FR K ι H σ (List.replicate n none) := by
  refine ⟨by simp [hl], fun i d e => ?_⟩
  rw [List.getElem?_replicate] at e
  split at e <;> cases e
section
variable {X : Cx} {E : XK} {x n : Str} {c : Value} {i N : Nat} {body suite : List Stmt} {b₀ : Stmt} {np pos pos' : Pos} {cat : Str → Option Bool} {hd : Xn → Hq → SR} {hs : Addr → Xn → Ss} {b : Ss}
theorem m_try (wh : Wh X E) (hst : X.stack = X.env :: X.outer) (hfr : X.env.frame = some X.env.locals) (hc : Names X x c) (hcat : ∀ y k C, cat y = some k → X.mg y = some (.ref C) → PySem.W.exmOne X.K (.ref C) c = some k)
    (hb : ∀ (E' : XK) (pn : List (Addr × Obj)) (xe : Value → Shared → Prop), Wh (X.tr pn xe) E' → PMb' (X.tr pn xe) E' body b)
    (hsu : ∀ (a : Addr) (oe : Obj) (Dc : Addr) (pn : List (Addr × Obj)) (z : Xn), Zc (.ref Dc) none oe → (∃ vs, oe.data = .fields vs) → cat z.cls = some true → X.mg z.cls = some (.ref Dc) → PMb' (X.suite a ((a, oe) :: pn)) E (b₀ :: suite) (hs a z))
    (hN : X.N.length = N) (hh : ∀ a z h, cat z.cls = some true → (hs a z ((List.replicate N none).set i (some (.adr a))) h).less i = hd z h) (hi : X.N[i]? = some n := by rfl) (hln : X.env.kindOf n = some .local := by rfl) :
    PMs X E (.Try body [.ExceptHandler (some (.Name x np)) (some n) (b₀ :: suite) pos'] [] [] pos) (sTry cat hd b) := by
  refine ps_imp (L2.ps_try_as (tb := fun W => tMs X.K X.mg (fun cls d H => ∀ σ : L2.St, σ.length = N → W cls d σ H) b) (ts := fun a cls d Z σ H => d = none ∧ (∃ C, cls = .ref C) ∧ ∃ z : Xn, cat z.cls = some true ∧ X.mg z.cls = some cls ∧ tMs X.K X.mg E (hs a z) Z σ H) (Wout := fun cls d _ H => E cls d H) hst hfr wh.nd hi hln hc wh.tk ?_ ?_) ?_
  · intro W pn xe tk po
    refine hb _ pn xe ⟨?_, po, wh.gd, wh.calm, wh.nd⟩
    intro u s' q
    obtain ⟨a, B, sI, pins, σ, H, cls, d, e, I, nb, up, sky, na, os, ag, w⟩ := q
    exact tk u s' ⟨a, B, sI, pins, σ, H, cls, d, e, I, nb, up, sky, na, os, ag, w σ (I.len.trans hN)⟩
  · intro a oe cls d pn hz hf
    refine ⟨fun pins s σ H Z I q => ?_⟩
    obtain ⟨rfl, ⟨Dc, rfl⟩, z, h1, h2, q⟩ := q
    exact (hsu a oe Dc pn z hz hf h1 h2).run pins s σ H Z I q
  · rintro Z σ H ⟨ι, h, fr, R, F, P⟩
    refine ⟨ι, h, fr, R, F, ?_⟩
    unfold sTry at P
    cases hq : b fr h with
    | nx fr1 h1 => rw [hq] at P; exact P
    | rt d1 h1 => rw [hq] at P; exact P
    | bk fr1 h1 => rw [hq] at P; exact P
    | ct fr1 h1 => rw [hq] at P; exact P
    | no => rw [hq] at P; exact P
    | exc z h1 =>
      rw [hq] at P
      intro ι1 H1 cls d e1 R1 xr σ1 hl
      obtain ⟨C, m1, rfl, xv⟩ := xr
      have P' : SPo X.K X.mg ι H Z E (match cat z.cls with
        | some true => if z.val.isNone = true then hd z h1 else .no
        | some false => .exc z h1
        | none => .no) := P
      cases hcz : cat z.cls with
      | none => rw [hcz] at P'; exact P'.elim
      | some k =>
        rw [hcz] at P'
        refine ⟨k, hcat _ k C hcz m1, fun hk a na => ?_, fun hk => ?_⟩
        · subst hk
          have P2 : SPo X.K X.mg ι H Z E (if z.val.isNone = true then hd z h1 else .no) := P'
          split at P2
          · rename_i hv
            have dn : d = none := by
              revert xv
              cases hz : z.val with
              | none => exact fun q => q
              | some w => rw [hz] at hv; cases hv
            refine ⟨dn, ⟨C, rfl⟩, z, hcz, m1, ι1, h1, _, R1, (fr_none hl).set (.adr a), ?_⟩
            have P3 := SPo.ext e1 P2
            rw [← hh a z h1 hcz] at P3
            revert P3
            cases hs a z ((List.replicate N none).set i (some (D.adr a))) h1 with
            | nx fr2 h2 => exact fun q ι2 H2 σ2 e2 R2 F2 => q ι2 H2 _ e2 R2 (F2.wipe i)
            | bk fr2 h2 => exact fun q ι2 H2 σ2 e2 R2 F2 => q ι2 H2 _ e2 R2 (F2.wipe i)
            | ct fr2 h2 => exact fun q ι2 H2 σ2 e2 R2 F2 => q ι2 H2 _ e2 R2 (F2.wipe i)
            | rt d2 h2 => exact fun q => q
            | exc x2 h2 => exact fun q => q
            | no => exact fun q => q
          · exact P2.elim
        · subst hk
          exact P' ι1 H1 (.ref C) d e1 R1 ⟨C, m1, rfl, xv⟩
end
end MI
end

section
set_option Elab.async false
set_option linter.all false
set_option autoImplicit false
set_option maxRecDepth 100000
set_option maxHeartbeats 4000000
namespace MI
open PySem L2
open PyProof.Rows (envOfC)
open PyProof.Rows (IntsAre)
open PyProof.Rows (AllBare)
/-! ### the end over a law -/
section
variable {P : Program} {w : World} {K : PySem.W.Frag} {mg mb : Str → Option Value} {k : Nat} {fa a : Addr} {fd : FuncData} {x : Str} {sem : Sf} {s1 : Shared} {vs : List Value} {ns : List Int}
/-- the call of the law, where what is tracked at its entry is the script or nothing -/
theorem law_go {H : Hp} (KX : K.In s1.heap) (hns : s1.heap.Ns mainGlobals mg) (hb : s1.heap.Ns builtinsNs mb) (hbb : ∀ y : Str, y ≠ "__name__" → mb y = bootBuiltins y) (hlim : s1.heap.NoLimit) (hg : s1.gens = #[])
    (ha : s1.heap.get? a = some { cls := .type "list", data := .seq vs.toArray }) (hr : Room k callerA) (F : ∀ base : Heap, K.In base → base.Ns mainGlobals mg → FnG P w K mg base k fa fd [x] sem) (hbind : ∀ (s : Shared) (u : Value), BindsTo s fd ⟨[u], []⟩ [(x, u)])
    (hs : ∃ h', sem [.scr ns] [] = .ok (.bl true) h') (only : ∀ b, H b = none ∨ ∃ o xs, H b = some (.frz o (.lst xs))) (scr : Scr K H a ns) (hok : HOk P w H s1.heap) (at_ : ∀ b, H b ≠ none → b = a) (off : H a ≠ none → K.lookup a = none) :
    codeAny (model P w) callerA (.call (.ref fa) ⟨[.ref a], []⟩) (fun r s' => r = .ok (.ret (.bool true)) ∧ OldK s1.heap s'.heap ∧ s'.os = s1.os ∧ AllBare s'.gens) s1 := by
  have seen : ∀ {b : Addr} {o : Obj}, s1.heap.get? b = some o → H b = none → (hidT s1.heap H).get? b = some o := fun e n => hidT_get e n
  have dicts : ∀ {b : Addr} {o : Obj} {es : Array DictEntry} {ep : Nat}, s1.heap.get? b = some o → o.data = .dict es ep → H b = none := by
    intro b o es ep e d
    by_cases q : H b = none
    · exact q
    · have e' : b = a := at_ b q
      subst e'
      rw [ha] at e
      cases e
      cases d
  have space : ∀ {b : Addr} {m : Str → Option Value}, s1.heap.Ns b m → (hidT s1.heap H).Ns b m := by
    rintro b m ⟨o, es, ep, e, d, r⟩
    exact ⟨o, es, ep, seen e (dicts e d), d, r⟩
  have kin : K.In (hidT s1.heap H) := by
    intro b o e
    refine seen (KX b o e) ?_
    by_cases q : H b = none
    · exact q
    · have e' : b = a := at_ b q
      subst e'
      rw [off q] at e
      cases e
  have md : Mod K mg (hidT s1.heap H) := by
    obtain ⟨mc, c1, c2⟩ := hlim
    exact ⟨kin, space hns, ⟨mb, space hb, hbb⟩, ⟨mc, space c1, c2⟩⟩
  have none0 : ∀ b : Addr, b ∉ ([] : List Addr) := fun b z => (nomatch z)
  have e0 : Env0 P w K mg (hidT s1.heap H) callerA [] s1 H := ⟨rfl, md, fun b o e => of_hidT e, Nat.le_of_eq (hidT_size _ _), trivial, fun b hb => absurd (show b ∈ ([] : List Addr) from hb) (none0 b), hok, .of_eq hg⟩
  obtain ⟨h', hs⟩ := hs
  have P1 : PoV K mg [] H (fun v _ => v = .bl true) (fun _ _ _ => False) (sem [.scr ns] []) := by
    rw [hs]
    intro ι' H' v e1 R1 r1
    cases r1
    rfl
  have R0 : HR K [] [] H := ⟨rfl, List.nodup_nil, fun n c a h1 => by simp at h1⟩
  refine codeAny_mono ((F _ kin (space hns)).go callerA [] s1 H ⟨[.ref a], []⟩ [.ref a] [.ref a] [.scr ns] [] [] (fun v _ => v = .bl true) (fun _ _ _ => False) hr rfl e0 (hbind s1 (.ref a)) (.cons rfl .nil) R0 (.cons (.scr scr) .nil) rfl P1) ?_
  intro r s' q
  cases r with
  | error e =>
    obtain ⟨_, _, _, _, _, _, _, _, _, _, _, _, z⟩ := q
    exact z.elim
  | ok fl =>
    cases fl with
    | next => exact q.elim
    | brk => exact q.elim
    | cont => exact q.elim
    | ret u =>
      obtain ⟨v, H', os, bare, un, hok2, rv, ev⟩ := q
      have ev' : v = .bl true := ev
      subst ev'
      cases (show u = Value.bool true from rv)
      refine ⟨rfl, OldK.of_keep fun b o e => ?_, os, bare⟩
      rcases only b with z | ⟨ob, xs, z⟩
      · exact un.keep b o e z (none0 b) (none0 b)
      · have z2 := un.frzs b ob _ z
        obtain ⟨e1, _⟩ := hok b _ z
        obtain ⟨e2, _⟩ := hok2 b _ z2
        rw [e] at e1
        cases e1
        exact e2
theorem law_at (KX : K.In s1.heap) (hns : s1.heap.Ns mainGlobals mg) (hb : s1.heap.Ns builtinsNs mb) (hbb : ∀ y : Str, y ≠ "__name__" → mb y = bootBuiltins y) (hlim : s1.heap.NoLimit) (hg : s1.gens = #[])
    (ha : s1.heap.get? a = some { cls := .type "list", data := .seq vs.toArray }) (hi : IntsAre vs ns) (hl : ns.length ≤ sizeLine) (hr : Room k callerA) (F : ∀ base : Heap, K.In base → base.Ns mainGlobals mg → FnG P w K mg base k fa fd [x] sem)
    (hbind : ∀ (s : Shared) (u : Value), BindsTo s fd ⟨[u], []⟩ [(x, u)]) (hs : ∃ h', sem [.scr ns] [] = .ok (.bl true) h') :
    codeAny (model P w) callerA (.call (.ref fa) ⟨[.ref a], []⟩) (fun r s' => r = .ok (.ret (.bool true)) ∧ OldK s1.heap s'.heap ∧ s'.os = s1.os ∧ AllBare s'.gens) s1 := by
  have rv := vals_ints hi
  cases hk : K.lookup a with
  | some o =>
    have e := KX a o hk
    rw [ha] at e
    cases e
    refine law_go (H := fun _ => none) KX hns hb hbb hlim hg ha hr F hbind hs (fun _ => .inl rfl) (.inr ⟨_, vs.toArray, _, hk, rfl, rfl, rfl, by rw [List.size_toArray, hi.length]; exact hl, by simpa using rv⟩) (fun b u z => ?_) (fun b z => absurd rfl z) fun z => absurd rfl z
    have z' : (none : Option HO) = some u := z
    cases z'
  | none =>
    refine law_go (H := fun b => if b = a then some (.frz { cls := .type "list", data := .seq vs.toArray } (.lst (ns.map V.int))) else none) KX hns hb hbb hlim hg ha hr F hbind hs (fun b => ?_) (.inl ⟨_, if_pos rfl⟩) (fun b u z => ?_) (fun b z => ?_) fun _ => hk
    · by_cases q : b = a
      · exact .inr ⟨_, _, if_pos q⟩
      · exact .inl (if_neg q)
    · by_cases q : b = a
      · have z' := (if_pos q).symm.trans z
        cases z'
        subst q
        exact ⟨ha, by rw [List.length_map]; exact hl, vs, _, rv, ha⟩
      · have z' := (if_neg q).symm.trans z
        cases z'
    · by_cases q : b = a
      · exact q
      · exact absurd (if_neg q) z
end
/-- the goal that k_head leaves, from the law's worth -/
theorem walkG {l : PySem.W.OpenLaw} {n k : Nat} {q : Program} {loose : List Str} {XP : (Str → Option Value) → Heap → Prop} {YP : World → Heap → Prop} {d : DefRec} {K : Params → PySem.W.Frag} {sem : Sf} {x : Str}
    (hn : l.most = some n) (hn2 : n ≤ sizeLine) (hdf : d.params.defaults = []) (hr : Room k callerA) (hY : ∀ (w : World) (h : Heap), YP w h → (K w.params).In h)
    (F : ∀ (w : World) (mg : Str → Option Value) (fa : Addr) (h : Heap), (K w.params).In h → h.Ns mainGlobals mg → mg d.name = some (.ref fa) →
      ∃ fd : FuncData, (∀ (s : Shared) (u : Value), BindsTo s fd ⟨[u], []⟩ [(x, u)]) ∧ ∀ base : Heap, (K w.params).In base → base.Ns mainGlobals mg → FnG l.prog w (K w.params) mg base k fa fd [x] sem)
    (hs : ∀ ns : List Int, ns.length ≤ n → ∃ h', sem [.scr ns] [] = .ok (.bl true) h') : PySem.W.WalkO q loose XP YP l.row.toRowW d [] (fun f vs => PySem.call f vs) := by
  refine Att.attach_call hn hdf ?_
  intro w s0 s1 mg mb fa o pm cd doc a vs ns G Y ho hd hcd hmg hobj hints hlen hg
  have KX := hY w _ Y
  obtain ⟨fd, hb, hF⟩ := F w mg fa _ KX G.T.g hmg
  exact law_at KX G.T.g G.T.b G.T.builtins G.T.nolimit hg hobj hints (Nat.le_trans hlen hn2) hr hF hb (hs ns hlen)
end MI
end

section
set_option Elab.async false
set_option linter.all false
set_option autoImplicit false
set_option maxRecDepth 100000
set_option maxHeartbeats 4000000
namespace MI
open PySem L2
open PyProof.Rows (envOfC)
/-! ### ties: a def by its name, blocks -/
/-- the def that the module's name x stands for is worth sem -/
structure Good (P : Program) (w : World) (K : PySem.W.Frag) (mg : Str → Option Value) (base : Heap) (k : Nat) (x : Str) (ps : List Str) (sem : Sf) : Prop where
  ex : ∃ (f : Addr) (fd : FuncData), mg x = some (.ref f) ∧ FnG P w K mg base k f fd ps sem ∧ PySem.W.keepIn K (.ref f) = true ∧ Binds K fd ps []
theorem fnG_no {P : Program} {w : World} {K : PySem.W.Frag} {mg : Str → Option Value} {base : Heap} {k : Nat} {f : Addr} {fd : FuncData} {ps : List Str} : FnG P w K mg base k f fd ps (fun _ _ => .no) :=
  ⟨fun A outer s H args us vs ds ι h Q E hr hg e0 hb rv R r hl P => P.elim⟩
section
variable {X : Cx} {E : XK} {k j : Nat} {ps : List Str} {sem : Sf} {x : Str} {p pos : Pos} {a : Expr} {as : List Expr} {fs : Sa}
theorem m_callG (G : Good X.prog X.w X.K X.mg X.base k x ps sem) (wh : Wh X E) (hr : Room j X.A) (hkj : k ≤ j) (ha : PMa X E (a :: as) fs) (hg : Gl X x := by rfl) (hdb : (x == ("__debug__" : Str)) = false := by decide)
    (he : starEach (a :: as) X.env = (false, eval a X.env) :: starEach as X.env := by rfl) (hpl : (backTo pos (starEach as X.env)).any (·.1) = false := by rfl) :
    PM X E (.Call (.Name x p) (a :: as) [] pos) (eCall ps.length sem fs) := by
  obtain ⟨f, fd, hm, F, hk, hb⟩ := G.ex
  exact m_call F wh (hr.mono hkj) hm hk hb ha hg hdb he hpl
theorem wh_blk (wh : Wh X E) {s : Shared} {H : Hp} {scope : Scope} {cenv : Env} {fp : List Addr} : Wh (X.blk s H scope cenv fp) E00 :=
  ⟨fun u s' q => by obtain ⟨_, _, _, _, _, _, _, _, _, _, _, _, _, _, _, _, z⟩ := q; exact z.elim, PySem.PassesOwn.never, wh.gd, wh.calm, wh.nd⟩
end
/-- the block's own names stand where they should -/
def blkB (N : List Str) (sc scope : Scope) (own : List (Str × Nat)) : Bool :=
  decide (scope.kind = .function) && (scope.names.all (fun y => decide (scope.names.lookup y.1 = some y.2)) && (own.all (fun p => decide (N[p.2]? = some p.1)) &&
    (scope.names.all (fun y => !decide (y.2 = .free) || (decide (sc.names.lookup y.1 = some .cell) || decide (sc.names.lookup y.1 = some .free))) &&
      scope.names.all (fun y => !(decide (y.2 = .local) || decide (y.2 = .cell)) || (decide (y.1 ∈ own.map (·.1)) || decide (y.1 ∉ N))))))
theorem blk_of {N : List Str} {sc scope : Scope} {own : List (Str × Nat)} (h : blkB N sc scope own = true) : BlkOk N sc scope own := by
  unfold blkB at h
  simp only [Bool.and_eq_true, decide_eq_true_eq, List.all_eq_true, Bool.or_eq_true, Bool.not_eq_true', decide_eq_false_iff_not] at h
  obtain ⟨h1, h2, h3, h4, h5⟩ := h
  exact ⟨h1, h2, h3, fun y hy e => (h4 y hy).elim (fun z => absurd e z) id, fun y hy e => (h5 y hy).elim (fun z => absurd e (by simpa using z)) id⟩
end MI
end

section
set_option Elab.async false
set_option linter.all false
set_option autoImplicit false
set_option maxRecDepth 100000
set_option maxHeartbeats 4000000
namespace MI
open PySem L2
/-! ### evaluation: the worth of a piece, rewritten from the front -/
section
variable {α β : Type} {r r' : Rs α} {s s' : SR} {g : Ss} {fr : Fr} {h : Hq} {a b c f : Sx} {t u : Sb} {p q : Ss} {as : Sa} {d : D} {i j : Int} {n m : Nat}
theorem c_bind {f : α → Hq → Rs β} (e : r = r') : r.bind f = r'.bind f := by rw [e]
theorem c_into {f : α → Hq → SR} (e : r = r') : r.into f = r'.into f := by rw [e]
theorem c_then (e : s = s') : s.then g = s'.then g := by rw [e]
theorem v_K : eK d fr h = .ok d h := rfl
def vR : Option (Option D) → Hq → Rs D
  | some (some d), h => .ok d h
  | _, _ => .no
theorem v_V : eV n fr h = vR fr[n]? h := by unfold eV vR; split <;> simp_all
theorem v_vR : vR (some (some d)) h = .ok d h := rfl
theorem v_Op {g : D → D → Hq → Rs D} : eOp g a b fr h = (a fr h).bind fun x h1 => (b fr h1).bind fun y h2 => g x y h2 := rfl
theorem v_Un {g : D → Hq → Rs D} : eUn g a fr h = (a fr h).bind g := rfl
theorem v_bOf : bOf a fr h = isB (a fr h) := rfl
theorem v_isB {b : Bool} : isB (.ok (.bl b) h) = .ok b h := rfl
theorem v_isBx {x : Xn} : isB (.exc x h) = .exc x h := rfl
theorem v_bAnd : bAnd t u fr h = (t fr h).bind fun c h1 => if c = true then u fr h1 else .ok false h1 := rfl
theorem v_bOr : bOr t u fr h = (t fr h).bind fun c h1 => if c = true then .ok true h1 else u fr h1 := rfl
theorem v_bNot : bNot t fr h = (t fr h).bind fun c h1 => .ok (!c) h1 := rfl
theorem v_eAnd : eAnd a b fr h = (isB (a fr h)).bind fun c h1 => if c = true then b fr h1 else .ok (.bl false) h1 := rfl
theorem v_eOr : eOr a b fr h = (isB (a fr h)).bind fun c h1 => if c = true then .ok (.bl true) h1 else b fr h1 := rfl
theorem v_eNot : eNot a fr h = (isB (a fr h)).bind fun c h1 => .ok (.bl (!c)) h1 := rfl
theorem v_eIf : eIf t a b fr h = (t fr h).bind fun c h1 => if c = true then a fr h1 else b fr h1 := rfl
theorem v_aNil : aNil fr h = .ok [] h := rfl
theorem v_aCons : aCons a as fr h = (a fr h).bind fun x h1 => (as fr h1).bind fun xs h2 => .ok (x :: xs) h2 := rfl
theorem v_Tup : eTup as fr h = (as fr h).bind fun xs h1 => if small xs.length = true then .ok (.tup xs) h1 else .no := rfl
theorem v_Lst : eLst as fr h = (as fr h).bind fun xs h1 => if small xs.length = true then .ok (.ref h1.length) (h1 ++ [.lst xs]) else .no := rfl
theorem v_Dct : eDct0 fr h = .ok (.ref h.length) (h ++ [.dct []]) := rfl
theorem v_Call {sem : Sf} : eCall n sem as fr h = (as fr h).bind fun ds h1 => if ds.length = n then sem ds h1 else .no := rfl
theorem v_CallK {sem : Sf} {bs : Sa} : eCallK n sem as bs fr h = (as fr h).bind fun ds h1 => (bs fr h1).bind fun es h2 => if (ds ++ es).length = n then sem (ds ++ es) h2 else .no := rfl
theorem v_Bi {g : List D → Hq → Rs D} : eBi g as fr h = (as fr h).bind g := rfl
theorem v_Isi {x : String} : eIsi x a fr h = (a fr h).bind fun d h1 => gIsi x d h1 := rfl
theorem v_Cut {lo hi : So} : eCut a lo hi fr h = (a fr h).bind fun x h1 => (lo fr h1).bind fun l h2 => (hi fr h2).bind fun u h3 => dCut x l u h3 := rfl
theorem v_oNone : oNone fr h = .ok none h := rfl
def vO : D → Hq → Rs (Option Int)
  | .int i, h => .ok (some i) h
  | _, _ => .no
theorem v_oSome : oSome a fr h = (a fr h).bind vO := by
  unfold oSome
  congr 1
  funext x h1
  cases x <;> rfl
theorem v_vO : vO (.int i) h = .ok (some i) h := rfl
/-- statements -/
theorem v_End : sEnd fr h = .nx fr h := rfl
theorem v_Seq : sSeq p q fr h = (p fr h).then q := rfl
theorem v_If : sIf t p q fr h = (t fr h).into fun b h1 => if b = true then p fr h1 else q fr h1 := rfl
theorem v_Ret : sRet a fr h = (a fr h).into fun d h1 => .rt d h1 := rfl
theorem v_Expr : sExpr a fr h = (a fr h).into fun _ h1 => .nx fr h1 := rfl
theorem v_Set : sAsg a (tgN n) fr h = (a fr h).into fun d h1 => .nx (fr.set n (some d)) h1 := rfl
theorem v_SetT {is : List Nat} : sAsg a (tgT is) fr h = (a fr h).into fun d h1 => match tgT is d fr with | some fr' => .nx fr' h1 | none => .no := rfl
theorem v_Par {k : Nat} : sPar n k as fr h = (as fr h).into fun ds h1 => match ds with | [d, e] => .nx ((fr.set n (some d)).set k (some e)) h1 | _ => .no := rfl
theorem v_Raise {x : Str} : sRaise x fr h = .exc { cls := x } h := rfl
theorem v_For {src : Si} {tg : Tg} : sFor tg src p fr h = (src fr h).into fun S h1 => turns S.get S.fin tg p S.n 0 fr h1 := rfl
def vPut (d : D) : D → D → Fr → Hq → SR
  | .ref m, .int j, fr, h3 => match lstAt h3 m with
    | some l => match ixN l.length j with
      | some n => .nx fr (h3.set m (.lst (l.set n d)))
      | none => .no
    | none => .no
  | _, _, _, _ => .no
theorem v_Put : sPut a b c fr h = (a fr h).into fun d h1 => (b fr h1).into fun o h2 => (c fr h2).into fun k h3 => vPut d o k fr h3 := by
  unfold sPut
  congr 1
  funext d h1
  congr 1
  funext o h2
  congr 1
  funext k h3
  cases o <;> cases k <;> rfl
theorem v_vPut {l : List D} {k : Nat} (e : lstAt h m = some l) (e2 : ixN l.length j = some k) : vPut d (.ref m) (.int j) fr h = .nx fr (h.set m (.lst (l.set k d))) := by
  unfold vPut
  simp only [e, e2]
theorem v_fnx : fin (.nx fr h) = .ok .non h := rfl
theorem v_frt : fin (.rt d h) = .ok d h := rfl
theorem v_fex {x : Xn} : fin (.exc x h) = .exc x h := rfl
theorem v_of {n k : Nat} {p : Ss} {ds : List D} {h : Hq} (e : ds.length = n) : ofBody n k p ds h = fin (p (ds.map some ++ List.replicate k none) h) := by
  unfold ofBody
  rw [if_pos e]
/-! operations -/
theorem v_add : dAdd (.int i) (.int j) h = .ok (.int (i + j)) h := rfl
theorem v_sub : dSub (.int i) (.int j) h = .ok (.int (i - j)) h := rfl
theorem v_mul (e : mulOk i j = true) : dMul (.int i) (.int j) h = .ok (.int (i * j)) h := if_pos e
theorem v_div (e : divOk j = true) : dDiv (.int i) (.int j) h = .ok (.int (i / j)) h := if_pos e
theorem v_mod (e : 0 < j) : dMod (.int i) (.int j) h = .ok (.int (i % j)) h := if_pos e
theorem v_pow (e0 : 0 ≤ j) (e1 : j ≤ 1000) (e2 : i.natAbs.log2 < 10000) : dPow (.int i) (.int j) h = .ok (.int (i ^ j.toNat)) h := if_pos ⟨e0, e1, e2⟩
theorem v_neg : dNeg (.int i) h = .ok (.int (-i)) h := rfl
theorem v_rel {f : Int → Int → Bool} : dRel f (.int i) (.int j) h = .ok (.bl (f i j)) h := rfl
theorem v_ixT {l : List D} (e : atI l i = some d) : dIx (.tup l) (.int i) h = .ok d h := by
  unfold dIx
  simp only [e]
theorem v_ixL {l : List D} (e0 : lstAt h m = some l) (e : atI l i = some d) : dIx (.ref m) (.int i) h = .ok d h := by
  unfold dIx
  simp only [e0, e]
theorem v_ixS {l : List Int} (e : atI l i = some j) : dIx (.scr l) (.int i) h = .ok (.int j) h := by
  unfold dIx
  simp only [e]
theorem v_abs : gAbs [.int i] h = .ok (.int (if i < 0 then -i else i)) h := rfl
theorem v_lenT {l : List D} : gLen [.tup l] h = .ok (.int l.length) h := rfl
theorem v_lenS {l : List Int} : gLen [.scr l] h = .ok (.int l.length) h := rfl
theorem v_lenL {l : List D} (e : lstAt h m = some l) : gLen [.ref m] h = .ok (.int l.length) h := by
  unfold gLen
  simp only [e]
theorem v_max : gMax [.int i, .int j] h = .ok (.int (if j > i then j else i)) h := rfl
theorem v_min : gMin [.int i, .int j] h = .ok (.int (if j < i then j else i)) h := rfl
theorem v_intB {b : Bool} : gInt [.bl b] h = .ok (.int (if b then 1 else 0)) h := rfl
theorem v_intI : gInt [.int i] h = .ok (.int i) h := rfl
theorem v_gcd : gGcd [.int i, .int j] h = .ok (.int ((Nat.gcd i.natAbs j.natAbs : Nat) : Int)) h := rfl
theorem v_cutT {l : List D} {lo hi : Option Int} : dCut (.tup l) lo hi h = .ok (.tup (cutD l lo hi)) h := rfl
theorem v_cutL {l : List D} {lo hi : Option Int} (e : lstAt h m = some l) : dCut (.ref m) lo hi h = .ok (.ref h.length) (h ++ [.lst (cutD l lo hi)]) := by
  unfold dCut
  simp only [e]
theorem v_strI (e : bitsOk i = true) : gStr [.int i] h = .ok (.str (toString i)) h := if_pos e
theorem v_listT {l : List D} : gList [.tup l] h = .ok (.ref h.length) (h ++ [.lst l]) := rfl
theorem v_backT {l : List D} : dBack (.tup l) h = .ok (.tup l.reverse) h := rfl
theorem v_addT {k l : List D} (e : small (k.length + l.length) = true) : dAdd (.tup k) (.tup l) h = .ok (.tup (k ++ l)) h := if_pos e
theorem v_addL {k l : List D} (e1 : lstAt h m = some k) (e2 : lstAt h n = some l) (e : small (k.length + l.length) = true) : dAdd (.ref m) (.ref n) h = .ok (.ref h.length) (h ++ [.lst (k ++ l)]) := by
  unfold dAdd
  simp only [e1, e2, e, if_true]
theorem v_rep {l : List D} (e1 : lstAt h m = some l) (e2 : 0 ≤ i ∧ i < 1000000 ∧ small (l.length * i.toNat) = true) : dMul (.ref m) (.int i) h = .ok (.ref h.length) (h ++ [.lst (List.replicate i.toNat l).flatten]) := by
  unfold dMul
  simp only [e1]
  rw [if_pos e2]
theorem v_eqI {b : Bool} : dEqs b (.int i) (.int j) h = .ok (.bl ((i == j) != b)) h := by
  unfold dEqs eqQ dEqP
  simp [toPy, SeqAt.shaped, PyData.eqv, PyData.canLay0, PyData.depth]
end
theorem v_eqS {x y : Str} {b : Bool} {h : Hq} : dEqs b (.str x) (.str y) h = .ok (.bl (decide (x = y) != b)) h := rfl
end MI
end

section
set_option Elab.async false
set_option linter.all false
set_option autoImplicit false
set_option maxRecDepth 100000
set_option maxHeartbeats 4000000
namespace MI
open PySem L2
/-! ### more pieces: x += e, chains as tests, in a list, insert -/
section
variable {X : Cx} {E : XK} {a b c e : Expr} {fa fb fc fe : Sx} {pos pos' : Pos}
def sAug (i : Nat) (g : Int → Int → Int) (f : Sx) : Ss := fun fr h => match fr[i]? with
  | some (some (.int x)) => (f fr h).into fun d h1 => match d with
    | .int y => .nx (fr.set i (some (.int (g x y)))) h1
    | _ => .no
  | _ => .no
theorem aug_in {K : PySem.W.Frag} {mg : Str → Option Value} {i : Nat} {g : Int → Int → Int} {Z : Ends} {σ : L2.St} {H : Hp} (q : tMs K mg E (sAug i g fe) Z σ H) : tAug i (tM K mg E fe) (ipI g) Z σ H := by
  obtain ⟨ι, h, fr, R, F, P⟩ := q
  unfold sAug at P
  split at P
  · rename_i x hx
    obtain ⟨v, e1, r⟩ := F.val i _ hx
    cases r
    refine ⟨.int x, e1, ι, h, fr, R, F, Po.mono ?_ (Po.into P)⟩
    rintro w H1 ⟨i1, h1, d, e2, R1, r1, P1⟩
    split at P1
    · rename_i y
      cases r1
      exact ⟨x, y, rfl, rfl, P1 i1 H1 _ (Ext.refl _ _) R1 ((F.ext e2).set (.int _))⟩
    · exact P1.elim
  · exact P.elim
theorem m_augAdd (i : Nat) {x : Str} (nd : X.N.Nodup) (ha : PM X E e fe) (hi : X.N[i]? = some x := by rfl) (hx : Loc X.env.scope x := by first | exact Or.inl rfl | exact Or.inr rfl) (hf : X.fn x = true ∨ X.env.scope.names.lookup x = some .local := by first | exact .inl rfl | exact .inr rfl) :
    PMs X E (.AugAssign (.Name x pos') .Add e pos) (sAug i (fun x y => x + y) fe) := ps_imp (ps_aug nd hi hx ha ip_add hf) fun _ _ _ q => aug_in q
theorem m_augSub (i : Nat) {x : Str} (nd : X.N.Nodup) (ha : PM X E e fe) (hi : X.N[i]? = some x := by rfl) (hx : Loc X.env.scope x := by first | exact Or.inl rfl | exact Or.inr rfl) (hf : X.fn x = true ∨ X.env.scope.names.lookup x = some .local := by first | exact .inl rfl | exact .inr rfl) :
    PMs X E (.AugAssign (.Name x pos') .Sub e pos) (sAug i (fun x y => x - y) fe) := ps_imp (ps_aug nd hi hx ha ip_sub hf) fun _ _ _ q => aug_in q
/-- a < b < c as a test -/
theorem chain_in {K : PySem.W.Frag} {mg : Str → Option Value} {p q : Int → Int → Bool} {σ : L2.St} {H : Hp} {Q : VK} (z : tM K mg E (eChain p q fa fb fc) σ H Q) :
    tChain (rI0 fun i j => .bl (p i j)) (rI0 fun i j => .bl (q i j)) (tM K mg E fa) (tM K mg E fb) (tM K mg E fc) σ H Q := by
  obtain ⟨ι, h, fr, R, F, P⟩ := z
  refine ⟨ι, h, fr, R, F, Po.mono ?_ (Po.bind P)⟩
  rintro v H1 ⟨ι1, h1, x, e1, R1, r1, P1⟩
  refine ⟨ι1, h1, fr, R1, F.ext e1, Po.mono ?_ (Po.bind P1)⟩
  rintro w H2 ⟨ι2, h2, y, e2, R2, r2, P2⟩
  split at P2
  · rename_i i j
    have r1' := r1.ext e2
    cases r1'; cases r2
    refine ⟨i, j, rfl, rfl, p i j, rfl, ?_⟩
    cases hp : p i j with
    | true =>
      rw [hp, if_pos rfl] at P2
      rw [if_pos rfl]
      refine ⟨ι2, h2, fr, R2, (F.ext e1).ext e2, Po.mono ?_ (Po.bind P2)⟩
      rintro z H3 ⟨ι3, h3, u, e3, R3, r3, P3⟩
      exact s_rel q ι3 h3 H3 (.int j) u _ z Q R3 (.int j) r3 P3
    | false =>
      rw [hp, if_neg Bool.false_ne_true] at P2
      rw [if_neg Bool.false_ne_true]
      exact P2 ι2 H2 _ (Ext.refl _ _) R2 (.bl false)
  · exact P2.elim
theorem m_chainT {op op' : CmpOp} {p q : Int → Int → Bool} (ho : OpR X (compareOp op) (rI0 fun i j => .bl (p i j))) (ho' : OpR X (compareOp op') (rI0 fun i j => .bl (q i j))) (ha : PM X E a fa) (hb : PM X E b fb) (hc : PM X E c fc)
    (hm : lastMarks [op, op'] [b, c] = false := by with_unfolding_all rfl) : PMb X E (.Compare a [op, op'] [b, c] pos) (bOf (eChain p q fa fb fc)) := pt_imp (pt_chain ho ho' ha hb hc hm) fun σ H Q z => chain_in (test_in z)
/-- x in a list -/
def dIn (neg : Bool) (x y : D) (h : Hq) : Rs D := match toPy h 60 x, toPy h 60 y with
  | some d, some (.list ds) => if SeqAt.shaped d = true ∧ SeqAt.shaped (.list ds) = true then .ok (.bl ((ds.any fun z => PyData.eqv z d) != neg)) h else .no
  | _, _ => .no
theorem s_in {K : PySem.W.Frag} {mg : Str → Option Value} : OpS K mg E (dIn false) (rInD K) := by
  intro ι h H x y v w Q R rx ry P
  unfold dIn at P
  split at P
  · rename_i d ds e1 e2
    split at P
    · rename_i hs
      have := P ι H _ (Ext.refl _ _) R (.bl _)
      rw [Bool.bne_false] at this
      exact ⟨d, ds, dp_of R 60 x d v e1 rx, dp_of R 60 y _ w e2 ry, hs.1, hs.2, this⟩
    · exact P.elim
  · exact P.elim
theorem s_notIn {K : PySem.W.Frag} {mg : Str → Option Value} : OpS K mg E (dIn true) (rNotInD K) := by
  intro ι h H x y v w Q R rx ry P
  unfold dIn at P
  split at P
  · rename_i d ds e1 e2
    split at P
    · rename_i hs
      have := P ι H _ (Ext.refl _ _) R (.bl _)
      rw [Bool.bne_true] at this
      exact ⟨d, ds, dp_of R 60 x d v e1 rx, dp_of R 60 y _ w e2 ry, hs.1, hs.2, this⟩
    · exact P.elim
  · exact P.elim
theorem m_in (hu : X.A.units + 65 < cLine) (ha : PM X E a fa) (hb : PM X E b fb) (hm : behindInMarks .In b = false := by first | rfl | decide) : PMb X E (.Compare a [.In] [b] pos) (bOf (eOp (dIn false) fa fb)) := m_cmp (op_inD hu) s_in ha hb hm
theorem m_notIn (hu : X.A.units + 65 < cLine) (ha : PM X E a fa) (hb : PM X E b fb) (hm : behindInMarks .NotIn b = false := by first | rfl | decide) : PMb X E (.Compare a [.NotIn] [b] pos) (bOf (eOp (dIn true) fa fb)) := m_cmp (op_notInD hu) s_notIn ha hb hm
theorem m_inV (hu : X.A.units + 65 < cLine) (ha : PM X E a fa) (hb : PM X E b fb) (hm : behindInMarks .In b = false := by first | rfl | decide) : PM X E (.Compare a [.In] [b] pos) (eOp (dIn false) fa fb) := m_cmpV (op_inD hu) s_in ha hb hm
theorem m_notInV (hu : X.A.units + 65 < cLine) (ha : PM X E a fa) (hb : PM X E b fb) (hm : behindInMarks .NotIn b = false := by first | rfl | decide) : PM X E (.Compare a [.NotIn] [b] pos) (eOp (dIn true) fa fb) := m_cmpV (op_notInD hu) s_notIn ha hb hm
theorem room65 {k : Nat} {A : Around} (r : Room k A) : A.units + 65 < cLine := by have := r.un; omega
/-- xs.insert(i, e) -/
def eIns (fo fi fe : Sx) : Sx := fun fr h => (fo fr h).bind fun o h1 => match o with
  | .ref n => match lstAt h1 n with
    | some _ => (fi fr h1).bind fun k h2 => (fe fr h2).bind fun d h3 => match k with
      | .int j => match lstAt h3 n with
        | some l => if 0 ≤ j ∧ j < 2 ^ 63 ∧ small (l.length + 1) = true then .ok .non (h3.set n (.lst (l.take j.toNat ++ [d] ++ l.drop j.toNat))) else .no
        | none => .no
      | _ => .no
    | none => .no
  | _ => .no
theorem m_ins {o i : Expr} {fo fi : Sx} {apos cpos : Pos} (ho : PM X E o fo) (hi : PM X E i fi) (he : PM X E e fe) (h1 : attributeBase o "insert" X.env (eval o X.env) = eval o X.env := by rfl) (h3 : starEach (i :: [e]) X.env = (false, eval i X.env) :: starEach [e] X.env := by rfl) (h5 : starEach (e :: []) X.env = (false, eval e X.env) :: starEach [] X.env := by rfl)
    (h2 : (((backTo cpos (starEach [i, e] X.env)).all fun x => !x.fst) && (backToKw cpos (keywordEach [] X.env)).all (fun x => x.fst.isSome) && decide (([i, e].length + ([] : List Keyword).length + if ([] : List Keyword).isEmpty = true then 0 else 1) < 30)) = true := by rfl)
    (h4 : (apos.endLine == cpos.line) = true := by rfl) (h6 : (backTo cpos (starEach [e] X.env)).any (·.1) = false := by rfl) :
    PM X E (.Call (.Attribute o "insert" apos) [i, e] [] cpos) (eIns fo fi fe) := pe_imp (pe_bm PySem.F.plainAttrs_list PySem.F.slot_list_insert PySem.F.type_list_insert mt_insert ho (pa_cons hi (pa_cons he pa_nil h5) h3) h1 h2 h4 h3 h6) fun σ H Q ⟨ι, h, fr, R, F, P⟩ => by
  refine ⟨ι, h, fr, R, F, Po.mono ?_ (Po.bind P)⟩
  rintro v H1 ⟨i1, h1, od, e1, R1, r1, P1⟩
  split at P1
  · rename_i n
    split at P1
    · rename_i _ l0 hl0
      cases r1 with
      | ref hx =>
        rename_i a
        obtain ⟨vs0, c0, _⟩ := R1.lst hx hl0
        refine ⟨.inl ⟨rfl, vs0, .of c0⟩, i1, h1, fr, R1, F.ext e1, Po.mono ?_ (Po.bind P1)⟩
        rintro kv H2 ⟨i2, h2, kd, e2, R2, r2, P2⟩
        refine ⟨i2, h2, fr, R2, (F.ext e1).ext e2, Po.mono ?_ (Po.bind P2)⟩
        rintro w H3 ⟨i3, h3, d, e3, R3, r3, P3⟩
        split at P3
        · rename_i j
          split at P3
          · rename_i _ l hl
            split at P3
            · rename_i hz
              cases r2
              obtain ⟨vs, c2, q2⟩ := R3.lst (e3.get (e2.get hx)) hl
              have hz' := small_le hz.2.2
              obtain ⟨e4, R4⟩ := R3.put (lstAt_some hl) (e3.get (e2.get hx)) (o := .lst (vs.take j.toNat ++ [w] ++ vs.drop j.toNat)) (c := .lst (l.take j.toNat ++ [d] ++ l.drop j.toNat)) fun H' e z => ⟨_, z, (((q2.take _).append (.cons r3 .nil)).append (q2.drop _)).ext e⟩
              exact ⟨a, vs, j, w, rfl, rfl, c2, by rw [q2.length]; omega, hz.1, hz.2.1, P3 i3 _ _ e4 R4 .non⟩
            · exact P3.elim
          · exact P3.elim
        · exact P3.elim
    · exact P1.elim
  · exact P1.elim
end
/-- a module's number, of a tag that is not named -/
theorem m_globE {X : Cx} {E : XK} {x : Str} {i : Int} {pos : Pos} (hm : ∃ t, X.mg x = some (.int i t)) (hg : Gl X x := by rfl) (hd : (x == ("__debug__" : Str)) = false := by decide) : PM X E (.Name x pos) (eK (.int i)) := by
  obtain ⟨t, hm⟩ := hm
  exact m_glob hm hg hd
/-! ### zip of two tuples, of two lists -/
def srcZ (l m : List D) : Src := ⟨min l.length m.length, fun i _ => match l[i]?, m[i]? with
  | some x, some y => some (.tup [x, y])
  | _, _ => none, fun i _ => decide (l.length ≤ i) || decide (m.length ≤ i)⟩
def srcZL (a b n : Nat) : Src := ⟨n, fun i h => match lstAt h a, lstAt h b with
  | some l, some m => (srcZ l m).get i h
  | _, _ => none, fun i h => match lstAt h a, lstAt h b with
  | some l, some m => (srcZ l m).fin i h
  | _, _ => false⟩
def iZip2 (fs : Sa) : Si := fun fr h => (fs fr h).bind fun ds h1 => match ds with
  | [.tup l, .tup m] => .ok (srcZ l m) h1
  | [.ref a, .ref b] => match lstAt h1 a, lstAt h1 b with
    | some l, some m => .ok (srcZL a b (min l.length m.length)) h1
    | _, _ => .no
  | _ => .no
theorem srcZ_get {l m : List D} {i : Nat} {h : Hq} {d : D} (e : (srcZ l m).get i h = some d) : ∃ x y, l[i]? = some x ∧ m[i]? = some y ∧ d = .tup [x, y] := by
  have e' : (match l[i]?, m[i]? with | some x, some y => some (D.tup [x, y]) | _, _ => none) = some d := e
  split at e'
  · rename_i x y h1 h2
    cases e'
    exact ⟨x, y, h1, h2, rfl⟩
  · cases e'
theorem srcZ_fin {l m : List D} {i : Nat} {h : Hq} (e : (srcZ l m).fin i h = true) : l.length ≤ i ∨ m.length ≤ i := by
  have e' : (decide (l.length ≤ i) || decide (m.length ≤ i)) = true := e
  simpa using e'
theorem wk_zipT {K : PySem.W.Frag} {ι : List Addr} {H0 : Hp} {a b : Addr} {vs ws : List V} {l m : List D} (hx : H0 a = some (.tup vs)) (q : VRs K ι H0 vs l) (hy : H0 b = some (.tup ws)) (r : VRs K ι H0 ws m) : Wk K ι H0 (RZ.ItzT K a b) (srcZ l m).get (srcZ l m).fin where
  go := fun i ι' h H d e R g => by
    obtain ⟨x, y, g1, g2, rfl⟩ := srcZ_get g
    obtain ⟨v, v1, v2⟩ := (q.ext e).get g1
    obtain ⟨w, w1, w2⟩ := (r.ext e).get g2
    refine ⟨⟨vs, ws, v, w, .of (e.tups _ _ hx), .of (e.tups _ _ hy), v1, w1⟩, fun z H' ⟨T, x', y', e1, nT, e2, f1, f2⟩ => ?_⟩
    subst e1 e2
    have a1 := f1 vs (.of (e.tups _ _ hx))
    have a2 := f2 ws (.of (e.tups _ _ hy))
    rw [v1] at a1; cases a1
    rw [w1] at a2; cases a2
    obtain ⟨e3, R3⟩ := R.tup nT [v, w]
    exact ⟨ι', e3, R3, .tup upd_same ((VRs.cons v2 (.cons w2 .nil)).ext e3)⟩
  stop := fun i ι' h H e R g => ⟨vs, ws, .of (e.tups _ _ hx), .of (e.tups _ _ hy), by rw [q.length, r.length]; exact srcZ_fin g⟩
theorem wk_zipL {K : PySem.W.Frag} {ι : List Addr} {H0 : Hp} {a b : Addr} {i1 i2 n : Nat} (hx : ι[i1]? = some a) (hy : ι[i2]? = some b) : Wk K ι H0 (Itz K a b) (srcZL i1 i2 n).get (srcZL i1 i2 n).fin where
  go := fun i ι' h H d e R g => by
    have g' : (match lstAt h i1, lstAt h i2 with | some l, some m => (srcZ l m).get i h | _, _ => none) = some d := g
    split at g'
    · rename_i l m h1 h2
      obtain ⟨x, y, g1, g2, rfl⟩ := srcZ_get g'
      obtain ⟨vs, c1, q⟩ := R.lst (e.get hx) h1
      obtain ⟨ws, c2, r⟩ := R.lst (e.get hy) h2
      obtain ⟨v, v1, v2⟩ := q.get g1
      obtain ⟨w, w1, w2⟩ := r.get g2
      refine ⟨⟨vs, ws, v, w, .of c1, .of c2, v1, w1⟩, fun z H' ⟨T, x', y', e1, nT, e2, f1, f2⟩ => ?_⟩
      subst e1 e2
      have a1 := f1 vs (.of c1)
      have a2 := f2 ws (.of c2)
      rw [v1] at a1; cases a1
      rw [w1] at a2; cases a2
      obtain ⟨e3, R3⟩ := R.tup nT [v, w]
      exact ⟨ι', e3, R3, .tup upd_same ((VRs.cons v2 (.cons w2 .nil)).ext e3)⟩
    · cases g'
  stop := fun i ι' h H e R g => by
    have g' : (match lstAt h i1, lstAt h i2 with | some l, some m => (srcZ l m).fin i h | _, _ => false) = true := g
    split at g'
    · rename_i l m h1 h2
      obtain ⟨vs, c1, q⟩ := R.lst (e.get hx) h1
      obtain ⟨ws, c2, r⟩ := R.lst (e.get hy) h2
      exact ⟨vs, ws, .of c1, .of c2, by rw [q.length, r.length]; exact srcZ_fin g'⟩
    · cases g'
theorem m_zip {X : Cx} {E : XK} {e e2 : Expr} {fs : Sa} {p pos tpos : Pos} {elts : List Expr} {kk : Nat} (hm : X.mg "zip" = none) (ha : PMa X E [e, e2] fs) (hg : Gl X "zip" := by rfl) (hs : starEach [e, e2] X.env = (false, eval e X.env) :: starEach [e2] X.env := by rfl)
    (hpl : (backTo pos (starEach [e2] X.env)).any (·.1) = false := by rfl) : PMi X E (.Tuple elts kk tpos) (.Call (.Name "zip" p) [e, e2] [] pos) (iZip2 fs) := pi_imp (RZ.pi_zipA hg hm ha hs hpl) fun σ H Q ⟨ι, h, fr, R, F, P⟩ => by
  refine ⟨ι, h, fr, R, F, Po.mono ?_ (Po.bind P)⟩
  rintro vs H1 ⟨i1, h1, ds, e1, R1, r1, P1⟩
  split at P1
  · obtain ⟨v, w, rfl, q1, q2⟩ := r1.two
    cases q1 with
    | tup hx q =>
      cases q2 with
      | tup hy r => exact ⟨_, _, _, _, rfl, .inr ⟨.of hx, .of hy, P1 i1 H1 _ (Ext.refl _ _) R1 (wk_zipT hx q hy r)⟩⟩
  · split at P1
    · rename_i a b _ _ l m h2 h3
      obtain ⟨v, w, rfl, q1, q2⟩ := r1.two
      cases q1 with
      | ref hx =>
        cases q2 with
        | ref hy =>
          obtain ⟨xs, c1, _⟩ := R1.lst hx h2
          obtain ⟨ys, c2, _⟩ := R1.lst hy h3
          exact ⟨_, _, _, _, rfl, .inl ⟨.of c1, .of c2, P1 i1 H1 _ (Ext.refl _ _) R1 (wk_zipL hx hy)⟩⟩
    · exact P1.elim
  · exact P1.elim
end MI
end

section
set_option Elab.async false
set_option linter.all false
set_option autoImplicit false
set_option maxRecDepth 100000
set_option maxHeartbeats 4000000
/-! all(list), any(list), l.remove(x) by deep ==, l.pop(), l.extend, targets within targets, what is never come to -/
namespace L2
open PySem PySem.Spec PyProof.Rows
section
variable {X : Cx}
/-- l.remove(x): the first equal one goes -/
def rRemD (K : PySem.W.Frag) : V → List V → Hp → VK → Prop := fun x xs H Q => ∃ (a : Addr) (ys : List V) (y : V) (d : PyData) (ds : List PyData) (j : Nat) (z : PyData), x = V.ref a ∧ xs = [y] ∧ H a = some (.lst ys) ∧ DpAll K H ys ds ∧ Dp K H y d ∧
  SeqAt.shaped (.list ds) = true ∧ SeqAt.shaped d = true ∧ ds[j]? = some z ∧ PyData.eqv z d = true ∧ (∀ (m : Nat) (z' : PyData), m < j → ds[m]? = some z' → PyData.eqv z' d = false) ∧ Q .non (upd H a (.lst (ys.eraseIdx j)))
theorem DpAll.length {K : PySem.W.Frag} {H : Hp} : ∀ {vs : List V} {ds : List PyData}, DpAll K H vs ds → vs.length = ds.length
  | _, _, .nil => rfl
  | _, _, .cons _ h => by rw [List.length_cons, List.length_cons, DpAll.length h]
theorem mt_removeD (hu : X.A.units + 65 < cLine) : MtM X "list.remove" (rRemD X.K) := by
  intro pins s σ H x xs v us Q I rx rxs h
  obtain ⟨a, ys, y, d, ds, j, z, rfl, rfl, hH, ha, hy, sl, sd, hz, hzj, hno, q⟩ := h
  cases rx
  obtain ⟨uy, rfl, ry⟩ := rxs.one
  obtain ⟨bs, r1⟩ := Dp.reads I d y uy hy ry
  have hxs : PyData.canLayAll0 ds = true := SeqAt.canLay_of_shaped sl
  have hroom : X.A.units + 1 + min (PyData.depthAll ds) d.depth < cLine := room_in_shaped sd hu
  obtain ⟨hlen, its, n, rv, hl, ho⟩ := I.lstM hH
  obtain ⟨as, h4⟩ := Dp.readsAll I ds _ its ha rv
  have hn : its.length = ds.length := SeqAt.ReadsAll.length ds its as h4
  have hmap : its.map (SeqAt.readOf s.heap) = ds := SeqAt.readsAll_map ds its as hxs h4
  have hsl := sizeLine_eq
  obtain ⟨hjd, _⟩ := List.getElem?_eq_some_iff.mp hz
  have hjl : j < its.length := by omega
  have hj : j < its.toArray.size := by simpa using hjl
  have at_ : ∀ (m : Nat) (hm : m < its.toArray.size) (z' : PyData), ds[m]? = some z' → SeqAt.readOf s.heap its.toArray[m] = z' := by
    intro m hm z' hz'
    have hml : m < its.length := by simpa using hm
    rw [← hmap, List.getElem?_map, List.getElem?_eq_getElem hml] at hz'
    have e1 : SeqAt.readOf s.heap its[m] = z' := Option.some.inj (show some (SeqAt.readOf s.heap its[m]) = some z' from hz')
    simpa using e1
  refine call_meets PySem.F.slot_list_remove ⟨_, ho, rfl⟩ PySem.F.entry_list_remove (PySem.F.args_list_remove_2 _ _)
    (SeqAt.list_removeAt a its.toArray n none #[] uy (fun u => PyData.eqv (SeqAt.readOf s.heap u) d) j hj ?_ ?_ (by rw [List.size_toArray]; omega)) ⟨ho, SeqAt.items_eqAt (vs := its.toArray) (show ReadsAll s.heap its.toArray.toList ds as from h4) r1 hxs (SeqAt.canLay_of_shaped sd) hroom, ?_⟩
  · show PyData.eqv (SeqAt.readOf s.heap its.toArray[j]) d = true
    rw [at_ j hj z hz]
    exact hzj
  · intro m hm hmj
    have hmd : m < ds.length := by omega
    have hz' : ds[m]? = some ds[m] := List.getElem?_eq_getElem hmd
    show PyData.eqv (SeqAt.readOf s.heap its.toArray[m]) d = false
    rw [at_ m hm _ hz']
    exact hno m _ hmj hz'
  · refine ⟨.non, _, I.lset (its' := its.eraseIdx j) (t' := s.toks) hH ho ?_ (rv.eraseIdx j) ?_, rfl, q⟩
    · show its.toArray.eraseIdxIfInBounds j = (its.eraseIdx j).toArray
      rw [List.eraseIdxIfInBounds_toArray]
    · have := List.length_eraseIdx_le ys j
      omega
end
end L2
namespace MI
open PySem L2
section
variable {X : Cx} {E : XK} {a b c e : Expr} {as : List Expr} {fa fb fe : Sx} {fs : Sa} {p pos : Pos}
def bls : List D → Option (List Bool)
  | [] => some []
  | .bl b :: l => (bls l).map (b :: ·)
  | _ :: _ => none
theorem bls_V {K : PySem.W.Frag} {ι : List Addr} {H : Hp} : ∀ {l : List D} {vs : List V} {bs : List Bool}, bls l = some bs → VRs K ι H vs l → vs = bs.map V.bl
  | [], _, _, e, r => by cases e; cases r; rfl
  | d :: l, _, _, e, r => by
    cases r with
    | cons r1 r2 =>
      cases d with
      | bl b =>
        obtain ⟨cs, e1, e2⟩ := Option.map_eq_some_iff.mp (show (bls l).map (b :: ·) = some _ from e)
        subst e2
        cases r1
        rw [bls_V e1 r2]; rfl
      | _ => cases e
def gAll (ds : List D) (h : Hq) : Rs D := match ds with
  | [.ref m] => match lstAt h m with
    | some l => match bls l with
      | some bs => .ok (.bl (bs.all id)) h
      | none => .no
    | none => .no
  | _ => .no
def gAny (ds : List D) (h : Hq) : Rs D := match ds with
  | [.ref m] => match lstAt h m with
    | some l => match bls l with
      | some bs => .ok (.bl (bs.any id)) h
      | none => .no
    | none => .no
  | _ => .no
theorem s_all {K : PySem.W.Frag} {mg : Str → Option Value} : CaS K mg E gAll (rAll K) := by
  intro ι h H ds vs Q R r P
  unfold gAll at P
  split at P
  · split at P
    · rename_i l hl
      split at P
      · rename_i bs hb
        obtain ⟨v, rfl, q⟩ := r.one
        cases q with
        | ref hx =>
          obtain ⟨ws, c1, q1⟩ := R.lst hx hl
          exact ⟨_, bs, rfl, .of (by rw [← bls_V hb q1]; exact c1), P ι H _ (Ext.refl _ _) R (.bl _)⟩
      · exact P.elim
    · exact P.elim
  · exact P.elim
theorem s_any {K : PySem.W.Frag} {mg : Str → Option Value} : CaS K mg E gAny (rAny K) := by
  intro ι h H ds vs Q R r P
  unfold gAny at P
  split at P
  · split at P
    · rename_i l hl
      split at P
      · rename_i bs hb
        obtain ⟨v, rfl, q⟩ := r.one
        cases q with
        | ref hx =>
          obtain ⟨ws, c1, q1⟩ := R.lst hx hl
          exact ⟨_, bs, rfl, .of (by rw [← bls_V hb q1]; exact c1), P ι H _ (Ext.refl _ _) R (.bl _)⟩
      · exact P.elim
    · exact P.elim
  · exact P.elim
theorem m_all (hc : X.calm = true) (hm : X.mg "all" = none) (ha : PMa X E (a :: as) fs) (hg : Gl X "all" := by rfl) (he : starEach (a :: as) X.env = (false, eval a X.env) :: starEach as X.env := by rfl) (hpl : (backTo pos (starEach as X.env)).any (·.1) = false := by rfl) :
    PM X E (.Call (.Name "all" p) (a :: as) [] pos) (eBi gAll fs) := m_bi (cr_all hc) s_all hm (by decide +kernel) ha hg (he := he) (hpl := hpl)
theorem m_any (hc : X.calm = true) (hm : X.mg "any" = none) (ha : PMa X E (a :: as) fs) (hg : Gl X "any" := by rfl) (he : starEach (a :: as) X.env = (false, eval a X.env) :: starEach as X.env := by rfl) (hpl : (backTo pos (starEach as X.env)).any (·.1) = false := by rfl) :
    PM X E (.Call (.Name "any" p) (a :: as) [] pos) (eBi gAny fs) := m_bi (cr_any hc) s_any hm (by decide +kernel) ha hg (he := he) (hpl := hpl)
/-- l.remove(x) -/
def remAt (ds : List PyData) (d : PyData) : Option Nat := ds.findIdx? fun z => PyData.eqv z d
def eRem (fo fe : Sx) : Sx := fun fr h => (fo fr h).bind fun o h1 => match o with
  | .ref m => match lstAt h1 m with
   | some _ => (fe fr h1).bind fun d h2 => match lstAt h2 m with
    | some l => match opts (toPy h2 60) l, toPy h2 60 d with
      | some ds, some q => if SeqAt.shaped q = true ∧ SeqAt.shaped (.list ds) = true then match remAt ds q with
        | some j => .ok .non (h2.set m (.lst (l.eraseIdx j)))
        | none => .no
        else .no
      | _, _ => .no
    | none => .no
   | none => .no
  | _ => .no
theorem VRs.erase {K : PySem.W.Frag} {ι : List Addr} {H : Hp} : ∀ {vs : List V} {l : List D} (n : Nat), VRs K ι H vs l → VRs K ι H (vs.eraseIdx n) (l.eraseIdx n)
  | _, _, _, .nil => .nil
  | _, _, 0, .cons _ t => t
  | _, _, n + 1, .cons r t => .cons r (VRs.erase n t)
theorem remAt_is {ds : List PyData} {d : PyData} {j : Nat} (e : remAt ds d = some j) : ∃ z, ds[j]? = some z ∧ PyData.eqv z d = true ∧ ∀ (m : Nat) (z' : PyData), m < j → ds[m]? = some z' → PyData.eqv z' d = false := by
  unfold remAt at e
  obtain ⟨h1, h2, h3⟩ := List.findIdx?_eq_some_iff_getElem.mp e
  refine ⟨ds[j], List.getElem?_eq_getElem h1, h2, fun m z' hm hz => ?_⟩
  obtain ⟨k1, k2⟩ := List.getElem?_eq_some_iff.mp hz
  have := h3 m hm
  rw [k2] at this
  simpa using this
theorem m_rem {o : Expr} {fo : Sx} {apos cpos : Pos} (hu : X.A.units + 65 < cLine) (ho : PM X E o fo) (he : PM X E e fe) (h1 : attributeBase o "remove" X.env (eval o X.env) = eval o X.env := by rfl) (h3 : starEach (e :: []) X.env = (false, eval e X.env) :: starEach [] X.env := by rfl)
    (h2 : (((backTo cpos (starEach [e] X.env)).all fun x => !x.fst) && (backToKw cpos (keywordEach [] X.env)).all (fun x => x.fst.isSome) && decide (([e].length + ([] : List Keyword).length + if ([] : List Keyword).isEmpty = true then 0 else 1) < 30)) = true := by rfl)
    (h4 : (apos.endLine == cpos.line) = true := by rfl) :
    PM X E (.Call (.Attribute o "remove" apos) [e] [] cpos) (eRem fo fe) := pe_imp (pe_bm PySem.F.plainAttrs_list PySem.F.slot_list_remove PySem.F.type_list_remove (mt_removeD hu) ho (pa_cons he pa_nil h3) h1 h2 h4 h3) fun σ H Q ⟨ι, h, fr, R, F, P⟩ => by
  refine ⟨ι, h, fr, R, F, Po.mono ?_ (Po.bind P)⟩
  rintro v H1 ⟨i1, h1, od, e1, R1, r1, P1⟩
  split at P1
  · rename_i n
    split at P1
    · rename_i _ l0 hl0
      cases r1 with
      | ref hx =>
        rename_i a
        obtain ⟨vs0, c0, _⟩ := R1.lst hx hl0
        refine ⟨.inl ⟨rfl, vs0, .of c0⟩, i1, h1, fr, R1, F.ext e1, Po.mono ?_ (Po.bind P1)⟩
        rintro w H2 ⟨i2, h2, d, e2, R2, r2, P2⟩
        split at P2
        · rename_i l hl
          split at P2
          · rename_i ds q hds hq
            split at P2
            · rename_i hs
              split at P2
              · rename_i j hj
                obtain ⟨vs, c2, q2⟩ := R2.lst (e2.get hx) hl
                obtain ⟨z, z1, z2, z3⟩ := remAt_is hj
                obtain ⟨e4, R4⟩ := R2.put (lstAt_some hl) (e2.get hx) (o := .lst (vs.eraseIdx j)) (c := .lst (l.eraseIdx j)) fun H' e z => ⟨_, z, (q2.erase j).ext e⟩
                exact ⟨a, vs, w, q, ds, j, z, rfl, rfl, c2, dp_all (fun d p v => dp_of R2 60 d p v) hds q2, dp_of R2 60 d q w hq r2, hs.2, hs.1, z1, z2, z3, P2 i2 _ _ e4 R4 .non⟩
              · exact P2.elim
            · exact P2.elim
          · exact P2.elim
        · exact P2.elim
    · exact P1.elim
  · exact P1.elim
/-- l.pop() -/
def ePop (fo : Sx) : Sx := fun fr h => (fo fr h).bind fun o h1 => match o with
  | .ref m => match lstAt h1 m with
    | some l => match l[l.length - 1]? with
      | some d => .ok d (h1.set m (.lst l.dropLast))
      | none => .no
    | none => .no
  | _ => .no
theorem VRs.dropLast {K : PySem.W.Frag} {ι : List Addr} {H : Hp} {vs : List V} {l : List D} (r : VRs K ι H vs l) : VRs K ι H vs.dropLast l.dropLast := by
  rw [List.dropLast_eq_take, List.dropLast_eq_take, r.length]
  exact r.take _
theorem m_pop {o : Expr} {fo : Sx} {apos cpos : Pos} (ho : PM X E o fo) (hbase : attributeBase o "pop" X.env (eval o X.env) = eval o X.env := by rfl) (hline : (apos.endLine == cpos.line) = true := by rfl) :
    PM X E (.Call (.Attribute o "pop" apos) [] [] cpos) (ePop fo) := pe_imp (pe_bm0 PySem.F.plainAttrs_list PySem.F.slot_list_pop PySem.F.type_list_pop mt_pop ho hbase hline) fun σ H Q ⟨ι, h, fr, R, F, P⟩ => by
  refine ⟨ι, h, fr, R, F, Po.mono ?_ (Po.bind P)⟩
  rintro v H1 ⟨i1, h1, od, e1, R1, r1, P1⟩
  split at P1
  · rename_i n
    split at P1
    · rename_i _ l hl
      split at P1
      · rename_i _ d hd
        cases r1 with
        | ref hx =>
          rename_i a
          obtain ⟨vs, c2, q2⟩ := R1.lst hx hl
          obtain ⟨w, hw, rw_⟩ := q2.get hd
          obtain ⟨e4, R4⟩ := R1.put (lstAt_some hl) hx (o := .lst vs.dropLast) (c := .lst l.dropLast) fun H' e z => ⟨_, z, q2.dropLast.ext e⟩
          exact ⟨.inl ⟨rfl, vs, .of c2⟩, a, vs, w, rfl, rfl, c2, by rw [q2.length]; exact hw, P1 i1 _ _ e4 R4 (rw_.ext e4)⟩
      · exact P1.elim
    · exact P1.elim
  · exact P1.elim
/-! ### targets within targets -/
def setAllT : List Tg → List D → Fr → Option Fr
  | [], [], fr => some fr
  | t :: ts, d :: ds, fr => (t d fr).bind fun fr1 => setAllT ts ds fr1
  | _, _, _ => none
def tgG (ts : List Tg) : Tg := fun d fr => match d with
  | .tup l => setAllT ts l fr
  | _ => none
structure PMgG (X : Cx) (tgs : List Expr) (ts : List Tg) : Prop where
  ex : ∃ g, PGs X tgs g ∧ ∀ (ι : List Addr) (h : Hq) (H : Hp) (vs : List V) (ds : List D) (σ : L2.St) (fr fr' : Fr) (Q : L2.St → Hp → Prop), HR X.K ι h H → VRs X.K ι H vs ds → FR X.K ι H σ fr → setAllT ts ds fr = some fr' → (∀ σ', FR X.K ι H σ' fr' → Q σ' H) → g vs σ H Q
theorem m_ggnil : PMgG X [] [] := ⟨_, pgs_nil, fun ι h H vs ds σ fr fr' Q R r F e k => by
  cases r with
  | nil => cases e; exact ⟨rfl, k σ F⟩
  | cons _ _ => cases e⟩
theorem m_ggcons {tg : Expr} {t : Tg} {es : List Expr} {ts : List Tg} (h1 : PMg X tg t) (ht : PMgG X es ts) (hs : (assignEach (tg :: es) X.env).map (·.2) = assign tg X.env :: (assignEach es X.env).map (·.2) := by rfl) :
    PMgG X (tg :: es) (t :: ts) := by
  obtain ⟨g, hg, hgs⟩ := ht.ex
  obtain ⟨g1, hg1, hgs1⟩ := h1.ex
  refine ⟨_, pgs_cons hg1 hg hs, fun ι h H vs ds σ fr fr' Q R r F e k => ?_⟩
  cases r with
  | nil => cases e
  | cons r1 r2 =>
    obtain ⟨fr1, e1, e2⟩ := Option.bind_eq_some_iff.mp (show (t _ fr).bind _ = some fr' from e)
    exact ⟨_, _, rfl, hgs1 ι h H _ _ _ _ _ _ R r1 F e1 fun σ' F' => hgs ι h H _ _ _ _ _ Q R r2 F' e2 k⟩
theorem setAllT_len : ∀ {ts : List Tg} {ds : List D} {fr fr' : Fr}, setAllT ts ds fr = some fr' → ds.length = ts.length
  | [], [], _, _, _ => rfl
  | [], _ :: _, _, _, e => by cases e
  | _ :: _, [], _, _, e => by cases e
  | t :: ts, d :: ds, fr, _, e => by
    obtain ⟨fr1, e1, e2⟩ := Option.bind_eq_some_iff.mp (show (t d fr).bind _ = some _ from e)
    rw [List.length_cons, List.length_cons, setAllT_len e2]
theorem m_tgG {ts : List Expr} {is : List Tg} {k : Nat} (hc : X.calm = true) (ht : PMgG X ts is) (hn : (assignEach ts X.env).length = is.length := by rfl) (hst : (assignEach ts X.env).findIdx? (·.1) = none := by rfl) : PMg X (.Tuple ts k pos) (tgG is) := by
  obtain ⟨g, hg, hgs⟩ := ht.ex
  refine ⟨_, pg_tup hc hg hn hst, fun ι h H v d σ fr fr' Q R r F e kk => ?_⟩
  unfold tgG at e
  split at e
  · cases r with
    | tup hx q =>
      refine ⟨_, _, rfl, .of hx, by rw [q.length]; exact setAllT_len e, ?_⟩
      exact hgs ι h H _ _ _ _ _ Q R q F e kk
  · cases e
/-! ### what is never come to -/
def sDead : Ss := fun _ _ => .no
def eDead : Sx := fun _ _ => .no
theorem m_deadS {st : Stmt} : PMs X E st sDead := ⟨fun pins s σ H Z I ⟨_, _, _, _, _, P⟩ => P.elim⟩
theorem m_deadE {e : Expr} : PM X E e eDead := ⟨fun pins s σ H Q I ⟨_, _, _, _, _, P⟩ => P.elim⟩
theorem m_deadB {es : List Stmt} : PMb' X E es sDead := ⟨fun pins s σ H Z I ⟨_, _, _, _, _, P⟩ => P.elim⟩
/-! ### truth of a list, of a tuple -/
theorem VRs.emp {K : PySem.W.Frag} {ι : List Addr} {H : Hp} {vs : List V} {l : List D} (r : VRs K ι H vs l) : (!l.isEmpty) = !vs.isEmpty := by cases r <;> rfl
def truD (d : D) (h : Hq) : Rs Bool := match d with
  | .bl b => .ok b h
  | .tup l => .ok (!l.isEmpty) h
  | .ref m => match lstAt h m with
    | some l => .ok (!l.isEmpty) h
    | none => .no
  | _ => .no
def bTru (f : Sx) : Sb := fun fr h => (f fr h).bind truD
theorem m_tru (ha : PM X E a fa) (he : ∀ whole, isTrue a X.env whole = (do let v ← whole; standAt a.pos; holding [v] (truthy v)) := by intro _; rfl) : PMb X E a (bTru fa) := pt_imp (pt_truth ha he) fun σ H Q ⟨ι, h, fr, R, F, P⟩ => by
  refine ⟨ι, h, fr, R, F, Po.mono ?_ (Po.bind P)⟩
  rintro v H1 ⟨ι1, h1, d, e1, R1, r1, P1⟩
  unfold truD at P1
  split at P1
  · cases r1
    exact ⟨_, (rfl : _ = _), P1 ι1 H1 _ (Ext.refl _ _) R1 rfl⟩
  · cases r1 with
    | tup hx q => exact ⟨_, .inr (.inl ⟨_, .of hx, q.emp⟩), P1 ι1 H1 _ (Ext.refl _ _) R1 rfl⟩
  · split at P1
    · rename_i l hl
      cases r1 with
      | ref hx =>
        obtain ⟨vs, c1, q1⟩ := R1.lst hx hl
        exact ⟨_, .inl ⟨_, .of c1, q1.emp⟩, P1 ι1 H1 _ (Ext.refl _ _) R1 rfl⟩
    · exact P1.elim
  · exact P1.elim
end
end MI
end

section
set_option Elab.async false
set_option linter.all false
set_option autoImplicit false
set_option maxRecDepth 100000
set_option maxHeartbeats 4000000
/-! l.count(x) by deep ==, l.extend(tuple), [*a, ..] -/
namespace PySem.MiX
open PySem PySem.AutoSeq1
set_option maxRecDepth 8000 in
theorem ext_tup (l : Addr) (items : Array Value) (n : Nat) (b : Addr) (items2 : Array Value) (n2 : Nat) (dd : Option Addr) (sl : Array (Option Value)) (hs0 : ¬(!items.isEmpty && Builtin.List.listTooLong (items.size + items2.size)) = true) (hs1 : items.size ≤ sizeLine) (hs2 : items.size + items2.size ≤ sizeLine + 1 := by seq_fits) :
    Meets (Builtin.«list.extend» ⟨[.ref l, .ref b], []⟩) (fun _ R s => s.heap.get? l = some { cls := .type "list", dict := none, data := .seq items n, slots := #[] } ∧ s.heap.get? b = some { cls := .type "tuple", dict := dd, data := .seq items2 n2, slots := sl } ∧ R (.ok (.ret Value.none)) { s with heap := s.heap.update l (Obj.mapSeq fun x => x ++ items2), toks := s.toks }) :=
  .of_wp fun prog w A R s h => by
    obtain ⟨hp, g, d, tk, os⟩ := s; obtain ⟨hl, hb, h⟩ := h; have f1 := idx_int; have f2 := sub_tuple_tuple; have f3 := sub_list_list; have f4 := sub_tuple_list; have f5 := sub_list_tuple;
    have hz' : (items ++ items2).size ≤ sizeLine + 1 := by rw [Array.size_append]; exact hs2
    wp_walk using (wpAny_updateSeq hl rfl (hz := hs1) (_hz' := hz')), wpAny_loadPart' hl, wpAny_loadPart' hb; exact ⟨_, rfl, h⟩
end PySem.MiX
namespace L2
open PySem PySem.Spec PyProof.Rows
section
variable {X : Cx}
/-- l.count(x) -/
def rCntD (K : PySem.W.Frag) : V → List V → Hp → VK → Prop := fun x xs H Q => ∃ (a : Addr) (ys : List V) (y : V) (d : PyData) (ds : List PyData), x = V.ref a ∧ xs = [y] ∧ H a = some (.lst ys) ∧ DpAll K H ys ds ∧ Dp K H y d ∧
  SeqAt.shaped (.list ds) = true ∧ SeqAt.shaped d = true ∧ Q (.int (ds.countP (fun z => PyData.eqv z d) : Nat)) H
theorem mt_countD (hu : X.A.units + 65 < cLine) : MtR X "list.count" (rCntD X.K) := by
  intro pins s σ H x xs v us Q I rx rxs h
  obtain ⟨a, ys, y, d, ds, rfl, rfl, hH, ha, hy, sl, sd, q⟩ := h
  cases rx
  obtain ⟨uy, rfl, ry⟩ := rxs.one
  obtain ⟨bs, r1⟩ := Dp.reads I d y uy hy ry
  have hxs : PyData.canLayAll0 ds = true := SeqAt.canLay_of_shaped sl
  have hroom : X.A.units + 1 + min (PyData.depthAll ds) d.depth < cLine := room_in_shaped sd hu
  obtain ⟨hlen, its, n, rv, hl, ho⟩ := I.lstM hH
  obtain ⟨as, h4⟩ := Dp.readsAll I ds _ its ha rv
  have hmap : its.map (SeqAt.readOf s.heap) = ds := SeqAt.readsAll_map ds its as hxs h4
  refine call_meets PySem.F.slot_list_count ⟨_, ho, rfl⟩ PySem.F.entry_list_count (PySem.F.args_list_count_2 _ _)
    (SeqAt.list_countAt a its.toArray n none #[] uy (fun u => PyData.eqv (SeqAt.readOf s.heap u) d)) ⟨ho, SeqAt.items_eqAt (vs := its.toArray) (show ReadsAll s.heap its.toArray.toList ds as from h4) r1 hxs (SeqAt.canLay_of_shaped sd) hroom, ?_⟩
  have ec : its.toArray.toList.countP (fun u => PyData.eqv (SeqAt.readOf s.heap u) d) = ds.countP (fun z => PyData.eqv z d) := by
    rw [← hmap, List.countP_map]; rfl
  refine ⟨.int (ds.countP (fun z => PyData.eqv z d) : Nat), H, I.tok _, ⟨s.toks, ?_⟩, q⟩
  show Value.int ((its.toArray.toList.countP _ : Nat) : Int) s.toks = Value.int _ s.toks
  rw [ec]
/-- l.extend(t), a tuple -/
def rExtT (K : PySem.W.Frag) : V → List V → Hp → VK → Prop := fun x vs H Q => ∃ l b xs zs, x = .ref l ∧ vs = [.ref b] ∧ H l = some (.lst xs) ∧ SqT K H b zs ∧ xs.length + zs.length ≤ sizeLine ∧ Q .non (upd H l (.lst (xs ++ zs)))
theorem mt_extT : MtM X "list.extend" (rExtT X.K) := by
  intro pins s σ H x vs v us Q I rx rv h
  obtain ⟨l, b, xs, zs, rfl, rfl, hH, hB, hz, q⟩ := h
  cases rx
  obtain ⟨u, rfl, ru⟩ := rv.one
  cases ru
  obtain ⟨z, its, n, r, hl, e⟩ := I.lstM hH
  obtain ⟨its2, r2, it2, z2⟩ := I.tuple hB
  obtain ⟨⟨cls, dd, data, sl⟩, ho2, hc2, n2, hd2⟩ := it2
  simp only at hc2 hd2
  subst hc2 hd2
  have hl2 := r2.length
  have hsz : its.toArray.size + its2.toArray.size ≤ sizeLine := by rw [List.size_toArray, List.size_toArray]; omega
  have hlong : ¬ (!its.toArray.isEmpty && Builtin.List.listTooLong (its.toArray.size + its2.toArray.size)) = true := by
    rw [notLongL hsz, Bool.and_false]
    exact Bool.false_ne_true
  refine call_meets PySem.F.slot_list_extend ⟨_, e, rfl⟩ PySem.F.entry_list_extend (PySem.F.args_list_extend_2 _ _)
    (PySem.MiX.ext_tup l its.toArray n b its2.toArray n2 dd sl hlong (by rw [List.size_toArray]; omega) (by omega)) ⟨e, ho2, ?_⟩
  refine ⟨.non, _, I.lset (its' := its ++ its2) hH e (by simp) (r.append r2) ?_, rfl, q⟩
  rw [List.length_append]
  omega
end
end L2
namespace MI
open PySem L2
section
variable {X : Cx} {E : XK} {a b c e : Expr} {as : List Expr} {fa fb fe : Sx} {fs : Sa} {p pos : Pos}
/-- l.count(x) -/
def cntG (m : Nat) (d : D) (h2 : Hq) : Rs D := match lstAt h2 m with
  | some l => match opts (toPy h2 60) l, toPy h2 60 d with
    | some ds, some q => if SeqAt.shaped q = true ∧ SeqAt.shaped (.list ds) = true then .ok (.int (ds.countP (fun z => PyData.eqv z q) : Nat)) h2 else .no
    | _, _ => .no
  | none => .no
def cntF (fe : Sx) (fr : Fr) (o : D) (h1 : Hq) : Rs D := match o with
  | .ref m => match lstAt h1 m with
    | some _ => (fe fr h1).bind fun d h2 => cntG m d h2
    | none => .no
  | _ => .no
def eCnt (fo fe : Sx) : Sx := fun fr h => (fo fr h).bind (cntF fe fr)
theorem m_cnt {o : Expr} {fo : Sx} {apos cpos : Pos} (hu : X.A.units + 65 < cLine) (ho : PM X E o fo) (he : PM X E e fe) (h1 : attributeBase o "count" X.env (eval o X.env) = eval o X.env := by rfl) (h3 : starEach (e :: []) X.env = (false, eval e X.env) :: starEach [] X.env := by rfl)
    (h2 : (((backTo cpos (starEach [e] X.env)).all fun x => !x.fst) && (backToKw cpos (keywordEach [] X.env)).all (fun x => x.fst.isSome) && decide (([e].length + ([] : List Keyword).length + if ([] : List Keyword).isEmpty = true then 0 else 1) < 30)) = true := by rfl)
    (h4 : (apos.endLine == cpos.line) = true := by rfl) :
    PM X E (.Call (.Attribute o "count" apos) [e] [] cpos) (eCnt fo fe) := pe_imp (pe_bm PySem.F.plainAttrs_list PySem.F.slot_list_count PySem.F.type_list_count (mt_countD hu) ho (pa_cons he pa_nil h3) h1 h2 h4 h3) fun σ H Q ⟨ι, h, fr, R, F, P⟩ => by
  refine ⟨ι, h, fr, R, F, Po.mono ?_ (Po.bind P)⟩
  rintro v H1 ⟨i1, h1, od, e1, R1, r1, P1⟩
  unfold cntF at P1
  split at P1
  · rename_i n
    split at P1
    · rename_i _ l0 hl0
      cases r1 with
      | ref hx =>
        rename_i a
        obtain ⟨vs0, c0, _⟩ := R1.lst hx hl0
        refine ⟨.inl ⟨rfl, vs0, .of c0⟩, i1, h1, fr, R1, F.ext e1, Po.mono ?_ (Po.bind P1)⟩
        rintro w H2 ⟨i2, h2, d, e2, R2, r2, P2⟩
        unfold cntG at P2
        split at P2
        · rename_i l hl
          split at P2
          · rename_i ds q hds hq
            split at P2
            · rename_i hs
              obtain ⟨vs, c2, q2⟩ := R2.lst (e2.get hx) hl
              exact ⟨a, vs, w, q, ds, rfl, rfl, c2, dp_all (fun d p v => dp_of R2 60 d p v) hds q2, dp_of R2 60 d q w hq r2, hs.2, hs.1, P2 i2 _ _ (Ext.refl _ _) R2 (.int _)⟩
            · exact P2.elim
          · exact P2.elim
        · exact P2.elim
    · exact P1.elim
  · exact P1.elim
/-- l.extend(t) -/
def extG (m : Nat) (d : D) (h2 : Hq) : Rs D := match d with
  | .tup r => match lstAt h2 m with
    | some l => if small (l.length + r.length) = true then .ok .non (h2.set m (.lst (l ++ r))) else .no
    | none => .no
  | _ => .no
def extF (fe : Sx) (fr : Fr) (o : D) (h1 : Hq) : Rs D := match o with
  | .ref m => match lstAt h1 m with
    | some _ => (fe fr h1).bind fun d h2 => extG m d h2
    | none => .no
  | _ => .no
def eExt (fo fe : Sx) : Sx := fun fr h => (fo fr h).bind (extF fe fr)
theorem m_ext {o : Expr} {fo : Sx} {apos cpos : Pos} (ho : PM X E o fo) (he : PM X E e fe) (h1 : attributeBase o "extend" X.env (eval o X.env) = eval o X.env := by rfl) (h3 : starEach (e :: []) X.env = (false, eval e X.env) :: starEach [] X.env := by rfl)
    (h2 : (((backTo cpos (starEach [e] X.env)).all fun x => !x.fst) && (backToKw cpos (keywordEach [] X.env)).all (fun x => x.fst.isSome) && decide (([e].length + ([] : List Keyword).length + if ([] : List Keyword).isEmpty = true then 0 else 1) < 30)) = true := by rfl)
    (h4 : (apos.endLine == cpos.line) = true := by rfl) :
    PM X E (.Call (.Attribute o "extend" apos) [e] [] cpos) (eExt fo fe) := pe_imp (pe_bm PySem.F.plainAttrs_list PySem.F.slot_list_extend PySem.F.type_list_extend mt_extT ho (pa_cons he pa_nil h3) h1 h2 h4 h3) fun σ H Q ⟨ι, h, fr, R, F, P⟩ => by
  refine ⟨ι, h, fr, R, F, Po.mono ?_ (Po.bind P)⟩
  rintro v H1 ⟨i1, h1, od, e1, R1, r1, P1⟩
  unfold extF at P1
  split at P1
  · rename_i n
    split at P1
    · rename_i _ l0 hl0
      cases r1 with
      | ref hx =>
        rename_i a
        obtain ⟨vs0, c0, _⟩ := R1.lst hx hl0
        refine ⟨.inl ⟨rfl, vs0, .of c0⟩, i1, h1, fr, R1, F.ext e1, Po.mono ?_ (Po.bind P1)⟩
        rintro w H2 ⟨i2, h2, d, e2, R2, r2, P2⟩
        unfold extG at P2
        split at P2
        · rename_i r
          split at P2
          · rename_i _ l hl
            split at P2
            · rename_i hz
              obtain ⟨vs, c2, q2⟩ := R2.lst (e2.get hx) hl
              cases r2 with
              | tup hb qb =>
                rename_i ba ws
                obtain ⟨e4, R4⟩ := R2.put (lstAt_some hl) (e2.get hx) (o := .lst (vs ++ ws)) (c := .lst (l ++ r)) fun H' e z => ⟨_, z, (q2.append qb).ext e⟩
                exact ⟨a, ba, vs, ws, rfl, rfl, c2, .of hb, by rw [q2.length, qb.length]; exact small_le hz, P2 i2 _ _ e4 R4 .non⟩
            · exact P2.elim
          · exact P2.elim
        · exact P2.elim
    · exact P1.elim
  · exact P1.elim
/-- [*a, ..] -/
def stF (g : Sa) (fr : Fr) (x : D) (h1 : Hq) : Rs (List D) := match x with
  | .tup l => (g fr h1).bind fun xs h2 => .ok (l ++ xs) h2
  | .ref m => match lstAt h1 m with
    | some l => (g fr h1).bind fun xs h2 => .ok (l ++ xs) h2
    | none => .no
  | _ => .no
def aStar (f : Sx) (g : Sa) : Sa := fun fr h => (f fr h).bind (stF g fr)
theorem m_star {sp : Pos} (ha : PM X E a fa) (hr : PMa X E as fs) (hs : starEach (.Starred a sp :: as) X.env = (true, eval a X.env) :: starEach as X.env := by rfl) : PMa X E (.Starred a sp :: as) (aStar fa fs) := pa_imp (StX.pa_star ha hr hs) fun σ H Q ⟨ι, h, fr, R, F, P⟩ => by
  refine ⟨ι, h, fr, R, F, Po.mono ?_ (Po.bind P)⟩
  rintro v H1 ⟨ι1, h1, x, e1, R1, r1, P1⟩
  unfold stF at P1
  split at P1
  · cases r1 with
    | tup hb qb =>
      refine ⟨_, _, rfl, .inl (.of hb), ι1, h1, fr, R1, F.ext e1, Po.mono ?_ (Po.bind P1)⟩
      rintro vs H2 ⟨ι2, h2, xs, e2, R2, r2, P2⟩
      exact P2 ι2 H2 _ (Ext.refl _ _) R2 ((qb.ext e2).append r2)
  · split at P1
    · rename_i l hl
      cases r1 with
      | ref hx =>
        obtain ⟨ws, c1, q1⟩ := R1.lst hx hl
        refine ⟨_, _, rfl, .inr (.of c1), ι1, h1, fr, R1, F.ext e1, Po.mono ?_ (Po.bind P1)⟩
        rintro vs H2 ⟨ι2, h2, xs, e2, R2, r2, P2⟩
        exact P2 ι2 H2 _ (Ext.refl _ _) R2 ((q1.ext e2).append r2)
    · exact P1.elim
  · exact P1.elim
end
end MI
namespace MI
open PySem L2
/-! ### what stands for what is not written -/
def aDef (fs : Sa) (dds : List D) : Sa := fun fr h => (fs fr h).bind fun ds h1 => .ok (ds ++ dds) h1
structure GoodD (P : Program) (w : World) (K : PySem.W.Frag) (mg : Str → Option Value) (base : Heap) (k : Nat) (x : Str) (ps : List Str) (sem : Sf) (dvs : List V) : Prop where
  ex : ∃ (f : Addr) (fd : FuncData), mg x = some (.ref f) ∧ FnG P w K mg base k f fd ps sem ∧ PySem.W.keepIn K (.ref f) = true ∧ ∃ dus, Vals dvs dus ∧ Binds K fd ps dus
theorem m_callGD {X : Cx} {E : XK} {k j : Nat} {ps : List Str} {sem : Sf} {x : Str} {p pos : Pos} {a : Expr} {as : List Expr} {fs : Sa} {dvs : List V} {dds : List D} (hdd : ∀ K ι H, VRs K ι H dvs dds) (G : GoodD X.prog X.w X.K X.mg X.base k x ps sem dvs) (wh : Wh X E) (hr : Room j X.A) (hkj : k ≤ j) (ha : PMa X E (a :: as) fs) (hg : Gl X x := by rfl) (hdb : (x == ("__debug__" : Str)) = false := by decide)
    (he : starEach (a :: as) X.env = (false, eval a X.env) :: starEach as X.env := by rfl) (hpl : (backTo pos (starEach as X.env)).any (·.1) = false := by rfl) :
    PM X E (.Call (.Name x p) (a :: as) [] pos) (eCall ps.length sem (aDef fs dds)) := by
  obtain ⟨f, fd, hm, F, hk, dus, hd, hb⟩ := G.ex
  exact m_callD (dds := dds) F wh (hr.mono hkj) hm hk hb hd (fun ι H => hdd _ ι H) ha hg hdb he hpl
end MI
end

section
set_option Elab.async false
set_option linter.all false
set_option autoImplicit false
set_option maxRecDepth 100000
set_option maxHeartbeats 4000000
/-! what defs are worth whose text is the same in several laws (made by gen/shared.py) -/
namespace MI
open PySem L2
noncomputable section
/-- _law_pot: k01 k02 k03 k04 k05 k06 k07 k08 k09 k10 k11 k12 k13 k14 k15 k16 k17 k18 k19 k20 k21 k22 k23 -/
def S__law_pot : Sf := ofBody 2 1 (sSeq (sAsg (eK (.int 0)) (tgN 2)) (sSeq (sIf (bOf (eOp dLt (eV 1) (eBi gLen (aCons (eV 0) (aNil))))) (sSeq (sAsg (eOp dMod (eBi gAbs (aCons (eOp dIx (eV 0) (eV 1)) (aNil))) (eOp dPow (eOp dPow (eK (.int 10)) (eK (.int 60))) (eK (.int 10)))) (tgN 2)) (sEnd)) (sEnd)) (sSeq (sRet (eLst (aCons (eOp dMul (eV 2) (eBi gInt (aCons (eOp dGe (eV 2) (eOp dPow (eK (.int 10)) (eK (.int 18)))) (aNil)))) (aCons (eOp dMod (eOp dPow (eOp dAdd (eOp dAdd (eOp dMod (eV 2) (eK (.int 2147483629))) (eOp dMul (eK (.int 7919)) (eV 1))) (eK (.int 1))) (eK (.int 5))) (eK (.int 2305843009213693951))) (aCons (eK (.int 0)) (aNil)))))) (sEnd))))
/-- _law_take: k01 k02 k03 k04 k05 k06 k07 k08 k09 k10 k11 k12 k13 k14 k15 k16 k17 k18 k19 k20 k21 k22 k23 -/
def S__law_take : Sf := ofBody 2 3 (sSeq (sIf (bOf (eOp dGt (eOp dIx (eV 0) (eK (.int 0))) (eK (.int 0)))) (sSeq (sAsg (eOp dMod (eOp dIx (eV 0) (eK (.int 0))) (eV 1)) (tgN 2)) (sSeq (sPut (eOp dDiv (eOp dIx (eV 0) (eK (.int 0))) (eV 1)) (eV 0) (eK (.int 0))) (sSeq (sRet (eV 2)) (sEnd)))) (sEnd)) (sSeq (sPut (eOp dAdd (eOp dIx (eV 0) (eK (.int 2))) (eK (.int 1))) (eV 0) (eK (.int 2))) (sSeq (sAsg (eOp dMod (eOp dPow (eOp dAdd (eOp dIx (eV 0) (eK (.int 1))) (eOp dMul (eK (.int 104729)) (eOp dIx (eV 0) (eK (.int 2))))) (eK (.int 3))) (eK (.int 2305843009213693921))) (tgN 3)) (sSeq (sAsg (eOp dMod (eOp dPow (eOp dAdd (eOp dAdd (eV 3) (eOp dMod (eOp dIx (eV 0) (eK (.int 1))) (eK (.int 65537)))) (eOp dMul (eK (.int 31)) (eOp dIx (eV 0) (eK (.int 2))))) (eK (.int 5))) (eK (.int 2305843009213693907))) (tgN 4)) (sSeq (sRet (eOp dMod (eOp dDiv (eV 4) (eK (.int 1024))) (eV 1))) (sEnd))))))
/-- is_whole: k02 k03 k04 k05 k06 k07 k08 k11 k12 k13 k14 k15 k16 k17 k18 k19 k20 k21 k22 k23 -/
def S_is_whole : Sf := ofBody 1 0 (sSeq (sRet (eAnd (eIsi "int" (eV 0)) (eNot (eIsi "bool" (eV 0))))) (sEnd))
/-- lowest: k02 k03 k04 k08 k12 k14 k15 k16 k17 k18 k19 k20 k22 k23 -/
def S_lowest : Sf := ofBody 2 1 (sSeq (sIf (bOf (eOp dLt (eV 1) (eK (.int 0)))) (sSeq (sPar 0 1 (aCons (eUn dNeg (eV 0)) (aCons (eUn dNeg (eV 1)) (aNil)))) (sEnd)) (sEnd)) (sSeq (sAsg (eBi gGcd (aCons (eV 0) (aCons (eV 1) (aNil)))) (tgN 2)) (sSeq (sRet (eTup (aCons (eOp dDiv (eV 0) (eV 2)) (aCons (eOp dDiv (eV 1) (eV 2)) (aNil))))) (sEnd))))
/-- _law_lowest: k02 k03 k04 k05 k06 k07 k08 k11 k12 k15 k16 k17 k18 k19 k20 k21 k22 k23 -/
def S__law_lowest : Sf := ofBody 2 2 (sSeq (sPar 2 3 (aCons (eBi gAbs (aCons (eV 0) (aNil))) (aCons (eV 1) (aNil)))) (sSeq (sWhile (bOf (eOp (dEqs true) (eV 3) (eK (.int 0)))) (sSeq (sPar 2 3 (aCons (eV 3) (aCons (eOp dMod (eV 2) (eV 3)) (aNil)))) (sEnd))) (sSeq (sRet (eTup (aCons (eOp dDiv (eV 0) (eV 2)) (aCons (eOp dDiv (eV 1) (eV 2)) (aNil))))) (sEnd))))
/-- _law_whole: k02 k03 k04 k05 k06 k07 k10 -/
def S__law_whole : Sf := ofBody 1 0 (sSeq (sRet (eAnd (eIsi "int" (eV 0)) (eNot (eIsi "bool" (eV 0))))) (sEnd))
/-- below: k03 k04 k05 k06 k07 k08 k16 k17 k19 k20 k21 k22 k23 -/
def S_below : Sf := ofBody 2 0 (sSeq (sRet (eOp dLt (eOp dMul (eOp dIx (eV 0) (eK (.int 0))) (eOp dIx (eV 1) (eK (.int 1)))) (eOp dMul (eOp dIx (eV 1) (eK (.int 0))) (eOp dIx (eV 0) (eK (.int 1)))))) (sEnd))
/-- begin_edge: k04 k05 k06 k07 k08 k16 k17 k19 k20 k21 k22 k23 -/
def S_begin_edge : Sf := ofBody 1 0 (sSeq (sRet (eTup (aCons (eOp dIx (eV 0) (eK (.int 0))) (aCons (eNot (eOp dIx (eV 0) (eK (.int 1)))) (aNil))))) (sEnd))
/-- end_edge: k04 k05 k06 k07 k08 k16 k17 k19 k20 k21 k22 k23 -/
def S_end_edge : Sf := ofBody 1 0 (sSeq (sRet (eTup (aCons (eOp dIx (eV 0) (eK (.int 2))) (aCons (eOp dIx (eV 0) (eK (.int 3))) (aNil))))) (sEnd))
/-- between: k04 k05 k06 k07 k08 k17 k19 k20 k23 -/
def S_between : Sf := ofBody 2 0 (sSeq (sRet (eTup (aCons (eOp dIx (eV 0) (eK (.int 0))) (aCons (eNot (eOp dIx (eV 0) (eK (.int 1)))) (aCons (eOp dIx (eV 1) (eK (.int 0))) (aCons (eOp dIx (eV 1) (eK (.int 1))) (aNil))))))) (sEnd))
/-- _law_less: k04 k05 k06 k07 k08 k16 k17 k18 k19 k20 k21 k22 k23 -/
def S__law_less : Sf := ofBody 2 0 (sSeq (sRet (eOp dLt (eOp dMul (eOp dIx (eV 0) (eK (.int 0))) (eOp dIx (eV 1) (eK (.int 1)))) (eOp dMul (eOp dIx (eV 1) (eK (.int 0))) (eOp dIx (eV 0) (eK (.int 1)))))) (sEnd))
/-- _law_put: k06 k07 -/
def S__law_put : Sf := ofBody 1 3 (sSeq (sAsg (eLst (aNil)) (tgN 1)) (sSeq (sFor (tgT [2, 3]) (iSeq (eV 0)) (sSeq (sIf (bAnd (bOf (eOp (dEqs true) (eV 1) (eLst (aNil)))) (bOf (eOp (dEqs false) (eOp dIx (eOp dIx (eV 1) (eUn dNeg (eK (.int 1)))) (eK (.int 1))) (eV 3)))) (sSeq (sPut (eTup (aCons (eOp dAdd (eCut (eOp dIx (eOp dIx (eV 1) (eUn dNeg (eK (.int 1)))) (eK (.int 0))) (oNone) (oSome (eK (.int 2)))) (eCut (eV 2) (oSome (eK (.int 2))) (oNone))) (aCons (eOp dIx (eOp dIx (eV 1) (eUn dNeg (eK (.int 1)))) (eK (.int 1))) (aNil)))) (eV 1) (eUn dNeg (eK (.int 1)))) (sEnd)) (sSeq (sExpr (eApp (eV 1) (eTup (aCons (eV 2) (aCons (eV 3) (aNil)))))) (sEnd))) (sEnd))) (sSeq (sRet (eBi gTuple (aCons (eV 1) (aNil)))) (sEnd))))
/-- are_corners: k09 k10 k11 k12 k13 k14 k15 k18 k19 k20 k21 k22 k23 -/
def S_are_corners : Sf := ofBody 1 3 (sSeq (sFor (tgN 1) (iSeq (eV 0)) (sSeq (sIf (bOr (bNot (bOf (eIsi "tuple" (eV 1)))) (bOf (eOp (dEqs true) (eBi gLen (aCons (eV 1) (aNil))) (eK (.int 2))))) (sSeq (sRet (eK (.bl false))) (sEnd)) (sEnd)) (sSeq (sAsg (eV 1) (tgT [2, 3])) (sSeq (sIf (bOr (bNot (bOf (eIsi "int" (eV 2)))) (bOr (bNot (bOf (eIsi "int" (eV 3)))) (bOr (bOf (eOp (dIsN false) (eV 2) (eK (.bl true)))) (bOr (bOf (eOp (dIsN false) (eV 2) (eK (.bl false)))) (bOr (bOf (eOp (dIsN false) (eV 3) (eK (.bl true)))) (bOf (eOp (dIsN false) (eV 3) (eK (.bl false))))))))) (sSeq (sRet (eK (.bl false))) (sEnd)) (sEnd)) (sSeq (sIf (bOr (bNot (bOf (eChain (fun i j => decide (i ≤ j)) (fun i j => decide (i ≤ j)) (eK (.int (-1000000000))) (eV 2) (eK (.int 1000000000))))) (bNot (bOf (eChain (fun i j => decide (i ≤ j)) (fun i j => decide (i ≤ j)) (eK (.int (-1000000000))) (eV 3) (eK (.int 1000000000)))))) (sSeq (sRet (eK (.bl false))) (sEnd)) (sEnd)) (sEnd)))))) (sSeq (sRet (eK (.bl true))) (sEnd)))
/-- turns_left: k09 k10 k11 k12 k13 k14 k15 k18 k19 k20 k21 k22 k23 -/
def S_turns_left : Sf := ofBody 1 13 (sSeq (sAsg (eTup (aCons (eOp dIx (eV 0) (eUn dNeg (eK (.int 2)))) (aCons (eOp dIx (eV 0) (eUn dNeg (eK (.int 1)))) (aNil)))) (tgG [tgT [1, 2], tgT [3, 4]])) (sSeq (sPar 5 6 (aCons (eOp dSub (eV 3) (eV 1)) (aCons (eOp dSub (eV 4) (eV 2)) (aNil)))) (sSeq (sAsg (eOp dGt (eV 6) (eK (.int 0))) (tgN 7)) (sSeq (sAsg (eK (.int 0)) (tgN 8)) (sSeq (sFor (tgT [9, 10]) (iSeq (eV 0)) (sSeq (sPar 11 12 (aCons (eOp dSub (eV 9) (eV 3)) (aCons (eOp dSub (eV 10) (eV 4)) (aNil)))) (sSeq (sIf (bOf (eOp dLe (eOp dMul (eV 5) (eV 12)) (eOp dMul (eV 6) (eV 11)))) (sSeq (sRet (eK (.bl false))) (sEnd)) (sEnd)) (sSeq (sPar 13 7 (aCons (eV 7) (aCons (eOp dGt (eV 12) (eK (.int 0))) (aNil)))) (sSeq (sIf (bAnd (bOf (eV 7)) (bNot (bOf (eV 13)))) (sSeq (sAug 8 (fun x y => x + y) (eK (.int 1))) (sEnd)) (sEnd)) (sSeq (sAsg (eTup (aCons (eV 9) (aCons (eV 10) (aCons (eV 11) (aCons (eV 12) (aNil)))))) (tgT [3, 4, 5, 6])) (sEnd))))))) (sSeq (sRet (eOp (dEqs false) (eV 8) (eK (.int 1)))) (sEnd)))))))
/-- _law_cross: k09 k10 k11 k12 k13 k14 k15 k18 k19 k20 k21 k22 k23 -/
def S__law_cross : Sf := ofBody 3 0 (sSeq (sRet (eOp dSub (eOp dMul (eOp dSub (eOp dIx (eV 1) (eK (.int 0))) (eOp dIx (eV 0) (eK (.int 0)))) (eOp dSub (eOp dIx (eV 2) (eK (.int 1))) (eOp dIx (eV 0) (eK (.int 1))))) (eOp dMul (eOp dSub (eOp dIx (eV 1) (eK (.int 1))) (eOp dIx (eV 0) (eK (.int 1)))) (eOp dSub (eOp dIx (eV 2) (eK (.int 0))) (eOp dIx (eV 0) (eK (.int 0))))))) (sEnd))
/-- bounds: k10 k11 k12 k13 k14 k15 k18 k19 k20 k22 k23 -/
def S_bounds : Sf := ofBody 1 5 (sSeq (sAsg (eComp (iSeq (eV 0)) [3, 4] (tgT [3, 4]) (cYes) (eV 3)) (tgN 1)) (sSeq (sAsg (eComp (iSeq (eV 0)) [4, 5] (tgT [4, 5]) (cYes) (eV 5)) (tgN 2)) (sSeq (sRet (eTup (aCons (eBi gMin (aCons (eV 1) (aNil))) (aCons (eBi gMin (aCons (eV 2) (aNil))) (aCons (eBi gMax (aCons (eV 1) (aNil))) (aCons (eBi gMax (aCons (eV 2) (aNil))) (aNil))))))) (sEnd))))
/-- _law_gap: k10 k20 -/
def S__law_gap : Sf := ofBody 2 5 (sSeq (sAsg (eLst (aCons (eK (.int 0)) (aNil))) (tgN 2)) (sSeq (sFor (tgN 3) (iRange (aCons (eK (.int 2)) (aNil))) (sSeq (sPar 4 5 (aCons (eComp (iSeq (eV 0)) [6] (tgN 6) (cYes) (eOp dIx (eV 6) (eV 3))) (aCons (eComp (iSeq (eV 1)) [6] (tgN 6) (cYes) (eOp dIx (eV 6) (eV 3))) (aNil)))) (sSeq (sAsg (eOp dAdd (eV 2) (eLst (aCons (eOp dSub (eBi gMin (aCons (eV 5) (aNil))) (eBi gMax (aCons (eV 4) (aNil)))) (aCons (eOp dSub (eBi gMin (aCons (eV 4) (aNil))) (eBi gMax (aCons (eV 5) (aNil)))) (aNil))))) (tgN 2)) (sEnd)))) (sSeq (sRet (eBi gMax (aCons (eV 2) (aNil)))) (sEnd))))
/-- reach_of: k11 k12 k14 k15 k18 k19 k20 k21 k23 -/
def S_reach_of : Sf := ofBody 2 4 (sSeq (sAsg (eV 1) (tgT [2, 3])) (sSeq (sRet (eBi gMax (aCons (eComp (iSeq (eV 0)) [4, 5] (tgT [4, 5]) (cYes) (eOp dAdd (eOp dMul (eV 2) (eV 4)) (eOp dMul (eV 3) (eV 5)))) (aNil)))) (sEnd)))
/-- least_of: k12 k14 k15 k19 k20 k23 -/
def S_least_of : Sf := ofBody 2 4 (sSeq (sAsg (eV 1) (tgT [2, 3])) (sSeq (sRet (eBi gMin (aCons (eComp (iSeq (eV 0)) [4, 5] (tgT [4, 5]) (cYes) (eOp dAdd (eOp dMul (eV 2) (eV 4)) (eOp dMul (eV 3) (eV 5)))) (aNil)))) (sEnd)))
/-- turned_about: k12 k14 k15 k19 k21 k23 -/
def S_turned_about : Sf := ofBody 1 0 (sSeq (sRet (eTup (aCons (eUn dNeg (eOp dIx (eV 0) (eK (.int 0)))) (aCons (eUn dNeg (eOp dIx (eV 0) (eK (.int 1)))) (aNil))))) (sEnd))
/-- _law_reach: k12 k20 k21 k22 k23 -/
def S__law_reach : Sf := ofBody 2 2 (sSeq (sRet (eBi gMax (aCons (eComp (iSeq (eV 0)) [2, 3] (tgT [2, 3]) (cYes) (eOp dAdd (eOp dMul (eOp dIx (eV 1) (eK (.int 0))) (eV 2)) (eOp dMul (eOp dIx (eV 1) (eK (.int 1))) (eV 3)))) (aNil)))) (sEnd))
/-- _law_step_on: k12 k13 k15 -/
def S__law_step_on : Sf := ofBody 3 3 (sSeq (sAsg (eBi gTuple (aCons (eComp (iSeq (eV 0)) [4, 5] (tgT [4, 5]) (cYes) (eTup (aCons (eOp dAdd (eV 4) (eV 1)) (aCons (eOp dAdd (eV 5) (eV 2)) (aNil))))) (aNil))) (tgN 3)) (sSeq (sRet (eIf (bOf (eOp (dEqs true) (eComp (iSeq (eV 3)) [4, 5] (tgT [4, 5]) (bOf (eOp dGt (eBi gMax (aCons (eBi gAbs (aCons (eV 4) (aNil))) (aCons (eBi gAbs (aCons (eV 5) (aNil))) (aNil)))) (eOp dPow (eK (.int 10)) (eK (.int 9))))) (eK (.int 1))) (eLst (aNil)))) (eV 0) (eV 3))) (sEnd)))
/-- signs_of: k16 k17 k19 -/
def S_signs_of : Sf := ofBody 1 5 (sSeq (sAsg (eV 0) (tgG [tgG [tgT [1, 2], tgT [3, 4]], tgN 5])) (sSeq (sRet (eTup (aCons (eOp dMul (eV 1) (eV 4)) (aCons (eOp dMul (eV 3) (eV 2)) (aCons (eV 5) (aNil)))))) (sEnd)))
/-- through: k16 k17 k19 k20 k21 k23 -/
def S_through : Sf := ofBody 2 11 (sSeq (sAsg (eV 0) (tgT [2, 3, 4])) (sSeq (sAsg (eV 1) (tgG [tgT [5, 6], tgN 7, tgT [8, 9], tgN 10])) (sSeq (sPar 11 12 (aCons (eOp dAdd (eOp dMul (eV 2) (eV 6)) (eOp dMul (eV 3) (eV 5))) (aCons (eOp dAdd (eOp dMul (eV 2) (eV 9)) (eOp dMul (eV 3) (eV 8))) (aNil)))) (sSeq (sIf (bOr (bOf (eOp dLt (eV 11) (eK (.int 0)))) (bOf (eOp dLt (eV 12) (eK (.int 0))))) (sSeq (sRet (eK (.bl false))) (sEnd)) (sEnd)) (sSeq (sIf (bNot (bOf (eV 4))) (sSeq (sRet (eK (.bl true))) (sEnd)) (sEnd)) (sSeq (sIf (bAnd (bOf (eOp (dEqs false) (eV 11) (eK (.int 0)))) (bOr (bOf (eV 7)) (bOf (eOp (dEqs false) (eV 12) (eK (.int 0)))))) (sSeq (sRet (eK (.bl false))) (sEnd)) (sEnd)) (sSeq (sRet (eOr (eOp dGt (eV 12) (eK (.int 0))) (eNot (eV 10)))) (sEnd))))))))
/-- turned_over: k16 k17 k19 k20 k23 -/
def S_turned_over : Sf := ofBody 1 3 (sSeq (sAsg (eV 0) (tgT [1, 2, 3])) (sSeq (sRet (eTup (aCons (eUn dNeg (eV 1)) (aCons (eUn dNeg (eV 2)) (aCons (eNot (eV 3)) (aNil)))))) (sEnd)))
/-- whole_line: k18 k19 -/
def S_whole_line : Sf := ofBody 2 0 (sSeq (sRet (eTup (aCons (eTup (aCons (eV 0) (aCons (eK (.int 1)) (aNil)))) (aCons (eTup (aCons (eV 1) (aCons (eK (.int 1)) (aNil)))) (aNil))))) (sEnd))
/-- counts: k18 k19 k20 k21 k23 -/
def S_counts : Sf := ofBody 2 0 (sSeq (sRet (eOp dAdd (eOp dMul (eOp dIx (eV 0) (eK (.int 0))) (eOp dIx (eV 1) (eK (.int 0)))) (eOp dMul (eOp dIx (eV 0) (eK (.int 1))) (eOp dIx (eV 1) (eK (.int 1)))))) (sEnd))
/-- moved_points: k18 k19 k22 k23 -/
def S_moved_points : Sf := ofBody 2 8 (sSeq (sAsg (eV 0) (tgT [2, 3, 4])) (sSeq (sAsg (eV 1) (tgT [5, 6])) (sSeq (sAsg (eOp dSub (eV 5) (eOp dMul (eV 2) (eV 6))) (tgN 7)) (sSeq (sRet (eBi gTuple (aCons (eComp (iSeq (eV 3)) [8, 9] (tgT [8, 9]) (cYes) (eTup (aCons (eOp dAdd (eOp dMul (eV 8) (eV 6)) (eOp dMul (eOp dIx (eV 4) (eK (.int 0))) (eV 7))) (aCons (eOp dAdd (eOp dMul (eV 9) (eV 6)) (eOp dMul (eOp dIx (eV 4) (eK (.int 1))) (eV 7))) (aNil))))) (aNil)))) (sEnd)))))
/-- _law_at: k18 k20 k21 k22 k23 -/
def S__law_at : Sf := ofBody 2 3 (sSeq (sIf (bOr (bOf (eOp (dIsN false) (eV 0) (eK .non))) (bOf (eOp (dIsN false) (eOp dIx (eV 0) (eK (.int 1))) (eK .non)))) (sSeq (sRet (eK .non)) (sEnd)) (sEnd)) (sSeq (sAsg (eOp dSub (eOp dIx (eV 1) (eK (.int 0))) (eOp dMul (eOp dIx (eV 0) (eK (.int 0))) (eOp dIx (eV 1) (eK (.int 1))))) (tgN 2)) (sSeq (sRet (eComp (iSeq (eOp dIx (eV 0) (eK (.int 1)))) [3, 4] (tgT [3, 4]) (cYes) (eTup (aCons (eOp dAdd (eOp dMul (eV 3) (eOp dIx (eV 1) (eK (.int 1)))) (eOp dMul (eOp dIx (eOp dIx (eV 0) (eK (.int 2))) (eK (.int 0))) (eV 2))) (aCons (eOp dAdd (eOp dMul (eV 4) (eOp dIx (eV 1) (eK (.int 1)))) (eOp dMul (eOp dIx (eOp dIx (eV 0) (eK (.int 2))) (eK (.int 1))) (eV 2))) (aNil)))))) (sEnd))))
/-- is_fraction: k02 k03 k04 k05 k06 k07 k08 k11 k12 k13 k14 k15 k16 k17 k18 k19 k20 k21 k22 k23 -/
def S_is_fraction : Sf := ofBody 1 2 (sSeq (sIf (bOr (bNot (bOf (eIsi "tuple" (eV 0)))) (bOf (eOp (dEqs true) (eBi gLen (aCons (eV 0) (aNil))) (eK (.int 2))))) (sSeq (sRet (eK (.bl false))) (sEnd)) (sEnd)) (sSeq (sAsg (eV 0) (tgT [1, 2])) (sSeq (sRet (eAnd (eCall 1 S_is_whole (aCons (eV 1) (aNil))) (eAnd (eCall 1 S_is_whole (aCons (eV 2) (aNil))) (eAnd (eOp dGe (eV 2) (eK (.int 1))) (eOp (dEqs false) (eBi gGcd (aCons (eV 1) (aCons (eV 2) (aNil)))) (eK (.int 1))))))) (sEnd))))
/-- fraction: k02 k08 -/
def S_fraction : Sf := ofBody 2 0 (sSeq (sIf (bOr (bNot (bOf (eCall 1 S_is_whole (aCons (eV 0) (aNil))))) (bNot (bOf (eCall 1 S_is_whole (aCons (eV 1) (aNil)))))) (sSeq (sRaise "NoFraction") (sEnd)) (sEnd)) (sSeq (sIf (bOf (eOp (dEqs false) (eV 1) (eK (.int 0)))) (sSeq (sRaise "NoFraction") (sEnd)) (sEnd)) (sSeq (sRet (eCall 2 S_lowest (aCons (eV 0) (aCons (eV 1) (aNil))))) (sEnd))))
/-- _law_great: k02 k03 k04 k05 k06 k07 k08 -/
def S__law_great : Sf := ofBody 2 1 (sSeq (sIf (bOf (eOp dLt (eV 1) (eOp dPow (eK (.int 10)) (eK (.int 12))))) (sSeq (sRet (eCall 2 S__law_take (aCons (eV 0) (aCons (eV 1) (aNil))))) (sEnd)) (sEnd)) (sSeq (sAsg (eOp dAdd (eOp dMul (eCall 2 S__law_take (aCons (eV 0) (aCons (eOp dPow (eK (.int 10)) (eK (.int 12))) (aNil)))) (eOp dPow (eK (.int 10)) (eK (.int 24)))) (eOp dMul (eCall 2 S__law_take (aCons (eV 0) (aCons (eOp dPow (eK (.int 10)) (eK (.int 12))) (aNil)))) (eOp dPow (eK (.int 10)) (eK (.int 12))))) (tgN 2)) (sSeq (sRet (eOp dMod (eOp dAdd (eV 2) (eCall 2 S__law_take (aCons (eV 0) (aCons (eOp dPow (eK (.int 10)) (eK (.int 12))) (aNil))))) (eV 1))) (sEnd))))
/-- _law_is_fraction: k02 k03 k04 k05 k06 k07 -/
def S__law_is_fraction : Sf := ofBody 1 0 (sSeq (sIf (bOr (bNot (bOf (eIsi "tuple" (eV 0)))) (bOr (bOf (eOp (dEqs true) (eBi gLen (aCons (eV 0) (aNil))) (eK (.int 2)))) (bOr (bNot (bOf (eCall 1 S__law_whole (aCons (eOp dIx (eV 0) (eK (.int 0))) (aNil))))) (bNot (bOf (eCall 1 S__law_whole (aCons (eOp dIx (eV 0) (eK (.int 1))) (aNil)))))))) (sSeq (sRet (eK (.bl false))) (sEnd)) (sEnd)) (sSeq (sRet (eAnd (eOp dGt (eOp dIx (eV 0) (eK (.int 1))) (eK (.int 0))) (eOp (dEqs false) (eCall 2 S__law_lowest (aCons (eOp dIx (eV 0) (eK (.int 0))) (aCons (eOp dIx (eV 0) (eK (.int 1))) (aNil)))) (eV 0)))) (sEnd)))
/-- added: k03 k04 k08 k16 k18 k19 -/
def S_added : Sf := ofBody 2 0 (sSeq (sRet (eCall 2 S_lowest (aCons (eOp dAdd (eOp dMul (eOp dIx (eV 0) (eK (.int 0))) (eOp dIx (eV 1) (eK (.int 1)))) (eOp dMul (eOp dIx (eV 1) (eK (.int 0))) (eOp dIx (eV 0) (eK (.int 1))))) (aCons (eOp dMul (eOp dIx (eV 0) (eK (.int 1))) (eOp dIx (eV 1) (eK (.int 1)))) (aNil))))) (sEnd))
/-- taken: k03 k08 k19 k22 k23 -/
def S_taken : Sf := ofBody 2 0 (sSeq (sRet (eCall 2 S_lowest (aCons (eOp dSub (eOp dMul (eOp dIx (eV 0) (eK (.int 0))) (eOp dIx (eV 1) (eK (.int 1)))) (eOp dMul (eOp dIx (eV 1) (eK (.int 0))) (eOp dIx (eV 0) (eK (.int 1))))) (aCons (eOp dMul (eOp dIx (eV 0) (eK (.int 1))) (eOp dIx (eV 1) (eK (.int 1)))) (aNil))))) (sEnd))
/-- edge_below: k04 k05 k06 k07 k08 k16 k17 k19 k20 k21 k22 k23 -/
def S_edge_below : Sf := ofBody 2 0 (sSeq (sIf (bOf (eOp (dEqs false) (eOp dIx (eV 0) (eK (.int 0))) (eOp dIx (eV 1) (eK (.int 0))))) (sSeq (sRet (eAnd (eOp dIx (eV 1) (eK (.int 1))) (eNot (eOp dIx (eV 0) (eK (.int 1)))))) (sEnd)) (sEnd)) (sSeq (sRet (eCall 2 S_below (aCons (eOp dIx (eV 0) (eK (.int 0))) (aCons (eOp dIx (eV 1) (eK (.int 0))) (aNil))))) (sEnd)))
/-- _law_in: k04 k05 k06 k16 k17 k20 k21 -/
def S__law_in : Sf := ofBody 2 4 (sSeq (sAsg (eV 0) (tgT [2, 3, 4, 5])) (sSeq (sIf (bOr (bOf (eCall 2 S__law_less (aCons (eV 1) (aCons (eV 2) (aNil))))) (bOf (eCall 2 S__law_less (aCons (eV 4) (aCons (eV 1) (aNil)))))) (sSeq (sRet (eK (.bl false))) (sEnd)) (sEnd)) (sSeq (sRet (eAnd (eOr (eV 3) (eOp (dEqs true) (eV 1) (eV 2))) (eOr (eV 5) (eOp (dEqs true) (eV 1) (eV 4))))) (sEnd))))
/-- _law_order: k04 k05 k06 k07 -/
def S__law_order : Sf := ofBody 1 4 (sSeq (sAsg (eLst (aNil)) (tgN 1)) (sSeq (sFor (tgN 2) (iSeq (eV 0)) (sSeq (sIf (bOf (eOp (dIn true) (eV 2) (eV 1))) (sSeq (sExpr (eApp (eV 1) (eV 2))) (sEnd)) (sEnd)) (sEnd))) (sSeq (sAsg (eLst (aNil)) (tgN 3)) (sSeq (sWhile (bOf (eOp (dEqs true) (eV 1) (eLst (aNil)))) (sSeq (sAsg (eOp dIx (eV 1) (eK (.int 0))) (tgN 4)) (sSeq (sFor (tgN 2) (iSeq (eV 1)) (sSeq (sIf (bOf (eCall 2 S__law_less (aCons (eV 2) (aCons (eV 4) (aNil))))) (sSeq (sAsg (eV 2) (tgN 4)) (sEnd)) (sEnd)) (sEnd))) (sSeq (sExpr (eApp (eV 3) (eV 4))) (sSeq (sExpr (eRem (eV 1) (eV 4))) (sEnd)))))) (sSeq (sRet (eV 3)) (sEnd))))))
/-- _law_span: k04 k05 k08 -/
def S__law_span : Sf := ofBody 2 2 (sSeq (sPar 2 3 (aCons (eOp dIx (eV 1) (eCall 2 S__law_take (aCons (eV 0) (aCons (eBi gLen (aCons (eV 1) (aNil))) (aNil))))) (aCons (eOp dIx (eV 1) (eCall 2 S__law_take (aCons (eV 0) (aCons (eBi gLen (aCons (eV 1) (aNil))) (aNil))))) (aNil)))) (sSeq (sIf (bOf (eCall 2 S__law_less (aCons (eV 3) (aCons (eV 2) (aNil))))) (sSeq (sPar 2 3 (aCons (eV 3) (aCons (eV 2) (aNil)))) (sEnd)) (sEnd)) (sSeq (sIf (bOr (bOf (eOp (dEqs false) (eV 2) (eV 3))) (bOf (eOp (dEqs false) (eCall 2 S__law_take (aCons (eV 0) (aCons (eK (.int 6)) (aNil)))) (eK (.int 0))))) (sSeq (sRet (eTup (aCons (eV 2) (aCons (eK (.bl true)) (aCons (eV 2) (aCons (eK (.bl true)) (aNil))))))) (sEnd)) (sEnd)) (sSeq (sRet (eTup (aCons (eV 2) (aCons (eOp (dEqs false) (eCall 2 S__law_take (aCons (eV 0) (aCons (eK (.int 2)) (aNil)))) (eK (.int 0))) (aCons (eV 3) (aCons (eOp (dEqs false) (eCall 2 S__law_take (aCons (eV 0) (aCons (eK (.int 2)) (aNil)))) (eK (.int 0))) (aNil))))))) (sEnd)))))
/-- whole_stretch: k06 k07 k08 -/
def S_whole_stretch : Sf := ofBody 1 0 (sSeq (sRet (eCall 2 S_between (aCons (eCall 1 S_begin_edge (aCons (eOp dIx (eOp dIx (eV 0) (eK (.int 0))) (eK (.int 0))) (aNil))) (aCons (eCall 1 S_end_edge (aCons (eOp dIx (eOp dIx (eV 0) (eUn dNeg (eK (.int 1)))) (eK (.int 0))) (aNil))) (aNil))))) (sEnd))
/-- is_ring: k09 k10 k11 k12 k13 k14 k15 k18 k19 k20 k21 k22 k23 -/
def S_is_ring : Sf := ofBody 1 0 (sSeq (sIf (bOr (bNot (bOf (eIsi "tuple" (eV 0)))) (bNot (bOf (eChain (fun i j => decide (i ≤ j)) (fun i j => decide (i ≤ j)) (eK (.int 1)) (eBi gLen (aCons (eV 0) (aNil))) (eK (.int 8)))))) (sSeq (sRet (eK (.bl false))) (sEnd)) (sEnd)) (sSeq (sIf (bNot (bOf (eCall 1 S_are_corners (aCons (eV 0) (aNil))))) (sSeq (sRet (eK (.bl false))) (sEnd)) (sEnd)) (sSeq (sIf (bOf (eOp dLt (eBi gLen (aCons (eV 0) (aNil))) (eK (.int 3)))) (sSeq (sRet (eOr (eOp (dEqs false) (eBi gLen (aCons (eV 0) (aNil))) (eK (.int 1))) (eOp (dEqs true) (eOp dIx (eV 0) (eK (.int 0))) (eOp dIx (eV 0) (eK (.int 1)))))) (sEnd)) (sEnd)) (sSeq (sRet (eCall 1 S_turns_left (aCons (eV 0) (aNil)))) (sEnd)))))
/-- _law_half_hull: k09 k10 k11 k12 k13 k14 k15 k18 k19 k20 k21 k22 k23 -/
def S__law_half_hull : Sf := ofBody 1 2 (sSeq (sAsg (eLst (aNil)) (tgN 1)) (sSeq (sFor (tgN 2) (iSeq (eV 0)) (sSeq (sWhile (bAnd (bOf (eOp dGt (eBi gLen (aCons (eV 1) (aNil))) (eK (.int 1)))) (bOf (eOp dLe (eCall 3 S__law_cross (aCons (eOp dIx (eV 1) (eUn dNeg (eK (.int 2)))) (aCons (eOp dIx (eV 1) (eUn dNeg (eK (.int 1)))) (aCons (eV 2) (aNil))))) (eK (.int 0))))) (sSeq (sExpr (ePop (eV 1))) (sEnd))) (sSeq (sExpr (eApp (eV 1) (eV 2))) (sEnd)))) (sSeq (sRet (eV 1)) (sEnd))))
/-- gap_of: k10 k14 k15 -/
def S_gap_of : Sf := ofBody 2 8 (sSeq (sAsg (eCall 1 S_bounds (aCons (eV 0) (aNil))) (tgT [2, 3, 4, 5])) (sSeq (sAsg (eCall 1 S_bounds (aCons (eV 1) (aNil))) (tgT [6, 7, 8, 9])) (sSeq (sRet (eBi gMax (aCons (eK (.int 0)) (aCons (eOp dSub (eV 2) (eV 8)) (aCons (eOp dSub (eV 6) (eV 4)) (aCons (eOp dSub (eV 3) (eV 9)) (aCons (eOp dSub (eV 7) (eV 5)) (aNil)))))))) (sEnd))))
/-- is_direction: k11 k12 k14 k15 k18 k19 k21 k23 -/
def S_is_direction : Sf := ofBody 1 0 (sSeq (sIf (bOr (bNot (bOf (eIsi "tuple" (eV 0)))) (bOf (eOp (dEqs true) (eBi gLen (aCons (eV 0) (aNil))) (eK (.int 2))))) (sSeq (sRet (eK (.bl false))) (sEnd)) (sEnd)) (sSeq (sRet (eAnd (eCall 1 S_is_whole (aCons (eOp dIx (eV 0) (eK (.int 0))) (aNil))) (eAnd (eCall 1 S_is_whole (aCons (eOp dIx (eV 0) (eK (.int 1))) (aNil))) (eOp (dEqs true) (eV 0) (eTup (aCons (eK (.int 0)) (aCons (eK (.int 0)) (aNil)))))))) (sEnd)))
/-- holds: k11 k12 k13 k14 k15 k19 k22 k23 -/
def S_holds : Sf := ofBody 4 8 (sSeq (sAsg (eOp dIx (eV 0) (eUn dNeg (eK (.int 1)))) (tgT [4, 5])) (sSeq (sFor (tgT [6, 7]) (iSeq (eV 0)) (sSeq (sIf (bOf (eOp dGt (eOp dMul (eOp dSub (eV 7) (eV 5)) (eOp dSub (eV 1) (eOp dMul (eV 4) (eV 3)))) (eOp dMul (eOp dSub (eV 6) (eV 4)) (eOp dSub (eV 2) (eOp dMul (eV 5) (eV 3)))))) (sSeq (sRet (eK (.bl false))) (sEnd)) (sEnd)) (sSeq (sPar 4 5 (aCons (eV 6) (aCons (eV 7) (aNil)))) (sEnd)))) (sSeq (sIf (bOf (eOp dGt (eBi gLen (aCons (eV 0) (aNil))) (eK (.int 2)))) (sSeq (sRet (eK (.bl true))) (sEnd)) (sEnd)) (sSeq (sAsg (eCall 1 S_bounds (aCons (eV 0) (aNil))) (tgT [8, 9, 10, 11])) (sSeq (sRet (eAnd (eChain (fun i j => decide (i ≤ j)) (fun i j => decide (i ≤ j)) (eOp dMul (eV 8) (eV 3)) (eV 1) (eOp dMul (eV 10) (eV 3))) (eChain (fun i j => decide (i ≤ j)) (fun i j => decide (i ≤ j)) (eOp dMul (eV 9) (eV 3)) (eV 2) (eOp dMul (eV 11) (eV 3))))) (sEnd))))))
/-- _law_great: k11 k12 k15 k16 k17 k18 k19 k20 k21 k22 k23 -/
def S__law_great_2 : Sf := ofBody 2 2 (sSeq (sIf (bOf (eOp dLt (eV 1) (eOp dPow (eK (.int 10)) (eK (.int 12))))) (sSeq (sRet (eCall 2 S__law_take (aCons (eV 0) (aCons (eV 1) (aNil))))) (sEnd)) (sEnd)) (sSeq (sAsg (eComp (iRange (aCons (eK (.int 3)) (aNil))) [3] (tgN 3) (cYes) (eCall 2 S__law_take (aCons (eV 0) (aCons (eOp dPow (eK (.int 10)) (eK (.int 12))) (aNil))))) (tgN 2)) (sSeq (sRet (eOp dMod (eOp dAdd (eOp dAdd (eOp dMul (eOp dIx (eV 2) (eK (.int 0))) (eOp dPow (eK (.int 10)) (eK (.int 24)))) (eOp dMul (eOp dIx (eV 2) (eK (.int 1))) (eOp dPow (eK (.int 10)) (eK (.int 12))))) (eOp dIx (eV 2) (eK (.int 2)))) (eV 1))) (sEnd))))
/-- _law_holds: k11 k12 k13 -/
def S__law_holds : Sf := ofBody 2 17 (sSeq (sAsg (eV 1) (tgG [tgT [2, 3], tgT [4, 5]])) (sSeq (sAsg (eOp dMul (eV 3) (eV 5)) (tgN 6)) (sSeq (sAsg (eTup (aCons (eOp dMul (eV 2) (eV 5)) (aCons (eOp dMul (eV 4) (eV 3)) (aNil)))) (tgN 7)) (sSeq (sAsg (eComp (iSeq (eV 0)) [15, 16] (tgT [15, 16]) (cYes) (eTup (aCons (eOp dMul (eV 15) (eV 6)) (aCons (eOp dMul (eV 16) (eV 6)) (aNil))))) (tgN 8)) (sSeq (sIf (bOf (eOp (dEqs false) (eBi gLen (aCons (eV 8) (aNil))) (eK (.int 1)))) (sSeq (sRet (eOp (dEqs false) (eOp dIx (eV 8) (eK (.int 0))) (eV 7))) (sEnd)) (sEnd)) (sSeq (sAsg (eComp (iZip2 (aCons (eV 8) (aCons (eOp dAdd (eCut (eV 8) (oSome (eK (.int 1))) (oNone)) (eCut (eV 8) (oNone) (oSome (eK (.int 1))))) (aNil)))) [17, 18] (tgT [17, 18]) (cYes) (eCall 3 S__law_cross (aCons (eV 17) (aCons (eV 18) (aCons (eV 7) (aNil)))))) (tgN 9)) (sSeq (sIf (bOf (eOp dGt (eBi gLen (aCons (eV 8) (aNil))) (eK (.int 2)))) (sSeq (sRet (eOp dGe (eBi gMin (aCons (eV 9) (aNil))) (eK (.int 0)))) (sEnd)) (sEnd)) (sSeq (sAsg (eV 8) (tgG [tgT [10, 11], tgT [12, 13]])) (sSeq (sAsg (eAnd (eChain (fun i j => decide (i ≤ j)) (fun i j => decide (i ≤ j)) (eBi gMin (aCons (eV 10) (aCons (eV 12) (aNil)))) (eOp dIx (eV 7) (eK (.int 0))) (eBi gMax (aCons (eV 10) (aCons (eV 12) (aNil))))) (eChain (fun i j => decide (i ≤ j)) (fun i j => decide (i ≤ j)) (eBi gMin (aCons (eV 11) (aCons (eV 13) (aNil)))) (eOp dIx (eV 7) (eK (.int 1))) (eBi gMax (aCons (eV 11) (aCons (eV 13) (aNil)))))) (tgN 14)) (sSeq (sRet (eAnd (eOp (dEqs false) (eOp dIx (eV 9) (eK (.int 0))) (eK (.int 0))) (eV 14))) (sEnd)))))))))))
/-- parts: k12 k14 k15 -/
def S_parts : Sf := ofBody 3 0 (sSeq (sRet (eOp dLt (eCall 2 S_reach_of (aCons (eV 0) (aCons (eV 2) (aNil)))) (eCall 2 S_least_of (aCons (eV 1) (aCons (eV 2) (aNil)))))) (sEnd))
/-- way_out: k12 k14 k15 k19 k22 k23 -/
def S_way_out : Sf := ofBody 2 17 (sSeq (sAsg (eV 0) (tgG [tgT [2, 3], tgT [4, 5]])) (sSeq (sAsg (eV 1) (tgG [tgT [6, 7], tgT [8, 9]])) (sSeq (sPar 10 11 (aCons (eOp dSub (eV 4) (eV 2)) (aCons (eOp dSub (eV 5) (eV 3)) (aNil)))) (sSeq (sPar 12 13 (aCons (eOp dSub (eV 8) (eV 6)) (aCons (eOp dSub (eV 9) (eV 7)) (aNil)))) (sSeq (sAsg (eOp dSub (eOp dMul (eV 13) (eV 10)) (eOp dMul (eV 12) (eV 11))) (tgN 14)) (sSeq (sIf (bOf (eOp dLe (eV 14) (eK (.int 0)))) (sSeq (sRet (eK .non)) (sEnd)) (sEnd)) (sSeq (sPar 15 16 (aCons (eOp dSub (eV 6) (eV 2)) (aCons (eOp dSub (eV 7) (eV 3)) (aNil)))) (sSeq (sAsg (eOp dSub (eOp dMul (eV 13) (eV 15)) (eOp dMul (eV 12) (eV 16))) (tgN 17)) (sSeq (sAsg (eOp dSub (eOp dMul (eV 11) (eV 15)) (eOp dMul (eV 10) (eV 16))) (tgN 18)) (sSeq (sIf (bOr (bNot (bOf (eChain (fun i j => decide (i ≤ j)) (fun i j => decide (i ≤ j)) (eK (.int 0)) (eV 17) (eV 14)))) (bNot (bOf (eChain (fun i j => decide (i ≤ j)) (fun i j => decide (i ≤ j)) (eK (.int 0)) (eV 18) (eV 14))))) (sSeq (sRet (eK .non)) (sEnd)) (sEnd)) (sSeq (sRet (eTup (aCons (eCall 2 S_lowest (aCons (eOp dAdd (eOp dMul (eV 2) (eV 14)) (eOp dMul (eV 10) (eV 17))) (aCons (eV 14) (aNil)))) (aCons (eCall 2 S_lowest (aCons (eOp dAdd (eOp dMul (eV 3) (eV 14)) (eOp dMul (eV 11) (eV 17))) (aCons (eV 14) (aNil)))) (aNil))))) (sEnd))))))))))))
/-- _law_parts: k12 k20 k21 k22 -/
def S__law_parts : Sf := ofBody 3 0 (sSeq (sRet (eOp dLt (eCall 2 S__law_reach (aCons (eV 0) (aCons (eV 2) (aNil)))) (eOp dSub (eK (.int 0)) (eCall 2 S__law_reach (aCons (eV 1) (aCons (eTup (aCons (eOp dSub (eK (.int 0)) (eOp dIx (eV 2) (eK (.int 0)))) (aCons (eOp dSub (eK (.int 0)) (eOp dIx (eV 2) (eK (.int 1)))) (aNil)))) (aNil))))))) (sEnd))
/-- _law_middle: k16 k17 k20 k21 -/
def S__law_middle : Sf := ofBody 2 0 (sSeq (sRet (eCall 2 S__law_lowest (aCons (eOp dAdd (eOp dMul (eOp dIx (eV 0) (eK (.int 0))) (eOp dIx (eV 1) (eK (.int 1)))) (eOp dMul (eOp dIx (eV 1) (eK (.int 0))) (eOp dIx (eV 0) (eK (.int 1))))) (aCons (eOp dMul (eOp dMul (eK (.int 2)) (eOp dIx (eV 0) (eK (.int 1)))) (eOp dIx (eV 1) (eK (.int 1)))) (aNil))))) (sEnd))
/-- _law_points: k16 k17 k20 k21 k22 -/
def S__law_points : Sf := ofBody 2 3 (sSeq (sAsg (eLst (aCons (eOp dIx (eV 0) (eK (.int 0))) (aNil))) (tgN 2)) (sSeq (sFor (tgN 3) (iSeq (eV 1)) (sSeq (sIf (bAnd (bOf (eOp (dIn true) (eV 3) (eV 2))) (bAnd (bOf (eCall 2 S__law_less (aCons (eOp dIx (eV 0) (eK (.int 0))) (aCons (eV 3) (aNil))))) (bOf (eCall 2 S__law_less (aCons (eV 3) (aCons (eOp dIx (eV 0) (eK (.int 2))) (aNil))))))) (sSeq (sAsg (eK (.int 0)) (tgN 4)) (sSeq (sWhile (bAnd (bOf (eOp dLt (eV 4) (eBi gLen (aCons (eV 2) (aNil))))) (bOf (eCall 2 S__law_less (aCons (eOp dIx (eV 2) (eV 4)) (aCons (eV 3) (aNil)))))) (sSeq (sAsg (eOp dAdd (eV 4) (eK (.int 1))) (tgN 4)) (sEnd))) (sSeq (sExpr (eIns (eV 2) (eV 4) (eV 3))) (sEnd)))) (sEnd)) (sEnd))) (sSeq (sRet (eOp dAdd (eV 2) (eOp dMul (eLst (aCons (eOp dIx (eV 0) (eK (.int 2))) (aNil))) (eBi gInt (aCons (eOp (dEqs true) (eOp dIx (eV 0) (eK (.int 2))) (eOp dIx (eV 0) (eK (.int 0)))) (aNil)))))) (sEnd))))
/-- _law_worth: k16 k17 k18 -/
def S__law_worth : Sf := ofBody 2 4 (sSeq (sAsg (eV 0) (tgG [tgT [2, 3], tgT [4, 5]])) (sSeq (sRet (eCall 2 S__law_lowest (aCons (eOp dAdd (eOp dMul (eOp dMul (eV 2) (eV 5)) (eOp dIx (eV 1) (eK (.int 1)))) (eOp dMul (eOp dMul (eV 4) (eOp dIx (eV 1) (eK (.int 0)))) (eV 3))) (aCons (eOp dMul (eOp dMul (eV 3) (eV 5)) (eOp dIx (eV 1) (eK (.int 1)))) (aNil))))) (sEnd)))
/-- _law_roots: k16 k17 -/
def S__law_roots : Sf := ofBody 1 7 (sSeq (sAsg (eLst (aNil)) (tgN 1)) (sSeq (sFor (tgT [2, 3]) (iSeq (eV 0)) (sSeq (sAsg (eV 2) (tgG [tgT [4, 5], tgT [6, 7]])) (sSeq (sIf (bOf (eOp (dEqs true) (eV 6) (eK (.int 0)))) (sSeq (sExpr (eApp (eV 1) (eIf (bOf (eOp dGt (eV 6) (eK (.int 0)))) (eCall 2 S__law_lowest (aCons (eOp dSub (eK (.int 0)) (eOp dMul (eV 4) (eV 7))) (aCons (eOp dMul (eV 6) (eV 5)) (aNil)))) (eCall 2 S__law_lowest (aCons (eOp dMul (eV 4) (eV 7)) (aCons (eOp dSub (eK (.int 0)) (eOp dMul (eV 6) (eV 5))) (aNil))))))) (sEnd)) (sEnd)) (sEnd)))) (sSeq (sRet (eV 1)) (sEnd))))
/-- left_of: k17 k19 k20 k23 -/
def S_left_of : Sf := ofBody 2 4 (sSeq (sIf (bOf (eCall 2 S_through (aCons (eV 0) (aCons (eV 1) (aNil))))) (sSeq (sRet (eV 1)) (sEnd)) (sEnd)) (sSeq (sIf (bOf (eCall 2 S_through (aCons (eCall 1 S_turned_over (aCons (eV 0) (aNil))) (aCons (eV 1) (aNil))))) (sSeq (sRet (eK .non)) (sEnd)) (sEnd)) (sSeq (sAsg (eV 0) (tgT [2, 3, 4])) (sSeq (sAsg (eCall 2 S_lowest (aCons (eUn dNeg (eV 2)) (aCons (eV 3) (aNil)))) (tgN 5)) (sSeq (sIf (bOf (eOp dGt (eV 3) (eK (.int 0)))) (sSeq (sRet (eCall 2 S_between (aCons (eTup (aCons (eV 5) (aCons (eV 4) (aNil)))) (aCons (eCall 1 S_end_edge (aCons (eV 1) (aNil))) (aNil))))) (sEnd)) (sEnd)) (sSeq (sRet (eCall 2 S_between (aCons (eCall 1 S_begin_edge (aCons (eV 1) (aNil))) (aCons (eTup (aCons (eV 5) (aCons (eNot (eV 4)) (aNil)))) (aNil))))) (sEnd)))))))
/-- _law_is_fraction: k17 k20 k22 -/
def S__law_is_fraction_2 : Sf := ofBody 1 1 (sSeq (sIf (bOr (bNot (bOf (eIsi "tuple" (eV 0)))) (bOf (eOp (dEqs true) (eBi gLen (aCons (eV 0) (aNil))) (eK (.int 2))))) (sSeq (sRet (eK (.bl false))) (sEnd)) (sEnd)) (sSeq (sIf (bOr (bNot (bOf (eBi gAll (aCons (eComp (iSeq (eV 0)) [1] (tgN 1) (cYes) (eAnd (eIsi "int" (eV 1)) (eNot (eIsi "bool" (eV 1))))) (aNil))))) (bOf (eOp dLt (eOp dIx (eV 0) (eK (.int 1))) (eK (.int 1))))) (sSeq (sRet (eK (.bl false))) (sEnd)) (sEnd)) (sSeq (sRet (eOp (dEqs false) (eCall 2 S__law_lowest (aCons (eOp dIx (eV 0) (eK (.int 0))) (aCons (eOp dIx (eV 0) (eK (.int 1))) (aNil)))) (eV 0))) (sEnd))))
/-- reach_numbers: k18 k19 k20 k21 k23 -/
def S_reach_numbers : Sf := ofBody 2 4 (sSeq (sAsg (eV 0) (tgT [2, 3, 4])) (sSeq (sAsg (eCall 2 S_counts (aCons (eV 1) (aCons (eV 4) (aNil)))) (tgN 5)) (sSeq (sRet (eTup (aCons (eOp dSub (eCall 2 S_reach_of (aCons (eV 3) (aCons (eV 1) (aNil)))) (eOp dMul (eV 5) (eV 2))) (aCons (eV 5) (aNil))))) (sEnd))))
/-- box_numbers: k18 k19 k20 k23 -/
def S_box_numbers : Sf := ofBody 1 9 (sSeq (sAsg (eV 0) (tgT [1, 2, 3])) (sSeq (sAsg (eCall 1 S_bounds (aCons (eV 2) (aNil))) (tgT [4, 5, 6, 7])) (sSeq (sPar 8 9 (aCons (eOp dMul (eOp dIx (eV 3) (eK (.int 0))) (eV 1)) (aCons (eOp dMul (eOp dIx (eV 3) (eK (.int 1))) (eV 1)) (aNil)))) (sSeq (sRet (eTup (aCons (eTup (aCons (eOp dSub (eV 4) (eV 8)) (aCons (eOp dIx (eV 3) (eK (.int 0))) (aNil)))) (aCons (eTup (aCons (eOp dSub (eV 5) (eV 9)) (aCons (eOp dIx (eV 3) (eK (.int 1))) (aNil)))) (aCons (eTup (aCons (eOp dSub (eV 6) (eV 8)) (aCons (eOp dIx (eV 3) (eK (.int 0))) (aNil)))) (aCons (eTup (aCons (eOp dSub (eV 7) (eV 9)) (aCons (eOp dIx (eV 3) (eK (.int 1))) (aNil)))) (aNil))))))) (sEnd)))))
/-- _law_pace: k18 k19 k20 k21 k22 k23 -/
def S__law_pace : Sf := ofBody 1 1 (sSeq (sAsg (eOp dIx (eLst (aCons (eK (.int 0)) (aCons (eK (.int 1)) (aCons (eK (.int 1)) (aCons (eK (.int 2)) (aCons (eK (.int 3)) (aCons (eK (.int 3)) (aCons (eK (.int 3)) (aCons (eOp dPow (eK (.int 10)) (eK (.int 6))) (aNil)))))))))) (eCall 2 S__law_take (aCons (eV 0) (aCons (eK (.int 8)) (aNil))))) (tgN 1)) (sSeq (sRet (eTup (aCons (eOp dSub (eCall 2 S__law_take (aCons (eV 0) (aCons (eOp dAdd (eOp dMul (eK (.int 2)) (eV 1)) (eK (.int 1))) (aNil)))) (eV 1)) (aCons (eOp dSub (eCall 2 S__law_take (aCons (eV 0) (aCons (eOp dAdd (eOp dMul (eK (.int 2)) (eV 1)) (eK (.int 1))) (aNil)))) (eV 1)) (aNil))))) (sEnd)))
/-- is_far: k19 k20 k23 -/
def S_is_far : Sf := ofBody 1 0 (sSeq (sRet (eAnd (eCall 1 S_is_whole (aCons (eV 0) (aNil))) (eChain (fun i j => decide (i ≤ j)) (fun i j => decide (i ≤ j)) (eK (.int 0)) (eV 0) (eK (.int 1000000000))))) (sEnd))
/-- _law_root: k20 k21 k22 -/
def S__law_root : Sf := ofBody 2 1 (sSeq (sAsg (eOp dSub (eV 1) (eV 0)) (tgN 2)) (sSeq (sIf (bOf (eOp (dEqs false) (eV 2) (eK (.int 0)))) (sSeq (sRet (eTup (aNil))) (sEnd)) (sEnd)) (sSeq (sRet (eIf (bOf (eOp dGt (eV 2) (eK (.int 0)))) (eCall 2 S__law_lowest (aCons (eOp dSub (eK (.int 0)) (eV 0)) (aCons (eV 2) (aNil)))) (eCall 2 S__law_lowest (aCons (eV 0) (aCons (eOp dSub (eK (.int 0)) (eV 2)) (aNil)))))) (sEnd))))
/-- _law_fraction: k02 k03 k08 -/
def S__law_fraction : Sf := ofBody 1 2 (sSeq (sAsg (eCall 2 S__law_take (aCons (eV 0) (aCons (eK (.int 6)) (aNil)))) (tgN 1)) (sSeq (sAsg (eOp dIx (eLst (aCons (eK (.int 6)) (aCons (eK (.int 6)) (aCons (eK (.int 30)) (aCons (eK (.int 1000)) (aCons (eOp dPow (eK (.int 10)) (eK (.int 30))) (aCons (eOp dPow (eK (.int 10)) (eK (.int 30))) (aNil)))))))) (eV 1)) (tgN 2)) (sSeq (sRet (eCall 2 S__law_lowest (aCons (eOp dSub (eCall 2 S__law_great (aCons (eV 0) (aCons (eOp dAdd (eOp dMul (eK (.int 2)) (eV 2)) (eK (.int 1))) (aNil)))) (eV 2)) (aCons (eOp dAdd (eK (.int 1)) (eCall 2 S__law_great (aCons (eV 0) (aCons (eOp dIx (eLst (aCons (eK (.int 6)) (aCons (eK (.int 2)) (aCons (eK (.int 30)) (aCons (eK (.int 1000)) (aCons (eOp dPow (eK (.int 10)) (eK (.int 30))) (aCons (eK (.int 9)) (aNil)))))))) (eV 1)) (aNil))))) (aNil))))) (sEnd))))
/-- need_fraction: k03 k08 -/
def S_need_fraction : Sf := ofBody 1 0 (sSeq (sIf (bNot (bOf (eCall 1 S_is_fraction (aCons (eV 0) (aNil))))) (sSeq (sRaise "NoFraction") (sEnd)) (sEnd)) (sEnd))
/-- overlap: k04 k05 k06 k07 k08 k23 -/
def S_overlap : Sf := ofBody 2 2 (sSeq (sPar 2 3 (aCons (eCall 1 S_begin_edge (aCons (eV 0) (aNil))) (aCons (eCall 1 S_end_edge (aCons (eV 0) (aNil))) (aNil)))) (sSeq (sIf (bOf (eCall 2 S_edge_below (aCons (eV 2) (aCons (eCall 1 S_begin_edge (aCons (eV 1) (aNil))) (aNil))))) (sSeq (sAsg (eCall 1 S_begin_edge (aCons (eV 1) (aNil))) (tgN 2)) (sEnd)) (sEnd)) (sSeq (sIf (bOf (eCall 2 S_edge_below (aCons (eCall 1 S_end_edge (aCons (eV 1) (aNil))) (aCons (eV 3) (aNil))))) (sSeq (sAsg (eCall 1 S_end_edge (aCons (eV 1) (aNil))) (tgN 3)) (sEnd)) (sEnd)) (sSeq (sRet (eIf (bOf (eCall 2 S_edge_below (aCons (eV 2) (aCons (eV 3) (aNil))))) (eCall 2 S_between (aCons (eV 2) (aCons (eV 3) (aNil)))) (eK .non))) (sEnd)))))
/-- _law_moment: k04 k05 k06 k07 k08 -/
def S__law_moment : Sf := ofBody 2 2 (sSeq (sAsg (eCall 2 S__law_take (aCons (eV 0) (aCons (eK (.int 8)) (aNil)))) (tgN 2)) (sSeq (sIf (bOf (eOp (dEqs false) (eV 2) (eK (.int 0)))) (sSeq (sRet (eOp dIx (eLst (aCons (eTup (aCons (eK (.int 0)) (aCons (eK (.int 1)) (aNil)))) (aCons (eTup (aCons (eV 1) (aCons (eK (.int 1)) (aNil)))) (aNil)))) (eCall 2 S__law_take (aCons (eV 0) (aCons (eK (.int 2)) (aNil)))))) (sEnd)) (sEnd)) (sSeq (sAsg (eOp dAdd (eK (.int 1)) (eCall 2 S__law_great (aCons (eV 0) (aCons (eOp dIx (eLst (aCons (eK (.int 1)) (aCons (eK (.int 1)) (aCons (eK (.int 2)) (aCons (eK (.int 6)) (aCons (eK (.int 6)) (aCons (eK (.int 90)) (aCons (eOp dPow (eK (.int 10)) (eK (.int 30))) (aNil))))))))) (eOp dSub (eV 2) (eK (.int 1)))) (aNil))))) (tgN 3)) (sSeq (sRet (eCall 2 S__law_lowest (aCons (eCall 2 S__law_great (aCons (eV 0) (aCons (eOp dAdd (eOp dMul (eV 1) (eV 3)) (eK (.int 1))) (aNil)))) (aCons (eV 3) (aNil))))) (sEnd)))))
/-- _law_is_moment: k04 k05 k06 k07 -/
def S__law_is_moment : Sf := ofBody 1 0 (sSeq (sRet (eAnd (eCall 1 S__law_is_fraction (aCons (eV 0) (aNil))) (eAnd (eOp dLe (eK (.int 0)) (eOp dIx (eV 0) (eK (.int 0)))) (eOp dLe (eOp dIx (eV 0) (eK (.int 0))) (eOp dMul (eOp dPow (eK (.int 10)) (eK (.int 6))) (eOp dIx (eV 0) (eK (.int 1)))))))) (sEnd))
/-- _law_points: k04 k05 k06 -/
def S__law_points_2 : Sf := ofBody 1 5 (sSeq (sAsg (eCall 1 S__law_order (aCons (eOp dAdd (eOp dAdd (eLst (aCons (eTup (aCons (eK (.int 0)) (aCons (eK (.int 1)) (aNil)))) (aCons (eTup (aCons (eOp dPow (eK (.int 10)) (eK (.int 6))) (aCons (eK (.int 1)) (aNil)))) (aNil)))) (eComp (iSeq (eV 0)) [5] (tgN 5) (cYes) (eOp dIx (eV 5) (eK (.int 0))))) (eComp (iSeq (eV 0)) [5] (tgN 5) (cYes) (eOp dIx (eV 5) (eK (.int 2))))) (aNil))) (tgN 1)) (sSeq (sAsg (eBi gList (aCons (eV 1) (aNil))) (tgN 2)) (sSeq (sFor (tgT [3, 4]) (iZip2 (aCons (eV 1) (aCons (eCut (eV 1) (oSome (eK (.int 1))) (oNone)) (aNil)))) (sSeq (sExpr (eApp (eV 2) (eCall 2 S__law_lowest (aCons (eOp dAdd (eOp dIx (eV 3) (eK (.int 0))) (eOp dIx (eV 4) (eK (.int 0)))) (aCons (eOp dAdd (eOp dIx (eV 3) (eK (.int 1))) (eOp dIx (eV 4) (eK (.int 1)))) (aNil)))))) (sEnd))) (sSeq (sRet (eV 2)) (sEnd)))))
/-- place_among: k05 k08 -/
def S_place_among : Sf := ofBody 2 3 (sSeq (sPar 2 3 (aCons (eK (.int 0)) (aCons (eBi gLen (aCons (eV 0) (aNil))) (aNil)))) (sSeq (sWhile (bOf (eOp dLt (eV 2) (eV 3))) (sSeq (sAsg (eOp dDiv (eOp dAdd (eV 2) (eV 3)) (eK (.int 2))) (tgN 4)) (sSeq (sIf (bOf (eCall 2 S_edge_below (aCons (eCall 1 S_begin_edge (aCons (eV 1) (aNil))) (aCons (eCall 1 S_begin_edge (aCons (eOp dIx (eV 0) (eV 4)) (aNil))) (aNil))))) (sSeq (sAsg (eV 4) (tgN 3)) (sEnd)) (sSeq (sAsg (eOp dAdd (eV 4) (eK (.int 1))) (tgN 2)) (sEnd))) (sEnd)))) (sSeq (sRet (eV 2)) (sEnd))))
/-- all_but: k05 k08 -/
def S_all_but : Sf := ofBody 1 4 (sSeq (sAsg (eLst (aNil)) (tgN 1)) (sSeq (sAsg (eTup (aCons (eTup (aCons (eK (.int 0)) (aCons (eK (.int 1)) (aNil)))) (aCons (eK (.bl false)) (aNil)))) (tgN 2)) (sSeq (sFor (tgN 3) (iSeq (eV 0)) (sSeq (sIf (bOf (eCall 2 S_edge_below (aCons (eV 2) (aCons (eCall 1 S_begin_edge (aCons (eV 3) (aNil))) (aNil))))) (sSeq (sExpr (eApp (eV 1) (eCall 2 S_between (aCons (eV 2) (aCons (eCall 1 S_begin_edge (aCons (eV 3) (aNil))) (aNil)))))) (sEnd)) (sEnd)) (sSeq (sAsg (eCall 1 S_end_edge (aCons (eV 3) (aNil))) (tgN 2)) (sEnd)))) (sSeq (sAsg (eTup (aCons (eTup (aCons (eK (.int 1000000)) (aCons (eK (.int 1)) (aNil)))) (aCons (eK (.bl true)) (aNil)))) (tgN 4)) (sSeq (sIf (bOf (eCall 2 S_edge_below (aCons (eV 2) (aCons (eV 4) (aNil))))) (sSeq (sExpr (eApp (eV 1) (eCall 2 S_between (aCons (eV 2) (aCons (eV 4) (aNil)))))) (sEnd)) (sEnd)) (sSeq (sRet (eBi gTuple (aCons (eV 1) (aNil)))) (sEnd)))))))
/-- need_ring: k10 k11 k12 k13 k14 k15 k23 -/
def S_need_ring : Sf := ofBody 1 0 (sSeq (sIf (bNot (bOf (eCall 1 S_is_ring (aCons (eV 0) (aNil))))) (sSeq (sRaise "NoRing") (sEnd)) (sEnd)) (sEnd))
/-- need_direction: k11 k14 k15 k18 k19 -/
def S_need_direction : Sf := ofBody 1 0 (sSeq (sIf (bNot (bOf (eCall 1 S_is_direction (aCons (eV 0) (aNil))))) (sSeq (sRaise "NoDirection") (sEnd)) (sEnd)) (sEnd))
/-- is_place: k11 k12 k13 k14 k15 k19 k22 k23 -/
def S_is_place : Sf := ofBody 1 0 (sSeq (sRet (eAnd (eIsi "tuple" (eV 0)) (eAnd (eOp (dEqs false) (eBi gLen (aCons (eV 0) (aNil))) (eK (.int 2))) (eAnd (eCall 1 S_is_fraction (aCons (eOp dIx (eV 0) (eK (.int 0))) (aNil))) (eCall 1 S_is_fraction (aCons (eOp dIx (eV 0) (eK (.int 1))) (aNil))))))) (sEnd))
/-- lies_in: k11 k12 k13 k14 k15 k19 k22 k23 -/
def S_lies_in : Sf := ofBody 2 4 (sSeq (sAsg (eV 1) (tgG [tgT [2, 3], tgT [4, 5]])) (sSeq (sRet (eCall 4 S_holds (aCons (eV 0) (aCons (eOp dMul (eV 2) (eV 5)) (aCons (eOp dMul (eV 4) (eV 3)) (aCons (eOp dMul (eV 3) (eV 5)) (aNil))))))) (sEnd)))
/-- _law_fraction: k11 k16 k17 k19 -/
def S__law_fraction_2 : Sf := ofBody 1 2 (sSeq (sAsg (eCall 2 S__law_take (aCons (eV 0) (aCons (eK (.int 6)) (aNil)))) (tgN 1)) (sSeq (sAsg (eOp dIx (eLst (aCons (eK (.int 6)) (aCons (eK (.int 6)) (aCons (eK (.int 30)) (aCons (eK (.int 1000)) (aCons (eOp dPow (eK (.int 10)) (eK (.int 30))) (aCons (eOp dPow (eK (.int 10)) (eK (.int 30))) (aNil)))))))) (eV 1)) (tgN 2)) (sSeq (sRet (eCall 2 S__law_lowest (aCons (eOp dSub (eCall 2 S__law_great_2 (aCons (eV 0) (aCons (eOp dAdd (eOp dMul (eK (.int 2)) (eV 2)) (eK (.int 1))) (aNil)))) (eV 2)) (aCons (eOp dAdd (eK (.int 1)) (eCall 2 S__law_great_2 (aCons (eV 0) (aCons (eOp dIx (eLst (aCons (eK (.int 6)) (aCons (eK (.int 2)) (aCons (eK (.int 30)) (aCons (eK (.int 1000)) (aCons (eOp dPow (eK (.int 10)) (eK (.int 30))) (aCons (eK (.int 9)) (aNil)))))))) (eV 1)) (aNil))))) (aNil))))) (sEnd))))
/-- lie_in: k13 k14 k15 -/
def S_lie_in : Sf := ofBody 2 2 (sSeq (sFor (tgT [2, 3]) (iSeq (eV 1)) (sSeq (sIf (bNot (bOf (eCall 4 S_holds (aCons (eV 0) (aCons (eV 2) (aCons (eV 3) (aCons (eK (.int 1)) (aNil)))))))) (sSeq (sRet (eK (.bl false))) (sEnd)) (sEnd)) (sEnd))) (sSeq (sRet (eK (.bl true))) (sEnd)))
/-- is_line: k16 k17 k18 k19 -/
def S_is_line : Sf := ofBody 1 1 (sSeq (sIf (bOr (bNot (bOf (eIsi "tuple" (eV 0)))) (bOf (eOp (dEqs true) (eBi gLen (aCons (eV 0) (aNil))) (eK (.int 2))))) (sSeq (sRet (eK (.bl false))) (sEnd)) (sEnd)) (sSeq (sRet (eBi gAll (aCons (eComp (iSeq (eV 0)) [1] (tgN 1) (cYes) (eCall 1 S_is_fraction (aCons (eV 1) (aNil)))) (aNil)))) (sEnd)))
/-- _law_moment: k16 k17 k18 k19 k20 k21 k22 k23 -/
def S__law_moment_2 : Sf := ofBody 2 2 (sSeq (sAsg (eCall 2 S__law_take (aCons (eV 0) (aCons (eK (.int 8)) (aNil)))) (tgN 2)) (sSeq (sIf (bOf (eOp (dEqs false) (eV 2) (eK (.int 0)))) (sSeq (sRet (eOp dIx (eLst (aCons (eTup (aCons (eK (.int 0)) (aCons (eK (.int 1)) (aNil)))) (aCons (eTup (aCons (eV 1) (aCons (eK (.int 1)) (aNil)))) (aNil)))) (eCall 2 S__law_take (aCons (eV 0) (aCons (eK (.int 2)) (aNil)))))) (sEnd)) (sEnd)) (sSeq (sAsg (eOp dAdd (eK (.int 1)) (eCall 2 S__law_great_2 (aCons (eV 0) (aCons (eOp dIx (eLst (aCons (eK (.int 1)) (aCons (eK (.int 1)) (aCons (eK (.int 2)) (aCons (eK (.int 6)) (aCons (eK (.int 6)) (aCons (eK (.int 90)) (aCons (eOp dPow (eK (.int 10)) (eK (.int 30))) (aNil))))))))) (eOp dSub (eV 2) (eK (.int 1)))) (aNil))))) (tgN 3)) (sSeq (sRet (eCall 2 S__law_lowest (aCons (eCall 2 S__law_great_2 (aCons (eV 0) (aCons (eOp dAdd (eOp dMul (eV 1) (eV 3)) (eK (.int 1))) (aNil)))) (aCons (eV 3) (aNil))))) (sEnd)))))
/-- _law_marks: k16 k17 k20 k21 -/
def S__law_marks : Sf := ofBody 2 5 (sSeq (sAsg (eCall 2 S__law_points (aCons (eV 0) (aCons (eV 1) (aNil)))) (tgN 2)) (sSeq (sAsg (eComp (iSeq (eV 2)) [4] (tgN 4) (bOf (eCall 2 S__law_in (aCons (eV 0) (aCons (eV 4) (aNil))))) (eV 4)) (tgN 3)) (sSeq (sRet (eOp dAdd (eV 3) (eComp (iZip2 (aCons (eV 2) (aCons (eCut (eV 2) (oSome (eK (.int 1))) (oNone)) (aNil)))) [5, 6] (tgT [5, 6]) (cYes) (eCall 2 S__law_middle (aCons (eV 5) (aCons (eV 6) (aNil))))))) (sEnd))))
/-- _law_holds_at: k16 k17 -/
def S__law_holds_at : Sf := ofBody 2 1 (sSeq (sAsg (eOp dIx (eCall 2 S__law_worth (aCons (eOp dIx (eV 0) (eK (.int 0))) (aCons (eV 1) (aNil)))) (eK (.int 0))) (tgN 2)) (sSeq (sRet (eOr (eOp dGt (eV 2) (eK (.int 0))) (eAnd (eOp (dEqs false) (eV 2) (eK (.int 0))) (eNot (eOp dIx (eV 0) (eK (.int 1))))))) (sEnd)))
/-- left_of_all: k17 k19 k20 k23 -/
def S_left_of_all : Sf := ofBody 2 2 (sSeq (sAsg (eV 1) (tgN 2)) (sSeq (sFor (tgN 3) (iSeq (eV 0)) (sSeq (sAsg (eCall 2 S_left_of (aCons (eV 3) (aCons (eV 2) (aNil)))) (tgN 2)) (sSeq (sIf (bOf (eOp (dIsN false) (eV 2) (eK .non))) (sSeq (sRet (eK .non)) (sEnd)) (sEnd)) (sEnd)))) (sSeq (sRet (eV 2)) (sEnd))))
/-- _law_is_spell: k17 k20 -/
def S__law_is_spell : Sf := ofBody 1 0 (sSeq (sIf (bOr (bNot (bOf (eIsi "tuple" (eV 0)))) (bOf (eOp (dEqs true) (eBi gLen (aCons (eV 0) (aNil))) (eK (.int 4))))) (sSeq (sRet (eK (.bl false))) (sEnd)) (sEnd)) (sSeq (sIf (bOr (bNot (bOf (eIsi "bool" (eOp dIx (eV 0) (eK (.int 1)))))) (bNot (bOf (eIsi "bool" (eOp dIx (eV 0) (eK (.int 3))))))) (sSeq (sRet (eK (.bl false))) (sEnd)) (sEnd)) (sSeq (sIf (bOr (bNot (bOf (eCall 1 S__law_is_fraction_2 (aCons (eOp dIx (eV 0) (eK (.int 0))) (aNil))))) (bOr (bNot (bOf (eCall 1 S__law_is_fraction_2 (aCons (eOp dIx (eV 0) (eK (.int 2))) (aNil))))) (bOf (eOp dLt (eOp dIx (eOp dIx (eV 0) (eK (.int 0))) (eK (.int 0))) (eK (.int 0)))))) (sSeq (sRet (eK (.bl false))) (sEnd)) (sEnd)) (sSeq (sIf (bOf (eOp dGt (eOp dIx (eOp dIx (eV 0) (eK (.int 2))) (eK (.int 0))) (eOp dMul (eOp dPow (eK (.int 10)) (eK (.int 6))) (eOp dIx (eOp dIx (eV 0) (eK (.int 2))) (eK (.int 1)))))) (sSeq (sRet (eK (.bl false))) (sEnd)) (sEnd)) (sSeq (sRet (eOr (eCall 2 S__law_less (aCons (eOp dIx (eV 0) (eK (.int 0))) (aCons (eOp dIx (eV 0) (eK (.int 2))) (aNil)))) (eAnd (eOp (dEqs false) (eOp dIx (eV 0) (eK (.int 0))) (eOp dIx (eV 0) (eK (.int 2)))) (eAnd (eOp dIx (eV 0) (eK (.int 1))) (eOp dIx (eV 0) (eK (.int 3))))))) (sEnd))))))
/-- moved_back: k19 k22 k23 -/
def S_moved_back : Sf := ofBody 3 6 (sSeq (sAsg (eV 0) (tgT [3, 4, 5])) (sSeq (sAsg (eV 1) (tgT [6, 7])) (sSeq (sAsg (eOp dSub (eV 6) (eOp dMul (eV 3) (eV 7))) (tgN 8)) (sSeq (sRet (eTup (aCons (eCall 2 S_taken (aCons (eOp dIx (eV 2) (eK (.int 0))) (aCons (eCall 2 S_lowest (aCons (eOp dMul (eOp dIx (eV 5) (eK (.int 0))) (eV 8)) (aCons (eV 7) (aNil)))) (aNil)))) (aCons (eCall 2 S_taken (aCons (eOp dIx (eV 2) (eK (.int 1))) (aCons (eCall 2 S_lowest (aCons (eOp dMul (eOp dIx (eV 5) (eK (.int 1))) (eV 8)) (aCons (eV 7) (aNil)))) (aNil)))) (aNil))))) (sEnd)))))
/-- parting_numbers: k19 k21 k23 -/
def S_parting_numbers : Sf := ofBody 3 4 (sSeq (sAsg (eCall 2 S_reach_numbers (aCons (eV 0) (aCons (eV 2) (aNil)))) (tgT [3, 4])) (sSeq (sAsg (eCall 2 S_reach_numbers (aCons (eV 1) (aCons (eCall 1 S_turned_about (aCons (eV 2) (aNil))) (aNil)))) (tgT [5, 6])) (sSeq (sRet (eTup (aCons (eOp dSub (eUn dNeg (eV 5)) (eV 3)) (aCons (eOp dSub (eUn dNeg (eV 6)) (eV 4)) (aNil))))) (sEnd))))
/-- gap_numbers: k19 k20 k23 -/
def S_gap_numbers : Sf := ofBody 2 11 (sSeq (sAsg (eCall 1 S_box_numbers (aCons (eV 0) (aNil))) (tgT [2, 3, 4, 5])) (sSeq (sAsg (eCall 1 S_box_numbers (aCons (eV 1) (aNil))) (tgT [6, 7, 8, 9])) (sSeq (sAsg (eLst (aCons (eTup (aCons (eV 6) (aCons (eV 4) (aNil)))) (aCons (eTup (aCons (eV 2) (aCons (eV 8) (aNil)))) (aCons (eTup (aCons (eV 7) (aCons (eV 5) (aNil)))) (aCons (eTup (aCons (eV 3) (aCons (eV 9) (aNil)))) (aNil)))))) (tgN 10)) (sSeq (sRet (eOp dAdd (eLst (aCons (eTup (aCons (eK (.int 0)) (aCons (eK (.int 0)) (aNil)))) (aNil))) (eComp (iSeq (eV 10)) [11, 12] (tgT [11, 12]) (cYes) (eTup (aCons (eOp dSub (eOp dIx (eV 11) (eK (.int 0))) (eOp dIx (eV 12) (eK (.int 0)))) (aCons (eOp dSub (eOp dIx (eV 11) (eK (.int 1))) (eOp dIx (eV 12) (eK (.int 1)))) (aNil))))))) (sEnd)))))
/-- plus: k03 k08 -/
def S_plus : Sf := ofBody 2 0 (sSeq (sExpr (eCall 1 S_need_fraction (aCons (eV 0) (aNil)))) (sSeq (sExpr (eCall 1 S_need_fraction (aCons (eV 1) (aNil)))) (sSeq (sRet (eCall 2 S_added (aCons (eV 0) (aCons (eV 1) (aNil))))) (sEnd))))
/-- minus: k03 k08 -/
def S_minus : Sf := ofBody 2 0 (sSeq (sExpr (eCall 1 S_need_fraction (aCons (eV 0) (aNil)))) (sSeq (sExpr (eCall 1 S_need_fraction (aCons (eV 1) (aNil)))) (sSeq (sRet (eCall 2 S_taken (aCons (eV 0) (aCons (eV 1) (aNil))))) (sEnd))))
/-- times: k03 k08 -/
def S_times : Sf := ofBody 2 0 (sSeq (sExpr (eCall 1 S_need_fraction (aCons (eV 0) (aNil)))) (sSeq (sExpr (eCall 1 S_need_fraction (aCons (eV 1) (aNil)))) (sSeq (sRet (eCall 2 S_lowest (aCons (eOp dMul (eOp dIx (eV 0) (eK (.int 0))) (eOp dIx (eV 1) (eK (.int 0)))) (aCons (eOp dMul (eOp dIx (eV 0) (eK (.int 1))) (eOp dIx (eV 1) (eK (.int 1)))) (aNil))))) (sEnd))))
/-- by: k03 k08 -/
def S_by : Sf := ofBody 2 0 (sSeq (sExpr (eCall 1 S_need_fraction (aCons (eV 0) (aNil)))) (sSeq (sExpr (eCall 1 S_need_fraction (aCons (eV 1) (aNil)))) (sSeq (sIf (bOf (eOp (dEqs false) (eOp dIx (eV 1) (eK (.int 0))) (eK (.int 0)))) (sSeq (sRaise "NoFraction") (sEnd)) (sEnd)) (sSeq (sRet (eCall 2 S_lowest (aCons (eOp dMul (eOp dIx (eV 0) (eK (.int 0))) (eOp dIx (eV 1) (eK (.int 1)))) (aCons (eOp dMul (eOp dIx (eV 0) (eK (.int 1))) (eOp dIx (eV 1) (eK (.int 0)))) (aNil))))) (sEnd)))))
/-- is_less: k03 k08 -/
def S_is_less : Sf := ofBody 2 0 (sSeq (sExpr (eCall 1 S_need_fraction (aCons (eV 0) (aNil)))) (sSeq (sRet (eAnd (eCall 1 S_is_fraction (aCons (eV 1) (aNil))) (eCall 2 S_below (aCons (eV 0) (aCons (eV 1) (aNil)))))) (sEnd)))
/-- floor_of: k03 k08 -/
def S_floor_of : Sf := ofBody 1 0 (sSeq (sExpr (eCall 1 S_need_fraction (aCons (eV 0) (aNil)))) (sSeq (sRet (eOp dDiv (eOp dIx (eV 0) (eK (.int 0))) (eOp dIx (eV 0) (eK (.int 1))))) (sEnd)))
/-- is_inside: k04 k06 k08 -/
def S_is_inside : Sf := ofBody 2 0 (sSeq (sRet (eOp (dIsN true) (eCall 2 S_overlap (aCons (eV 0) (aCons (eTup (aCons (eV 1) (aCons (eK (.bl true)) (aCons (eV 1) (aCons (eK (.bl true)) (aNil)))))) (aNil)))) (eK .non))) (sEnd))
/-- _law_is_spell: k04 k05 k06 k07 -/
def S__law_is_spell_2 : Sf := ofBody 1 0 (sSeq (sIf (bOr (bNot (bOf (eIsi "tuple" (eV 0)))) (bOr (bOf (eOp (dEqs true) (eBi gLen (aCons (eV 0) (aNil))) (eK (.int 4)))) (bOr (bNot (bOf (eCall 1 S__law_is_moment (aCons (eOp dIx (eV 0) (eK (.int 0))) (aNil))))) (bNot (bOf (eCall 1 S__law_is_moment (aCons (eOp dIx (eV 0) (eK (.int 2))) (aNil)))))))) (sSeq (sRet (eK (.bl false))) (sEnd)) (sEnd)) (sSeq (sIf (bOr (bNot (bOf (eIsi "bool" (eOp dIx (eV 0) (eK (.int 1)))))) (bNot (bOf (eIsi "bool" (eOp dIx (eV 0) (eK (.int 3))))))) (sSeq (sRet (eK (.bl false))) (sEnd)) (sEnd)) (sSeq (sRet (eOr (eCall 2 S__law_less (aCons (eOp dIx (eV 0) (eK (.int 0))) (aCons (eOp dIx (eV 0) (eK (.int 2))) (aNil)))) (eAnd (eOp (dEqs false) (eOp dIx (eV 0) (eK (.int 0))) (eOp dIx (eV 0) (eK (.int 2)))) (eAnd (eOp dIx (eV 0) (eK (.int 1))) (eOp dIx (eV 0) (eK (.int 3))))))) (sEnd))))
/-- _law_some: k04 k05 k08 -/
def S__law_some : Sf := ofBody 1 2 (sSeq (sAsg (eOp dIx (eLst (aCons (eK (.int 3)) (aCons (eK (.int 3)) (aCons (eK (.int 12)) (aCons (eOp dPow (eK (.int 10)) (eK (.int 6))) (aNil)))))) (eCall 2 S__law_take (aCons (eV 0) (aCons (eK (.int 4)) (aNil))))) (tgN 1)) (sSeq (sRet (eComp (iRange (aCons (eOp dAdd (eK (.int 2)) (eCall 2 S__law_take (aCons (eV 0) (aCons (eK (.int 5)) (aNil))))) (aNil))) [2] (tgN 2) (cYes) (eCall 2 S__law_moment (aCons (eV 0) (aCons (eV 1) (aNil)))))) (sEnd)))
/-- cut_pairs: k07 k08 -/
def S_cut_pairs : Sf := ofBody 2 4 (sSeq (sAsg (eLst (aNil)) (tgN 2)) (sSeq (sFor (tgT [3, 4]) (iSeq (eV 0)) (sSeq (sAsg (eCall 2 S_overlap (aCons (eV 3) (aCons (eV 1) (aNil)))) (tgN 5)) (sSeq (sIf (bOf (eOp (dIsN true) (eV 5) (eK .non))) (sSeq (sExpr (eApp (eV 2) (eTup (aCons (eV 5) (aCons (eV 4) (aNil)))))) (sEnd)) (sEnd)) (sEnd)))) (sSeq (sRet (eV 2)) (sEnd))))
/-- box_of: k10 k14 k15 -/
def S_box_of : Sf := ofBody 1 0 (sSeq (sExpr (eCall 1 S_need_ring (aCons (eV 0) (aNil)))) (sSeq (sRet (eCall 1 S_bounds (aCons (eV 0) (aNil)))) (sEnd)))
/-- gap: k10 k14 k15 -/
def S_gap : Sf := ofBody 2 0 (sSeq (sExpr (eCall 1 S_need_ring (aCons (eV 0) (aNil)))) (sSeq (sExpr (eCall 1 S_need_ring (aCons (eV 1) (aNil)))) (sSeq (sRet (eCall 2 S_gap_of (aCons (eV 0) (aCons (eV 1) (aNil))))) (sEnd))))
/-- reach: k11 k14 k15 -/
def S_reach : Sf := ofBody 2 0 (sSeq (sExpr (eCall 1 S_need_ring (aCons (eV 0) (aNil)))) (sSeq (sExpr (eCall 1 S_need_direction (aCons (eV 1) (aNil)))) (sSeq (sRet (eCall 2 S_reach_of (aCons (eV 0) (aCons (eV 1) (aNil))))) (sEnd))))
/-- is_in: k11 k12 k13 k14 k15 -/
def S_is_in : Sf := ofBody 2 0 (sSeq (sExpr (eCall 1 S_need_ring (aCons (eV 0) (aNil)))) (sSeq (sRet (eAnd (eCall 1 S_is_place (aCons (eV 1) (aNil))) (eCall 2 S_lies_in (aCons (eV 0) (aCons (eV 1) (aNil)))))) (sEnd)))
/-- is_parting: k12 k14 k15 -/
def S_is_parting : Sf := ofBody 3 0 (sSeq (sExpr (eCall 1 S_need_ring (aCons (eV 0) (aNil)))) (sSeq (sExpr (eCall 1 S_need_ring (aCons (eV 1) (aNil)))) (sSeq (sRet (eAnd (eCall 1 S_is_direction (aCons (eV 2) (aNil))) (eCall 3 S_parts (aCons (eV 0) (aCons (eV 1) (aCons (eV 2) (aNil))))))) (sEnd))))
/-- is_within: k13 k14 k15 -/
def S_is_within : Sf := ofBody 2 0 (sSeq (sExpr (eCall 1 S_need_ring (aCons (eV 0) (aNil)))) (sSeq (sRet (eAnd (eCall 1 S_is_ring (aCons (eV 1) (aNil))) (eCall 2 S_lie_in (aCons (eV 1) (aCons (eV 0) (aNil)))))) (sEnd)))
/-- moved: k14 k15 k23 -/
def S_moved : Sf := ofBody 2 5 (sSeq (sExpr (eCall 1 S_need_ring (aCons (eV 0) (aNil)))) (sSeq (sIf (bNot (bOf (eCall 1 S_are_corners (aCons (eTup (aCons (eV 1) (aNil))) (aNil))))) (sSeq (sRaise "NoPlace") (sEnd)) (sEnd)) (sSeq (sAsg (eV 1) (tgT [2, 3])) (sSeq (sAsg (eBi gTuple (aCons (eComp (iSeq (eV 0)) [5, 6] (tgT [5, 6]) (cYes) (eTup (aCons (eOp dAdd (eV 5) (eV 2)) (aCons (eOp dAdd (eV 6) (eV 3)) (aNil))))) (aNil))) (tgN 4)) (sSeq (sIf (bNot (bOf (eCall 1 S_are_corners (aCons (eV 4) (aNil))))) (sSeq (sRaise "NoRing") (sEnd)) (sEnd)) (sSeq (sRet (eV 4)) (sEnd)))))))
/-- turned: k14 k15 k23 -/
def S_turned : Sf := ofBody 1 2 (sSeq (sExpr (eCall 1 S_need_ring (aCons (eV 0) (aNil)))) (sSeq (sRet (eBi gTuple (aCons (eComp (iSeq (eV 0)) [1, 2] (tgT [1, 2]) (cYes) (eTup (aCons (eUn dNeg (eV 2)) (aCons (eV 1) (aNil))))) (aNil)))) (sEnd)))
/-- is_condition: k16 k17 k19 -/
def S_is_condition : Sf := ofBody 1 0 (sSeq (sIf (bOr (bNot (bOf (eIsi "tuple" (eV 0)))) (bOf (eOp (dEqs true) (eBi gLen (aCons (eV 0) (aNil))) (eK (.int 2))))) (sSeq (sRet (eK (.bl false))) (sEnd)) (sEnd)) (sSeq (sRet (eAnd (eCall 1 S_is_line (aCons (eOp dIx (eV 0) (eK (.int 0))) (aNil))) (eIsi "bool" (eOp dIx (eV 0) (eK (.int 1)))))) (sEnd)))
/-- _law_spell: k16 k17 k19 k20 k21 k22 k23 -/
def S__law_spell : Sf := ofBody 2 2 (sSeq (sPar 2 3 (aCons (eCall 2 S__law_moment_2 (aCons (eV 0) (aCons (eV 1) (aNil)))) (aCons (eCall 2 S__law_moment_2 (aCons (eV 0) (aCons (eV 1) (aNil)))) (aNil)))) (sSeq (sIf (bOf (eCall 2 S__law_less (aCons (eV 3) (aCons (eV 2) (aNil))))) (sSeq (sPar 2 3 (aCons (eV 3) (aCons (eV 2) (aNil)))) (sEnd)) (sEnd)) (sSeq (sIf (bOr (bOf (eOp (dEqs false) (eV 2) (eV 3))) (bOf (eOp (dEqs false) (eCall 2 S__law_take (aCons (eV 0) (aCons (eK (.int 9)) (aNil)))) (eK (.int 0))))) (sSeq (sRet (eTup (aCons (eV 2) (aCons (eK (.bl true)) (aCons (eV 2) (aCons (eK (.bl true)) (aNil))))))) (sEnd)) (sEnd)) (sSeq (sRet (eTup (aCons (eV 2) (aCons (eOp (dEqs false) (eCall 2 S__law_take (aCons (eV 0) (aCons (eK (.int 2)) (aNil)))) (eK (.int 0))) (aCons (eV 3) (aCons (eOp (dEqs false) (eCall 2 S__law_take (aCons (eV 0) (aCons (eK (.int 2)) (aNil)))) (eK (.int 0))) (aNil))))))) (sEnd)))))
/-- _law_line: k16 k17 k19 -/
def S__law_line : Sf := ofBody 1 4 (sSeq (sAsg (eCall 2 S__law_take (aCons (eV 0) (aCons (eK (.int 6)) (aNil)))) (tgN 1)) (sSeq (sIf (bOf (eOp dLt (eV 1) (eK (.int 3)))) (sSeq (sAsg (eOp dIx (eLst (aCons (eK (.int 0)) (aCons (eK (.int 1)) (aCons (eUn dNeg (eK (.int 1))) (aCons (eK (.int 2)) (aCons (eUn dNeg (eK (.int 2))) (aCons (eK (.int 3)) (aCons (eUn dNeg (eK (.int 3))) (aNil))))))))) (eCall 2 S__law_take (aCons (eV 0) (aCons (eK (.int 7)) (aNil))))) (tgN 2)) (sSeq (sRet (eTup (aCons (eTup (aCons (eOp dAdd (eOp dSub (eK (.int 0)) (eOp dMul (eV 2) (eCall 2 S__law_take (aCons (eV 0) (aCons (eK (.int 13)) (aNil)))))) (eOp dIx (eLst (aCons (eK (.int 0)) (aCons (eK (.int 0)) (aCons (eK (.int 1)) (aNil))))) (eCall 2 S__law_take (aCons (eV 0) (aCons (eK (.int 3)) (aNil)))))) (aCons (eK (.int 1)) (aNil)))) (aCons (eTup (aCons (eV 2) (aCons (eK (.int 1)) (aNil)))) (aNil))))) (sEnd))) (sEnd)) (sSeq (sPar 3 4 (aCons (eCall 1 S__law_fraction_2 (aCons (eV 0) (aNil))) (aCons (eCall 1 S__law_fraction_2 (aCons (eV 0) (aNil))) (aNil)))) (sSeq (sRet (eTup (aCons (eV 3) (aCons (eOp dIx (eLst (aCons (eTup (aCons (eK (.int 0)) (aCons (eK (.int 1)) (aNil)))) (aCons (eV 4) (aNil)))) (eBi gInt (aCons (eOp dGt (eV 1) (eK (.int 3))) (aNil)))) (aNil))))) (sEnd)))))
/-- _law_exact: k17 k20 -/
def S__law_exact : Sf := ofBody 5 2 (sSeq (sIf (bOf (eOp (dIsN false) (eV 0) (eK .non))) (sSeq (sRet (eOp (dIn true) (eK (.bl true)) (eV 4))) (sEnd)) (sEnd)) (sSeq (sIf (bNot (bOf (eCall 1 S__law_is_spell (aCons (eV 0) (aNil))))) (sSeq (sRet (eK (.bl false))) (sEnd)) (sEnd)) (sSeq (sAsg (eCall 2 S__law_points (aCons (eV 1) (aCons (eV 2) (aNil)))) (tgN 5)) (sSeq (sIf (bOr (bOf (eOp (dIn true) (eOp dIx (eV 0) (eK (.int 0))) (eV 5))) (bOf (eOp (dIn true) (eOp dIx (eV 0) (eK (.int 2))) (eV 5)))) (sSeq (sRet (eK (.bl false))) (sEnd)) (sEnd)) (sSeq (sRet (eOp (dEqs false) (eComp (iSeq (eV 3)) [6] (tgN 6) (cYes) (eCall 2 S__law_in (aCons (eV 0) (aCons (eV 6) (aNil))))) (eV 4))) (sEnd))))))
/-- parts_through: k19 k21 k23 -/
def S_parts_through : Sf := ofBody 4 2 (sSeq (sAsg (eCall 3 S_parting_numbers (aCons (eV 0) (aCons (eV 1) (aCons (eV 3) (aNil))))) (tgT [4, 5])) (sSeq (sRet (eCall 2 S_through (aCons (eTup (aCons (eV 4) (aCons (eV 5) (aCons (eK (.bl true)) (aNil))))) (aCons (eV 2) (aNil))))) (sEnd)))
/-- near_signs: k19 k20 k23 -/
def S_near_signs : Sf := ofBody 3 2 (sSeq (sRet (eComp (iSeq (eCall 2 S_gap_numbers (aCons (eV 0) (aCons (eV 1) (aNil))))) [3, 4] (tgT [3, 4]) (cYes) (eTup (aCons (eOp dSub (eV 2) (eV 3)) (aCons (eUn dNeg (eV 4)) (aCons (eK (.bl false)) (aNil))))))) (sEnd))
/-- stands_in: k19 k22 k23 -/
def S_stands_in : Sf := ofBody 3 0 (sSeq (sRet (eCall 2 S_lies_in (aCons (eOp dIx (eV 0) (eK (.int 1))) (aCons (eCall 3 S_moved_back (aCons (eV 0) (aCons (eV 1) (aCons (eV 2) (aNil))))) (aNil))))) (sEnd))
/-- pairs_between: k07 k08 -/
def S_pairs_between : Sf := ofBody 3 0 (sSeq (sIf (bNot (bOf (eCall 2 S_edge_below (aCons (eV 1) (aCons (eV 2) (aNil)))))) (sSeq (sRet (eLst (aNil))) (sEnd)) (sEnd)) (sSeq (sRet (eCall 2 S_cut_pairs (aCons (eV 0) (aCons (eCall 2 S_between (aCons (eV 1) (aCons (eV 2) (aNil)))) (aNil))))) (sEnd)))
/-- need_condition: k16 k17 k19 -/
def S_need_condition : Sf := ofBody 1 0 (sSeq (sIf (bNot (bOf (eCall 1 S_is_condition (aCons (eV 0) (aNil))))) (sSeq (sRaise "NoLine") (sEnd)) (sEnd)) (sEnd))
/-- are_spots_through: k19 k22 k23 -/
def S_are_spots_through : Sf := ofBody 4 2 (sSeq (sIf (bOr (bNot (bOf (eIsi "tuple" (eV 3)))) (bOr (bOf (eOp (dEqs true) (eBi gLen (aCons (eV 3) (aNil))) (eK (.int 2)))) (bNot (bOf (eBi gAll (aCons (eComp (iSeq (eV 3)) [4] (tgN 4) (cYes) (eCall 1 S_is_place (aCons (eV 4) (aNil)))) (aNil))))))) (sSeq (sRet (eK (.bl false))) (sEnd)) (sEnd)) (sSeq (sFor (tgT [5, 4]) (iSeq (eTup (aCons (eTup (aCons (eOp dIx (eV 2) (eK (.int 0))) (aCons (eOp dIx (eV 3) (eK (.int 0))) (aNil)))) (aCons (eTup (aCons (eOp dIx (eV 2) (eK (.int 2))) (aCons (eOp dIx (eV 3) (eK (.int 1))) (aNil)))) (aNil))))) (sSeq (sIf (bOr (bNot (bOf (eCall 3 S_stands_in (aCons (eV 0) (aCons (eV 5) (aCons (eV 4) (aNil))))))) (bNot (bOf (eCall 3 S_stands_in (aCons (eV 1) (aCons (eV 5) (aCons (eV 4) (aNil)))))))) (sSeq (sRet (eK (.bl false))) (sEnd)) (sEnd)) (sEnd))) (sSeq (sRet (eK (.bl true))) (sEnd))))
/-- need_conditions: k17 k19 -/
def S_need_conditions : Sf := ofBody 1 1 (sSeq (sIf (bNot (bOf (eIsi "tuple" (eV 0)))) (sSeq (sRaise "NoLine") (sEnd)) (sEnd)) (sSeq (sFor (tgN 1) (iSeq (eV 0)) (sSeq (sExpr (eCall 1 S_need_condition (aCons (eV 1) (aNil)))) (sEnd))) (sEnd)))
/-- one_way: k05 k08 -/
def S_one_way : Sf := ofBody 1 4 (sSeq (sAsg (eLst (aNil)) (tgN 1)) (sSeq (sFor (tgN 2) (iSeq (eV 0)) (sSeq (sExpr (eIns (eV 1) (eCall 2 S_place_among (aCons (eV 1) (aCons (eV 2) (aNil)))) (eV 2))) (sEnd))) (sSeq (sAsg (eLst (aNil)) (tgN 3)) (sSeq (sFor (tgN 4) (iSeq (eV 1)) (sSeq (sIf (bOr (bNot (bTru (eV 3))) (bOf (eCall 2 S_edge_below (aCons (eCall 1 S_end_edge (aCons (eOp dIx (eV 3) (eUn dNeg (eK (.int 1)))) (aNil))) (aCons (eCall 1 S_begin_edge (aCons (eV 4) (aNil))) (aNil)))))) (sSeq (sExpr (eApp (eV 3) (eV 4))) (sEnd)) (sSeq (sIf (bOf (eCall 2 S_edge_below (aCons (eCall 1 S_end_edge (aCons (eOp dIx (eV 3) (eUn dNeg (eK (.int 1)))) (aNil))) (aCons (eCall 1 S_end_edge (aCons (eV 4) (aNil))) (aNil))))) (sSeq (sPut (eCall 2 S_between (aCons (eCall 1 S_begin_edge (aCons (eOp dIx (eV 3) (eUn dNeg (eK (.int 1)))) (aNil))) (aCons (eCall 1 S_end_edge (aCons (eV 4) (aNil))) (aNil)))) (eV 3) (eUn dNeg (eK (.int 1)))) (sEnd)) (sEnd)) (sEnd))) (sEnd))) (sSeq (sRet (eBi gTuple (aCons (eV 3) (aNil)))) (sEnd))))))
/-- in_both: k05 k08 -/
def S_in_both : Sf := ofBody 2 4 (sSeq (sAsg (eLst (aNil)) (tgN 2)) (sSeq (sAsg (eTup (aCons (eK (.int 0)) (aCons (eK (.int 0)) (aNil)))) (tgT [3, 4])) (sSeq (sWhile (bAnd (bOf (eOp dLt (eV 3) (eBi gLen (aCons (eV 0) (aNil))))) (bOf (eOp dLt (eV 4) (eBi gLen (aCons (eV 1) (aNil)))))) (sSeq (sAsg (eCall 2 S_overlap (aCons (eOp dIx (eV 0) (eV 3)) (aCons (eOp dIx (eV 1) (eV 4)) (aNil)))) (tgN 5)) (sSeq (sIf (bOf (eOp (dIsN true) (eV 5) (eK .non))) (sSeq (sExpr (eApp (eV 2) (eV 5))) (sEnd)) (sEnd)) (sSeq (sIf (bOf (eCall 2 S_edge_below (aCons (eCall 1 S_end_edge (aCons (eOp dIx (eV 0) (eV 3)) (aNil))) (aCons (eCall 1 S_end_edge (aCons (eOp dIx (eV 1) (eV 4)) (aNil))) (aNil))))) (sSeq (sAug 3 (fun x y => x + y) (eK (.int 1))) (sEnd)) (sSeq (sAug 4 (fun x y => x + y) (eK (.int 1))) (sEnd))) (sEnd))))) (sSeq (sRet (eBi gTuple (aCons (eV 2) (aNil)))) (sEnd)))))
/-- is_moment: k04 k05 k06 k07 k08 k16 k17 k18 k19 k20 k21 k22 k23 -/
def S_is_moment : Sf := ofBody 1 2 (sSeq (sIf (bOr (bNot (bOf (eIsi "tuple" (eV 0)))) (bOf (eOp (dEqs true) (eBi gLen (aCons (eV 0) (aNil))) (eK (.int 2))))) (sSeq (sRet (eK (.bl false))) (sEnd)) (sEnd)) (sSeq (sAsg (eV 0) (tgT [1, 2])) (sSeq (sIf (bOr (bNot (bOf (eIsi "int" (eV 1)))) (bOr (bNot (bOf (eIsi "int" (eV 2)))) (bOr (bOf (eOp (dIsN false) (eV 1) (eK (.bl true)))) (bOr (bOf (eOp (dIsN false) (eV 1) (eK (.bl false)))) (bOf (eOp (dIsN false) (eV 2) (eK (.bl true)))))))) (sSeq (sRet (eK (.bl false))) (sEnd)) (sEnd)) (sSeq (sRet (eAnd (eOp dGe (eV 2) (eK (.int 1))) (eAnd (eChain (fun i j => decide (i ≤ j)) (fun i j => decide (i ≤ j)) (eK (.int 0)) (eV 1) (eOp dMul (eK (.int 1000000)) (eV 2))) (eOp (dEqs false) (eBi gGcd (aCons (eV 1) (aCons (eV 2) (aNil)))) (eK (.int 1)))))) (sEnd)))))
/-- are_whole_corners: k18 k19 k20 k21 k22 k23 -/
def S_are_whole_corners : Sf := ofBody 1 2 (sSeq (sFor (tgT [1, 2]) (iSeq (eV 0)) (sSeq (sIf (bOr (bNot (bOf (eIsi "int" (eV 1)))) (bOr (bNot (bOf (eIsi "int" (eV 2)))) (bOr (bOf (eOp (dIsN false) (eV 1) (eK (.bl true)))) (bOr (bOf (eOp (dIsN false) (eV 1) (eK (.bl false)))) (bOr (bOf (eOp (dIsN false) (eV 2) (eK (.bl true)))) (bOf (eOp (dIsN false) (eV 2) (eK (.bl false))))))))) (sSeq (sRet (eK (.bl false))) (sEnd)) (sEnd)) (sEnd))) (sSeq (sRet (eK (.bl true))) (sEnd)))
/-- need_moment: k04 k06 k08 k16 k18 k19 -/
def S_need_moment : Sf := ofBody 1 0 (sSeq (sIf (bNot (bOf (eCall 1 S_is_moment (aCons (eV 0) (aNil))))) (sSeq (sDead) (sEnd)) (sEnd)) (sEnd))
/-- is_spell: k04 k05 k06 k07 k08 k16 k17 k19 k20 k21 k22 k23 -/
def S_is_spell : Sf := ofBody 1 4 (sSeq (sIf (bOr (bNot (bOf (eIsi "tuple" (eV 0)))) (bOf (eOp (dEqs true) (eBi gLen (aCons (eV 0) (aNil))) (eK (.int 4))))) (sSeq (sRet (eK (.bl false))) (sEnd)) (sEnd)) (sSeq (sAsg (eV 0) (tgT [1, 2, 3, 4])) (sSeq (sIf (bOr (bNot (bOf (eIsi "bool" (eV 2)))) (bNot (bOf (eIsi "bool" (eV 4))))) (sSeq (sRet (eK (.bl false))) (sEnd)) (sEnd)) (sSeq (sRet (eAnd (eCall 1 S_is_moment (aCons (eV 1) (aNil))) (eAnd (eCall 1 S_is_moment (aCons (eV 3) (aNil))) (eCall 2 S_edge_below (aCons (eCall 1 S_begin_edge (aCons (eV 0) (aNil))) (aCons (eCall 1 S_end_edge (aCons (eV 0) (aNil))) (aNil))))))) (sEnd)))))
/-- are_parts_of_row: k18 k19 k20 k21 k22 k23 -/
def S_are_parts_of_row : Sf := ofBody 4 2 (sSeq (sIf (bOr (bNot (bOf (eIsi "int" (eV 0)))) (bOr (bOf (eOp (dIsN false) (eV 0) (eK (.bl true)))) (bOr (bOf (eOp (dIsN false) (eV 0) (eK (.bl false)))) (bNot (bOf (eChain (fun i j => decide (i ≤ j)) (fun i j => decide (i ≤ j)) (eK (.int 0)) (eV 0) (eK (.int 1000000)))))))) (sSeq (sRet (eK (.bl false))) (sEnd)) (sEnd)) (sSeq (sIf (bOr (bNot (bOf (eIsi "tuple" (eV 2)))) (bOf (eOp (dEqs true) (eBi gLen (aCons (eV 2) (aNil))) (eK (.int 2))))) (sSeq (sRet (eK (.bl false))) (sEnd)) (sEnd)) (sSeq (sAsg (eV 2) (tgT [4, 5])) (sSeq (sIf (bOr (bNot (bOf (eIsi "int" (eV 4)))) (bOr (bNot (bOf (eIsi "int" (eV 5)))) (bOr (bOf (eOp (dIsN false) (eV 4) (eK (.bl true)))) (bOr (bOf (eOp (dIsN false) (eV 4) (eK (.bl false)))) (bOr (bOf (eOp (dIsN false) (eV 5) (eK (.bl true)))) (bOf (eOp (dIsN false) (eV 5) (eK (.bl false))))))))) (sSeq (sRet (eK (.bl false))) (sEnd)) (sEnd)) (sSeq (sIf (bOf (eOp (dIsN false) (eV 1) (eK .non))) (sSeq (sRet (eAnd (eOp (dEqs false) (eV 4) (eK (.int 0))) (eOp (dEqs false) (eV 5) (eK (.int 0))))) (sEnd)) (sEnd)) (sSeq (sIf (bOr (bNot (bOf (eChain (fun i j => decide (i ≤ j)) (fun i j => decide (i ≤ j)) (eUn dNeg (eK (.int 1000000))) (eV 4) (eK (.int 1000000))))) (bNot (bOf (eChain (fun i j => decide (i ≤ j)) (fun i j => decide (i ≤ j)) (eUn dNeg (eK (.int 1000000))) (eV 5) (eK (.int 1000000)))))) (sSeq (sRet (eK (.bl false))) (sEnd)) (sEnd)) (sSeq (sRet (eIf (bOf (eOp (dEqs false) (eV 1) (eV 3))) (eCall 1 S_are_whole_corners (aCons (eV 1) (aNil))) (eCall 1 S_is_ring (aCons (eV 1) (aNil))))) (sEnd))))))))
/-- need_spell: k04 k05 k07 k08 k16 k17 k19 k20 k21 k22 k23 -/
def S_need_spell : Sf := ofBody 1 0 (sSeq (sIf (bNot (bOf (eCall 1 S_is_spell (aCons (eV 0) (aNil))))) (sSeq (sRaise "NoSpell") (sEnd)) (sEnd)) (sEnd))
/-- are_straight_pairs: k06 k07 k08 -/
def S_are_straight_pairs : Sf := ofBody 1 3 (sSeq (sFor (tgN 1) (iSeq (eV 0)) (sSeq (sIf (bOr (bNot (bOf (eIsi "tuple" (eV 1)))) (bOr (bOf (eOp (dEqs true) (eBi gLen (aCons (eV 1) (aNil))) (eK (.int 2)))) (bNot (bOf (eCall 1 S_is_spell (aCons (eOp dIx (eV 1) (eK (.int 0))) (aNil))))))) (sSeq (sRet (eK (.bl false))) (sEnd)) (sEnd)) (sEnd))) (sSeq (sFor (tgT [2, 3]) (iZip2 (aCons (eV 0) (aCons (eCut (eV 0) (oSome (eK (.int 1))) (oNone)) (aNil)))) (sSeq (sIf (bOf (eOp (dEqs true) (eCall 1 S_end_edge (aCons (eOp dIx (eV 2) (eK (.int 0))) (aNil))) (eCall 1 S_begin_edge (aCons (eOp dIx (eV 3) (eK (.int 0))) (aNil))))) (sSeq (sRet (eK (.bl false))) (sEnd)) (sEnd)) (sEnd))) (sSeq (sRet (eOp dGt (eBi gLen (aCons (eV 0) (aNil))) (eK (.int 0)))) (sEnd))))
/-- worth: k16 k18 k19 -/
def S_worth : Sf := ofBody 2 2 (sSeq (sIf (bNot (bOf (eCall 1 S_is_line (aCons (eV 0) (aNil))))) (sSeq (sRaise "NoLine") (sEnd)) (sEnd)) (sSeq (sExpr (eCall 1 S_need_moment (aCons (eV 1) (aNil)))) (sSeq (sAsg (eV 0) (tgT [2, 3])) (sSeq (sRet (eCall 2 S_added (aCons (eV 2) (aCons (eCall 2 S_lowest (aCons (eOp dMul (eOp dIx (eV 3) (eK (.int 0))) (eOp dIx (eV 1) (eK (.int 0)))) (aCons (eOp dMul (eOp dIx (eV 3) (eK (.int 1))) (eOp dIx (eV 1) (eK (.int 1)))) (aNil)))) (aNil))))) (sEnd)))))
/-- is_row: k18 k19 k20 k21 k22 k23 -/
def S_is_row : Sf := ofBody 1 3 (sSeq (sIf (bOr (bNot (bOf (eIsi "tuple" (eV 0)))) (bOf (eOp (dEqs true) (eBi gLen (aCons (eV 0) (aNil))) (eK (.int 3))))) (sSeq (sRet (eK (.bl false))) (sEnd)) (sEnd)) (sSeq (sAsg (eV 0) (tgT [1, 2, 3])) (sSeq (sRet (eCall 4 S_are_parts_of_row (aCons (eV 1) (aCons (eV 2) (aCons (eV 3) (aCons (eK .non) (aNil))))))) (sEnd))))
/-- spell: k04 k08 -/
def S_spell : Sf := ofBody 4 1 (sSeq (sExpr (eCall 1 S_need_moment (aCons (eV 0) (aNil)))) (sSeq (sExpr (eCall 1 S_need_moment (aCons (eV 1) (aNil)))) (sSeq (sAsg (eTup (aCons (eV 0) (aCons (eV 2) (aCons (eV 1) (aCons (eV 3) (aNil)))))) (tgN 4)) (sSeq (sExpr (eCall 1 S_need_spell (aCons (eV 4) (aNil)))) (sSeq (sRet (eV 4)) (sEnd))))))
/-- has: k04 k08 -/
def S_has : Sf := ofBody 2 0 (sSeq (sExpr (eCall 1 S_need_spell (aCons (eV 0) (aNil)))) (sSeq (sExpr (eCall 1 S_need_moment (aCons (eV 1) (aNil)))) (sSeq (sRet (eCall 2 S_is_inside (aCons (eV 0) (aCons (eV 1) (aNil))))) (sEnd))))
/-- shared: k04 k08 k23 -/
def S_shared : Sf := ofBody 2 0 (sSeq (sExpr (eCall 1 S_need_spell (aCons (eV 0) (aNil)))) (sSeq (sExpr (eCall 1 S_need_spell (aCons (eV 1) (aNil)))) (sSeq (sRet (eCall 2 S_overlap (aCons (eV 0) (aCons (eV 1) (aNil))))) (sEnd))))
/-- is_straight: k04 k08 -/
def S_is_straight : Sf := ofBody 2 0 (sSeq (sExpr (eCall 1 S_need_spell (aCons (eV 0) (aNil)))) (sSeq (sRet (eAnd (eCall 1 S_is_spell (aCons (eV 1) (aNil))) (eOp (dEqs false) (eCall 1 S_end_edge (aCons (eV 0) (aNil))) (eCall 1 S_begin_edge (aCons (eV 1) (aNil)))))) (sEnd)))
/-- some_moment: k04 k08 -/
def S_some_moment : Sf := ofBody 1 2 (sSeq (sExpr (eCall 1 S_need_spell (aCons (eV 0) (aNil)))) (sSeq (sAsg (eCall 2 S_added (aCons (eOp dIx (eV 0) (eK (.int 0))) (aCons (eOp dIx (eV 0) (eK (.int 2))) (aNil)))) (tgT [1, 2])) (sSeq (sRet (eCall 2 S_lowest (aCons (eV 1) (aCons (eOp dMul (eK (.int 2)) (eV 2)) (aNil))))) (sEnd))))
/-- need_spells: k05 k08 -/
def S_need_spells : Sf := ofBody 1 1 (sSeq (sIf (bNot (bOf (eIsi2 "tuple" "list" (eV 0)))) (sSeq (sRaise "NoSpell") (sEnd)) (sEnd)) (sSeq (sFor (tgN 1) (iSeq (eV 0)) (sSeq (sExpr (eCall 1 S_need_spell (aCons (eV 1) (aNil)))) (sEnd))) (sEnd)))
/-- are_steps: k06 k07 k08 -/
def S_are_steps : Sf := ofBody 1 2 (sSeq (sIf (bOr (bNot (bOf (eIsi "tuple" (eV 0)))) (bNot (bOf (eCall 1 S_are_straight_pairs (aCons (eV 0) (aNil)))))) (sSeq (sRet (eK (.bl false))) (sEnd)) (sEnd)) (sSeq (sFor (tgT [1, 2]) (iZip2 (aCons (eV 0) (aCons (eCut (eV 0) (oSome (eK (.int 1))) (oNone)) (aNil)))) (sSeq (sIf (bOf (eOp (dEqs false) (eOp dIx (eV 1) (eK (.int 1))) (eOp dIx (eV 2) (eK (.int 1))))) (sSeq (sRet (eK (.bl false))) (sEnd)) (sEnd)) (sEnd))) (sSeq (sRet (eK (.bl true))) (sEnd))))
/-- holds_through: k16 k19 -/
def S_holds_through : Sf := ofBody 2 0 (sSeq (sExpr (eCall 1 S_need_condition (aCons (eV 0) (aNil)))) (sSeq (sExpr (eCall 1 S_need_spell (aCons (eV 1) (aNil)))) (sSeq (sRet (eCall 2 S_through (aCons (eCall 1 S_signs_of (aCons (eV 0) (aNil))) (aCons (eV 1) (aNil))))) (sEnd))))
/-- fails_through: k16 k19 -/
def S_fails_through : Sf := ofBody 2 0 (sSeq (sExpr (eCall 1 S_need_condition (aCons (eV 0) (aNil)))) (sSeq (sExpr (eCall 1 S_need_spell (aCons (eV 1) (aNil)))) (sSeq (sRet (eCall 2 S_through (aCons (eCall 1 S_turned_over (aCons (eCall 1 S_signs_of (aCons (eV 0) (aNil))) (aNil))) (aCons (eV 1) (aNil))))) (sEnd))))
/-- where: k17 k19 -/
def S_where : Sf := ofBody 2 1 (sSeq (sExpr (eCall 1 S_need_conditions (aCons (eV 0) (aNil)))) (sSeq (sExpr (eCall 1 S_need_spell (aCons (eV 1) (aNil)))) (sSeq (sRet (eCall 2 S_left_of_all (aCons (eComp (iSeq (eV 0)) [2] (tgN 2) (cYes) (eCall 1 S_signs_of (aCons (eV 2) (aNil)))) (aCons (eV 1) (aNil))))) (sEnd))))
/-- need_row: k18 k19 k20 k21 k22 k23 -/
def S_need_row : Sf := ofBody 1 0 (sSeq (sIf (bNot (bOf (eCall 1 S_is_row (aCons (eV 0) (aNil))))) (sSeq (sRaise "NoRow") (sEnd)) (sEnd)) (sEnd))
/-- together: k05 k08 -/
def S_together : Sf := ofBody 1 0 (sSeq (sExpr (eCall 1 S_need_spells (aCons (eV 0) (aNil)))) (sSeq (sRet (eCall 1 S_one_way (aCons (eV 0) (aNil)))) (sEnd)))
/-- both: k05 k08 -/
def S_both : Sf := ofBody 2 0 (sSeq (sExpr (eCall 1 S_need_spells (aCons (eV 0) (aNil)))) (sSeq (sExpr (eCall 1 S_need_spells (aCons (eV 1) (aNil)))) (sSeq (sRet (eCall 2 S_in_both (aCons (eCall 1 S_one_way (aCons (eV 0) (aNil))) (aCons (eCall 1 S_one_way (aCons (eV 1) (aNil))) (aNil))))) (sEnd))))
/-- but: k05 k08 -/
def S_but : Sf := ofBody 2 0 (sSeq (sExpr (eCall 1 S_need_spells (aCons (eV 0) (aNil)))) (sSeq (sExpr (eCall 1 S_need_spells (aCons (eV 1) (aNil)))) (sSeq (sRet (eCall 2 S_in_both (aCons (eCall 1 S_one_way (aCons (eV 0) (aNil))) (aCons (eCall 1 S_all_but (aCons (eCall 1 S_one_way (aCons (eV 1) (aNil))) (aNil))) (aNil))))) (sEnd))))
/-- need_steps: k06 k07 k08 -/
def S_need_steps : Sf := ofBody 1 0 (sSeq (sIf (bNot (bOf (eCall 1 S_are_steps (aCons (eV 0) (aNil))))) (sSeq (sRaise "NoSteps") (sEnd)) (sEnd)) (sEnd))
/-- need_row_with_ring: k18 k19 k20 k21 k22 k23 -/
def S_need_row_with_ring : Sf := ofBody 1 0 (sSeq (sExpr (eCall 1 S_need_row (aCons (eV 0) (aNil)))) (sSeq (sIf (bOf (eOp (dIsN false) (eOp dIx (eV 0) (eK (.int 1))) (eK .non))) (sSeq (sRaise "NoRow") (sEnd)) (sEnd)) (sEnd)))
/-- ring_at: k18 k19 -/
def S_ring_at : Sf := ofBody 2 2 (sSeq (sExpr (eCall 1 S_need_row (aCons (eV 0) (aNil)))) (sSeq (sExpr (eCall 1 S_need_moment (aCons (eV 1) (aNil)))) (sSeq (sIf (bOf (eOp (dIsN false) (eOp dIx (eV 0) (eK (.int 1))) (eK .non))) (sSeq (sRet (eK .non)) (sEnd)) (sEnd)) (sSeq (sRet (eBi gTuple (aCons (eComp (iSeq (eCall 2 S_moved_points (aCons (eV 0) (aCons (eV 1) (aNil))))) [2, 3] (tgT [2, 3]) (cYes) (eTup (aCons (eCall 2 S_lowest (aCons (eV 2) (aCons (eOp dIx (eV 1) (eK (.int 1))) (aNil)))) (aCons (eCall 2 S_lowest (aCons (eV 3) (aCons (eOp dIx (eV 1) (eK (.int 1))) (aNil)))) (aNil))))) (aNil)))) (sEnd)))))
/-- stretch_of: k06 k08 -/
def S_stretch_of : Sf := ofBody 1 0 (sSeq (sExpr (eCall 1 S_need_steps (aCons (eV 0) (aNil)))) (sSeq (sRet (eCall 1 S_whole_stretch (aCons (eV 0) (aNil)))) (sEnd)))
/-- answer_in: k06 k08 -/
def S_answer_in : Sf := ofBody 2 2 (sSeq (sExpr (eCall 1 S_need_steps (aCons (eV 0) (aNil)))) (sSeq (sExpr (eCall 1 S_need_moment (aCons (eV 1) (aNil)))) (sSeq (sFor (tgT [2, 3]) (iSeq (eV 0)) (sSeq (sIf (bOf (eCall 2 S_is_inside (aCons (eV 2) (aCons (eV 1) (aNil))))) (sSeq (sRet (eV 3)) (sEnd)) (sEnd)) (sEnd))) (sSeq (sDead) (sEnd)))))
/-- reach_line: k18 k19 -/
def S_reach_line : Sf := ofBody 2 2 (sSeq (sExpr (eCall 1 S_need_row_with_ring (aCons (eV 0) (aNil)))) (sSeq (sExpr (eCall 1 S_need_direction (aCons (eV 1) (aNil)))) (sSeq (sAsg (eCall 2 S_reach_numbers (aCons (eV 0) (aCons (eV 1) (aNil)))) (tgT [2, 3])) (sSeq (sRet (eCall 2 S_whole_line (aCons (eV 2) (aCons (eV 3) (aNil))))) (sEnd)))))
/-- box_lines: k18 k19 -/
def S_box_lines : Sf := ofBody 1 2 (sSeq (sExpr (eCall 1 S_need_row_with_ring (aCons (eV 0) (aNil)))) (sSeq (sRet (eBi gTuple (aCons (eComp (iSeq (eCall 1 S_box_numbers (aCons (eV 0) (aNil)))) [1, 2] (tgT [1, 2]) (cYes) (eCall 2 S_whole_line (aCons (eV 1) (aCons (eV 2) (aNil))))) (aNil)))) (sEnd)))
/-- need_two: k19 k20 k21 k22 k23 -/
def S_need_two : Sf := ofBody 3 0 (sSeq (sExpr (eCall 1 S_need_row_with_ring (aCons (eV 0) (aNil)))) (sSeq (sExpr (eCall 1 S_need_row_with_ring (aCons (eV 1) (aNil)))) (sSeq (sExpr (eCall 1 S_need_spell (aCons (eV 2) (aNil)))) (sEnd))))
/-- near: k19 k20 k23 -/
def S_near : Sf := ofBody 4 0 (sSeq (sExpr (eCall 3 S_need_two (aCons (eV 0) (aCons (eV 1) (aCons (eV 2) (aNil)))))) (sSeq (sIf (bNot (bOf (eCall 1 S_is_far (aCons (eV 3) (aNil))))) (sSeq (sDead) (sEnd)) (sEnd)) (sSeq (sRet (eCall 2 S_left_of_all (aCons (eCall 3 S_near_signs (aCons (eV 0) (aCons (eV 1) (aCons (eV 3) (aNil))))) (aCons (eV 2) (aNil))))) (sEnd))))
/-- is_apart: k19 k21 k23 -/
def S_is_apart : Sf := ofBody 4 0 (sSeq (sExpr (eCall 3 S_need_two (aCons (eV 0) (aCons (eV 1) (aCons (eV 2) (aNil)))))) (sSeq (sRet (eAnd (eCall 1 S_is_direction (aCons (eV 3) (aNil))) (eCall 4 S_parts_through (aCons (eV 0) (aCons (eV 1) (aCons (eV 2) (aCons (eV 3) (aNil)))))))) (sEnd)))
/-- are_spots: k19 k22 k23 -/
def S_are_spots : Sf := ofBody 4 0 (sSeq (sExpr (eCall 3 S_need_two (aCons (eV 0) (aCons (eV 1) (aCons (eV 2) (aNil)))))) (sSeq (sRet (eCall 4 S_are_spots_through (aCons (eV 0) (aCons (eV 1) (aCons (eV 2) (aCons (eV 3) (aNil))))))) (sEnd)))
/-- put_together: k06 k07 k08 -/
def S_put_together : Sf := ofBody 1 5 (sSeq (sAsg (eLst (aNil)) (tgN 1)) (sSeq (sFor (tgT [2, 3]) (iSeq (eV 0)) (sSeq (sIf (bAnd (bTru (eV 1)) (bOf (eOp (dEqs false) (eOp dIx (eOp dIx (eV 1) (eUn dNeg (eK (.int 1)))) (eK (.int 1))) (eV 3)))) (sSeq (sAsg (eOp dIx (eV 1) (eUn dNeg (eK (.int 1)))) (tgT [4, 5])) (sSeq (sPut (eTup (aCons (eCall 2 S_between (aCons (eCall 1 S_begin_edge (aCons (eV 4) (aNil))) (aCons (eCall 1 S_end_edge (aCons (eV 2) (aNil))) (aNil)))) (aCons (eV 5) (aNil)))) (eV 1) (eUn dNeg (eK (.int 1)))) (sEnd))) (sSeq (sExpr (eApp (eV 1) (eTup (aCons (eV 2) (aCons (eV 3) (aNil)))))) (sEnd))) (sEnd))) (sSeq (sRet (eBi gTuple (aCons (eV 1) (aNil)))) (sEnd))))
/-- cut_to: k07 k08 -/
def S_cut_to : Sf := ofBody 2 1 (sSeq (sExpr (eCall 1 S_need_steps (aCons (eV 0) (aNil)))) (sSeq (sExpr (eCall 1 S_need_spell (aCons (eV 1) (aNil)))) (sSeq (sAsg (eCall 2 S_cut_pairs (aCons (eV 0) (aCons (eV 1) (aNil)))) (tgN 2)) (sSeq (sIf (bNot (bTru (eV 2))) (sSeq (sRaise "NoSteps") (sEnd)) (sEnd)) (sSeq (sRet (eBi gTuple (aCons (eV 2) (aNil)))) (sEnd))))))
/-- steps_of: k06 k08 -/
def S_steps_of : Sf := ofBody 1 0 (sSeq (sIf (bOr (bNot (bOf (eIsi2 "tuple" "list" (eV 0)))) (bNot (bOf (eCall 1 S_are_straight_pairs (aCons (eV 0) (aNil)))))) (sSeq (sRaise "NoSteps") (sEnd)) (sEnd)) (sSeq (sRet (eCall 1 S_put_together (aCons (eV 0) (aNil)))) (sEnd)))
/-- laid_over: k07 k08 -/
def S_laid_over : Sf := ofBody 2 4 (sSeq (sExpr (eCall 1 S_need_steps (aCons (eV 0) (aNil)))) (sSeq (sExpr (eCall 1 S_need_steps (aCons (eV 1) (aNil)))) (sSeq (sPar 2 3 (aCons (eCall 1 S_whole_stretch (aCons (eV 0) (aNil))) (aCons (eCall 1 S_whole_stretch (aCons (eV 1) (aNil))) (aNil)))) (sSeq (sIf (bOr (bOf (eCall 2 S_edge_below (aCons (eCall 1 S_begin_edge (aCons (eV 3) (aNil))) (aCons (eCall 1 S_begin_edge (aCons (eV 2) (aNil))) (aNil))))) (bOf (eCall 2 S_edge_below (aCons (eCall 1 S_end_edge (aCons (eV 2) (aNil))) (aCons (eCall 1 S_end_edge (aCons (eV 3) (aNil))) (aNil)))))) (sSeq (sRaise "NoSteps") (sEnd)) (sEnd)) (sSeq (sAsg (eCall 3 S_pairs_between (aCons (eV 0) (aCons (eCall 1 S_begin_edge (aCons (eV 2) (aNil))) (aCons (eCall 1 S_begin_edge (aCons (eV 3) (aNil))) (aNil))))) (tgN 4)) (sSeq (sAsg (eCall 3 S_pairs_between (aCons (eV 0) (aCons (eCall 1 S_end_edge (aCons (eV 3) (aNil))) (aCons (eCall 1 S_end_edge (aCons (eV 2) (aNil))) (aNil))))) (tgN 5)) (sSeq (sRet (eCall 1 S_put_together (aCons (eLst (aStar (eV 4) (aStar (eV 1) (aStar (eV 5) (aNil))))) (aNil)))) (sEnd))))))))
end
end MI
end

section
set_option Elab.async false
set_option linter.all false
set_option autoImplicit false
set_option maxRecDepth 100000
set_option maxHeartbeats 4000000
open PySem PySem.Spec PyProof.Rows L2
namespace K16
def topS (i : Nat) : Stmt := PySem.Challenge.pw_wherewhen_k16_lines_and_conditions.main.body.getD i (.Pass ⟨0, 0, 0, 0⟩)
abbrev sis_whole : Stmt := topS 8
abbrev sis_fraction : Stmt := topS 9
abbrev slowest : Stmt := topS 10
abbrev sadded : Stmt := topS 11
abbrev sbelow : Stmt := topS 12
abbrev sis_moment : Stmt := topS 15
abbrev sneed_moment : Stmt := topS 16
abbrev sbegin_edge : Stmt := topS 17
abbrev send_edge : Stmt := topS 18
abbrev sedge_below : Stmt := topS 19
abbrev sis_spell : Stmt := topS 20
abbrev sneed_spell : Stmt := topS 21
abbrev sis_line : Stmt := topS 23
abbrev sis_condition : Stmt := topS 24
abbrev sneed_condition : Stmt := topS 25
abbrev sworth : Stmt := topS 26
abbrev ssigns_of : Stmt := topS 27
abbrev sholds_through : Stmt := topS 28
abbrev sthrough : Stmt := topS 29
abbrev sturned_over : Stmt := topS 30
abbrev sfails_through : Stmt := topS 31
abbrev s_law_pot : Stmt := topS 33
abbrev s_law_take : Stmt := topS 34
abbrev s_law_great : Stmt := topS 35
abbrev s_law_lowest : Stmt := topS 36
abbrev s_law_fraction : Stmt := topS 37
abbrev s_law_moment : Stmt := topS 38
abbrev s_law_less : Stmt := topS 39
abbrev s_law_spell : Stmt := topS 40
abbrev s_law_in : Stmt := topS 41
abbrev s_law_middle : Stmt := topS 42
abbrev s_law_points : Stmt := topS 43
abbrev s_law_marks : Stmt := topS 44
abbrev s_law_line : Stmt := topS 45
abbrev s_law_worth : Stmt := topS 46
abbrev s_law_holds_at : Stmt := topS 47
abbrev s_law_roots : Stmt := topS 48
abbrev s_law_truth : Stmt := topS 49
abbrev slaw : Stmt := topS 50
def dis_whole : He.DefD := ⟨("is_whole", none), "is_whole", "is_whole", defArgs sis_whole, defBody sis_whole, defScope sis_whole, [], []⟩
def dis_fraction : He.DefD := ⟨("is_fraction", none), "is_fraction", "is_fraction", defArgs sis_fraction, defBody sis_fraction, defScope sis_fraction, [], []⟩
def dlowest : He.DefD := ⟨("lowest", none), "lowest", "lowest", defArgs slowest, defBody slowest, defScope slowest, [], []⟩
def dadded : He.DefD := ⟨("added", none), "added", "added", defArgs sadded, defBody sadded, defScope sadded, [], []⟩
def dbelow : He.DefD := ⟨("below", none), "below", "below", defArgs sbelow, defBody sbelow, defScope sbelow, [], []⟩
def dis_moment : He.DefD := ⟨("is_moment", none), "is_moment", "is_moment", defArgs sis_moment, defBody sis_moment, defScope sis_moment, [], []⟩
def dneed_moment : He.DefD := ⟨("need_moment", none), "need_moment", "need_moment", defArgs sneed_moment, defBody sneed_moment, defScope sneed_moment, [], []⟩
def dbegin_edge : He.DefD := ⟨("begin_edge", none), "begin_edge", "begin_edge", defArgs sbegin_edge, defBody sbegin_edge, defScope sbegin_edge, [], []⟩
def dend_edge : He.DefD := ⟨("end_edge", none), "end_edge", "end_edge", defArgs send_edge, defBody send_edge, defScope send_edge, [], []⟩
def dedge_below : He.DefD := ⟨("edge_below", none), "edge_below", "edge_below", defArgs sedge_below, defBody sedge_below, defScope sedge_below, [], []⟩
def dis_spell : He.DefD := ⟨("is_spell", none), "is_spell", "is_spell", defArgs sis_spell, defBody sis_spell, defScope sis_spell, [], []⟩
def dneed_spell : He.DefD := ⟨("need_spell", none), "need_spell", "need_spell", defArgs sneed_spell, defBody sneed_spell, defScope sneed_spell, [], []⟩
def dis_line : He.DefD := ⟨("is_line", none), "is_line", "is_line", defArgs sis_line, defBody sis_line, defScope sis_line, [], []⟩
def dis_condition : He.DefD := ⟨("is_condition", none), "is_condition", "is_condition", defArgs sis_condition, defBody sis_condition, defScope sis_condition, [], []⟩
def dneed_condition : He.DefD := ⟨("need_condition", none), "need_condition", "need_condition", defArgs sneed_condition, defBody sneed_condition, defScope sneed_condition, [], []⟩
def dworth : He.DefD := ⟨("worth", none), "worth", "worth", defArgs sworth, defBody sworth, defScope sworth, [], []⟩
def dsigns_of : He.DefD := ⟨("signs_of", none), "signs_of", "signs_of", defArgs ssigns_of, defBody ssigns_of, defScope ssigns_of, [], []⟩
def dholds_through : He.DefD := ⟨("holds_through", none), "holds_through", "holds_through", defArgs sholds_through, defBody sholds_through, defScope sholds_through, [], []⟩
def dthrough : He.DefD := ⟨("through", none), "through", "through", defArgs sthrough, defBody sthrough, defScope sthrough, [], []⟩
def dturned_over : He.DefD := ⟨("turned_over", none), "turned_over", "turned_over", defArgs sturned_over, defBody sturned_over, defScope sturned_over, [], []⟩
def dfails_through : He.DefD := ⟨("fails_through", none), "fails_through", "fails_through", defArgs sfails_through, defBody sfails_through, defScope sfails_through, [], []⟩
def d_law_pot : He.DefD := ⟨("_law_pot", none), "_law_pot", "_law_pot", defArgs s_law_pot, defBody s_law_pot, defScope s_law_pot, [], []⟩
def d_law_take : He.DefD := ⟨("_law_take", none), "_law_take", "_law_take", defArgs s_law_take, defBody s_law_take, defScope s_law_take, [], []⟩
def d_law_great : He.DefD := ⟨("_law_great", none), "_law_great", "_law_great", defArgs s_law_great, defBody s_law_great, defScope s_law_great, [], []⟩
def d_law_lowest : He.DefD := ⟨("_law_lowest", none), "_law_lowest", "_law_lowest", defArgs s_law_lowest, defBody s_law_lowest, defScope s_law_lowest, [], []⟩
def d_law_fraction : He.DefD := ⟨("_law_fraction", none), "_law_fraction", "_law_fraction", defArgs s_law_fraction, defBody s_law_fraction, defScope s_law_fraction, [], []⟩
def d_law_moment : He.DefD := ⟨("_law_moment", none), "_law_moment", "_law_moment", defArgs s_law_moment, defBody s_law_moment, defScope s_law_moment, [], []⟩
def d_law_less : He.DefD := ⟨("_law_less", none), "_law_less", "_law_less", defArgs s_law_less, defBody s_law_less, defScope s_law_less, [], []⟩
def d_law_spell : He.DefD := ⟨("_law_spell", none), "_law_spell", "_law_spell", defArgs s_law_spell, defBody s_law_spell, defScope s_law_spell, [], []⟩
def d_law_in : He.DefD := ⟨("_law_in", none), "_law_in", "_law_in", defArgs s_law_in, defBody s_law_in, defScope s_law_in, [], []⟩
def d_law_middle : He.DefD := ⟨("_law_middle", none), "_law_middle", "_law_middle", defArgs s_law_middle, defBody s_law_middle, defScope s_law_middle, [], []⟩
def d_law_points : He.DefD := ⟨("_law_points", none), "_law_points", "_law_points", defArgs s_law_points, defBody s_law_points, defScope s_law_points, [], []⟩
def d_law_marks : He.DefD := ⟨("_law_marks", none), "_law_marks", "_law_marks", defArgs s_law_marks, defBody s_law_marks, defScope s_law_marks, [], []⟩
def d_law_line : He.DefD := ⟨("_law_line", none), "_law_line", "_law_line", defArgs s_law_line, defBody s_law_line, defScope s_law_line, [], []⟩
def d_law_worth : He.DefD := ⟨("_law_worth", none), "_law_worth", "_law_worth", defArgs s_law_worth, defBody s_law_worth, defScope s_law_worth, [], []⟩
def d_law_holds_at : He.DefD := ⟨("_law_holds_at", none), "_law_holds_at", "_law_holds_at", defArgs s_law_holds_at, defBody s_law_holds_at, defScope s_law_holds_at, [], []⟩
def d_law_roots : He.DefD := ⟨("_law_roots", none), "_law_roots", "_law_roots", defArgs s_law_roots, defBody s_law_roots, defScope s_law_roots, [], []⟩
def d_law_truth : He.DefD := ⟨("_law_truth", none), "_law_truth", "_law_truth", defArgs s_law_truth, defBody s_law_truth, defScope s_law_truth, [], []⟩
def dlaw : He.DefD := ⟨("law", none), "law", "law", defArgs slaw, defBody slaw, defScope slaw, [], []⟩
def fn : List He.DefD := [dis_whole, dis_fraction, dlowest, dadded, dbelow, dis_moment, dneed_moment, dbegin_edge, dend_edge, dedge_below, dis_spell, dneed_spell, dis_line, dis_condition, dneed_condition, dworth, dsigns_of, dholds_through, dthrough, dturned_over, dfails_through, d_law_pot, d_law_take, d_law_great, d_law_lowest, d_law_fraction, d_law_moment, d_law_less, d_law_spell, d_law_in, d_law_middle, d_law_points, d_law_marks, d_law_line, d_law_worth, d_law_holds_at, d_law_roots, d_law_truth, dlaw]
def fa : List He.Fa := [.glo "is_whole", .glo "is_fraction", .glo "lowest", .glo "added", .glo "below", .glo "is_moment", .glo "need_moment", .glo "begin_edge", .glo "end_edge", .glo "edge_below", .glo "is_spell", .glo "need_spell", .glo "is_line", .glo "is_condition", .glo "need_condition", .glo "worth", .glo "signs_of", .glo "holds_through", .glo "through", .glo "turned_over", .glo "fails_through", .glo "_law_pot", .glo "_law_take", .glo "_law_great", .glo "_law_lowest", .glo "_law_fraction", .glo "_law_moment", .glo "_law_less", .glo "_law_spell", .glo "_law_in", .glo "_law_middle", .glo "_law_points", .glo "_law_marks", .glo "_law_line", .glo "_law_worth", .glo "_law_holds_at", .glo "_law_roots", .glo "_law_truth", .glo "law", .glo "WhereError", .glo "NoSpell", .glo "NoLine", .glo "LackError", .glo "NoMoment", .free "isinstance", .free "int", .free "bool", .free "tuple", .free "len", .free "all", .free "abs", .free "range", .free "zip", .free "max", .free "min", .free "repr", .int "END" 1000000, .exc "NoLine", .exc "NoSpell"]
def ex (K : PySem.W.Frag) : Bool := decide (PySem.W.nsIn K mainGlobals "gcd" = some (some (.builtin "math.gcd")))
open MI
/-- what the written part says -/
structure Txt (K : PySem.W.Frag) (mg : Str → Option Value) : Prop where
  g_is_whole : mg "is_whole" = some (.ref (He.ga K "is_whole"))
  g_is_fraction : mg "is_fraction" = some (.ref (He.ga K "is_fraction"))
  g_lowest : mg "lowest" = some (.ref (He.ga K "lowest"))
  g_added : mg "added" = some (.ref (He.ga K "added"))
  g_below : mg "below" = some (.ref (He.ga K "below"))
  g_is_moment : mg "is_moment" = some (.ref (He.ga K "is_moment"))
  g_need_moment : mg "need_moment" = some (.ref (He.ga K "need_moment"))
  g_begin_edge : mg "begin_edge" = some (.ref (He.ga K "begin_edge"))
  g_end_edge : mg "end_edge" = some (.ref (He.ga K "end_edge"))
  g_edge_below : mg "edge_below" = some (.ref (He.ga K "edge_below"))
  g_is_spell : mg "is_spell" = some (.ref (He.ga K "is_spell"))
  g_need_spell : mg "need_spell" = some (.ref (He.ga K "need_spell"))
  g_is_line : mg "is_line" = some (.ref (He.ga K "is_line"))
  g_is_condition : mg "is_condition" = some (.ref (He.ga K "is_condition"))
  g_need_condition : mg "need_condition" = some (.ref (He.ga K "need_condition"))
  g_worth : mg "worth" = some (.ref (He.ga K "worth"))
  g_signs_of : mg "signs_of" = some (.ref (He.ga K "signs_of"))
  g_holds_through : mg "holds_through" = some (.ref (He.ga K "holds_through"))
  g_through : mg "through" = some (.ref (He.ga K "through"))
  g_turned_over : mg "turned_over" = some (.ref (He.ga K "turned_over"))
  g_fails_through : mg "fails_through" = some (.ref (He.ga K "fails_through"))
  g__law_pot : mg "_law_pot" = some (.ref (He.ga K "_law_pot"))
  g__law_take : mg "_law_take" = some (.ref (He.ga K "_law_take"))
  g__law_great : mg "_law_great" = some (.ref (He.ga K "_law_great"))
  g__law_lowest : mg "_law_lowest" = some (.ref (He.ga K "_law_lowest"))
  g__law_fraction : mg "_law_fraction" = some (.ref (He.ga K "_law_fraction"))
  g__law_moment : mg "_law_moment" = some (.ref (He.ga K "_law_moment"))
  g__law_less : mg "_law_less" = some (.ref (He.ga K "_law_less"))
  g__law_spell : mg "_law_spell" = some (.ref (He.ga K "_law_spell"))
  g__law_in : mg "_law_in" = some (.ref (He.ga K "_law_in"))
  g__law_middle : mg "_law_middle" = some (.ref (He.ga K "_law_middle"))
  g__law_points : mg "_law_points" = some (.ref (He.ga K "_law_points"))
  g__law_marks : mg "_law_marks" = some (.ref (He.ga K "_law_marks"))
  g__law_line : mg "_law_line" = some (.ref (He.ga K "_law_line"))
  g__law_worth : mg "_law_worth" = some (.ref (He.ga K "_law_worth"))
  g__law_holds_at : mg "_law_holds_at" = some (.ref (He.ga K "_law_holds_at"))
  g__law_roots : mg "_law_roots" = some (.ref (He.ga K "_law_roots"))
  g__law_truth : mg "_law_truth" = some (.ref (He.ga K "_law_truth"))
  g_law : mg "law" = some (.ref (He.ga K "law"))
  g_WhereError : mg "WhereError" = some (.ref (He.ga K "WhereError"))
  g_NoSpell : mg "NoSpell" = some (.ref (He.ga K "NoSpell"))
  g_NoLine : mg "NoLine" = some (.ref (He.ga K "NoLine"))
  g_LackError : mg "LackError" = some (.ref (He.ga K "LackError"))
  g_NoMoment : mg "NoMoment" = some (.ref (He.ga K "NoMoment"))
  z_isinstance : mg "isinstance" = none
  z_int : mg "int" = none
  z_bool : mg "bool" = none
  z_tuple : mg "tuple" = none
  z_len : mg "len" = none
  z_all : mg "all" = none
  z_abs : mg "abs" = none
  z_range : mg "range" = none
  z_zip : mg "zip" = none
  z_max : mg "max" = none
  z_min : mg "min" = none
  z_repr : mg "repr" = none
  c_END : ∃ t, mg "END" = some (.int 1000000 t)
  ex_NoLine : PySem.W.excIn K (He.ga K "NoLine") He.veBase "ValueError.__new__" = true
  kp_NoLine : PySem.W.keepIn K (.ref (He.ga K "NoLine")) = true
  sb_NoLine : PySem.W.subIn K (.ref (He.ga K "NoLine")) (.type "BaseException") = some true
  ty_NoLine : PySem.W.typeIn K (.ref (He.ga K "NoLine")) = some (.type "type")
  ex_NoSpell : PySem.W.excIn K (He.ga K "NoSpell") He.veBase "ValueError.__new__" = true
  kp_NoSpell : PySem.W.keepIn K (.ref (He.ga K "NoSpell")) = true
  sb_NoSpell : PySem.W.subIn K (.ref (He.ga K "NoSpell")) (.type "BaseException") = some true
  ty_NoSpell : PySem.W.typeIn K (.ref (He.ga K "NoSpell")) = some (.type "type")
  F_is_whole : ∃ fd, FunD K "is_whole" "is_whole" (defArgs sis_whole) (defBody sis_whole) (defScope sis_whole) [] [] (He.ga K "is_whole") fd
  F_is_fraction : ∃ fd, FunD K "is_fraction" "is_fraction" (defArgs sis_fraction) (defBody sis_fraction) (defScope sis_fraction) [] [] (He.ga K "is_fraction") fd
  F_lowest : ∃ fd, FunD K "lowest" "lowest" (defArgs slowest) (defBody slowest) (defScope slowest) [] [] (He.ga K "lowest") fd
  F_added : ∃ fd, FunD K "added" "added" (defArgs sadded) (defBody sadded) (defScope sadded) [] [] (He.ga K "added") fd
  F_below : ∃ fd, FunD K "below" "below" (defArgs sbelow) (defBody sbelow) (defScope sbelow) [] [] (He.ga K "below") fd
  F_is_moment : ∃ fd, FunD K "is_moment" "is_moment" (defArgs sis_moment) (defBody sis_moment) (defScope sis_moment) [] [] (He.ga K "is_moment") fd
  F_need_moment : ∃ fd, FunD K "need_moment" "need_moment" (defArgs sneed_moment) (defBody sneed_moment) (defScope sneed_moment) [] [] (He.ga K "need_moment") fd
  F_begin_edge : ∃ fd, FunD K "begin_edge" "begin_edge" (defArgs sbegin_edge) (defBody sbegin_edge) (defScope sbegin_edge) [] [] (He.ga K "begin_edge") fd
  F_end_edge : ∃ fd, FunD K "end_edge" "end_edge" (defArgs send_edge) (defBody send_edge) (defScope send_edge) [] [] (He.ga K "end_edge") fd
  F_edge_below : ∃ fd, FunD K "edge_below" "edge_below" (defArgs sedge_below) (defBody sedge_below) (defScope sedge_below) [] [] (He.ga K "edge_below") fd
  F_is_spell : ∃ fd, FunD K "is_spell" "is_spell" (defArgs sis_spell) (defBody sis_spell) (defScope sis_spell) [] [] (He.ga K "is_spell") fd
  F_need_spell : ∃ fd, FunD K "need_spell" "need_spell" (defArgs sneed_spell) (defBody sneed_spell) (defScope sneed_spell) [] [] (He.ga K "need_spell") fd
  F_is_line : ∃ fd, FunD K "is_line" "is_line" (defArgs sis_line) (defBody sis_line) (defScope sis_line) [] [] (He.ga K "is_line") fd
  F_is_condition : ∃ fd, FunD K "is_condition" "is_condition" (defArgs sis_condition) (defBody sis_condition) (defScope sis_condition) [] [] (He.ga K "is_condition") fd
  F_need_condition : ∃ fd, FunD K "need_condition" "need_condition" (defArgs sneed_condition) (defBody sneed_condition) (defScope sneed_condition) [] [] (He.ga K "need_condition") fd
  F_worth : ∃ fd, FunD K "worth" "worth" (defArgs sworth) (defBody sworth) (defScope sworth) [] [] (He.ga K "worth") fd
  F_signs_of : ∃ fd, FunD K "signs_of" "signs_of" (defArgs ssigns_of) (defBody ssigns_of) (defScope ssigns_of) [] [] (He.ga K "signs_of") fd
  F_holds_through : ∃ fd, FunD K "holds_through" "holds_through" (defArgs sholds_through) (defBody sholds_through) (defScope sholds_through) [] [] (He.ga K "holds_through") fd
  F_through : ∃ fd, FunD K "through" "through" (defArgs sthrough) (defBody sthrough) (defScope sthrough) [] [] (He.ga K "through") fd
  F_turned_over : ∃ fd, FunD K "turned_over" "turned_over" (defArgs sturned_over) (defBody sturned_over) (defScope sturned_over) [] [] (He.ga K "turned_over") fd
  F_fails_through : ∃ fd, FunD K "fails_through" "fails_through" (defArgs sfails_through) (defBody sfails_through) (defScope sfails_through) [] [] (He.ga K "fails_through") fd
  F__law_pot : ∃ fd, FunD K "_law_pot" "_law_pot" (defArgs s_law_pot) (defBody s_law_pot) (defScope s_law_pot) [] [] (He.ga K "_law_pot") fd
  F__law_take : ∃ fd, FunD K "_law_take" "_law_take" (defArgs s_law_take) (defBody s_law_take) (defScope s_law_take) [] [] (He.ga K "_law_take") fd
  F__law_great : ∃ fd, FunD K "_law_great" "_law_great" (defArgs s_law_great) (defBody s_law_great) (defScope s_law_great) [] [] (He.ga K "_law_great") fd
  F__law_lowest : ∃ fd, FunD K "_law_lowest" "_law_lowest" (defArgs s_law_lowest) (defBody s_law_lowest) (defScope s_law_lowest) [] [] (He.ga K "_law_lowest") fd
  F__law_fraction : ∃ fd, FunD K "_law_fraction" "_law_fraction" (defArgs s_law_fraction) (defBody s_law_fraction) (defScope s_law_fraction) [] [] (He.ga K "_law_fraction") fd
  F__law_moment : ∃ fd, FunD K "_law_moment" "_law_moment" (defArgs s_law_moment) (defBody s_law_moment) (defScope s_law_moment) [] [] (He.ga K "_law_moment") fd
  F__law_less : ∃ fd, FunD K "_law_less" "_law_less" (defArgs s_law_less) (defBody s_law_less) (defScope s_law_less) [] [] (He.ga K "_law_less") fd
  F__law_spell : ∃ fd, FunD K "_law_spell" "_law_spell" (defArgs s_law_spell) (defBody s_law_spell) (defScope s_law_spell) [] [] (He.ga K "_law_spell") fd
  F__law_in : ∃ fd, FunD K "_law_in" "_law_in" (defArgs s_law_in) (defBody s_law_in) (defScope s_law_in) [] [] (He.ga K "_law_in") fd
  F__law_middle : ∃ fd, FunD K "_law_middle" "_law_middle" (defArgs s_law_middle) (defBody s_law_middle) (defScope s_law_middle) [] [] (He.ga K "_law_middle") fd
  F__law_points : ∃ fd, FunD K "_law_points" "_law_points" (defArgs s_law_points) (defBody s_law_points) (defScope s_law_points) [] [] (He.ga K "_law_points") fd
  F__law_marks : ∃ fd, FunD K "_law_marks" "_law_marks" (defArgs s_law_marks) (defBody s_law_marks) (defScope s_law_marks) [] [] (He.ga K "_law_marks") fd
  F__law_line : ∃ fd, FunD K "_law_line" "_law_line" (defArgs s_law_line) (defBody s_law_line) (defScope s_law_line) [] [] (He.ga K "_law_line") fd
  F__law_worth : ∃ fd, FunD K "_law_worth" "_law_worth" (defArgs s_law_worth) (defBody s_law_worth) (defScope s_law_worth) [] [] (He.ga K "_law_worth") fd
  F__law_holds_at : ∃ fd, FunD K "_law_holds_at" "_law_holds_at" (defArgs s_law_holds_at) (defBody s_law_holds_at) (defScope s_law_holds_at) [] [] (He.ga K "_law_holds_at") fd
  F__law_roots : ∃ fd, FunD K "_law_roots" "_law_roots" (defArgs s_law_roots) (defBody s_law_roots) (defScope s_law_roots) [] [] (He.ga K "_law_roots") fd
  F__law_truth : ∃ fd, FunD K "_law_truth" "_law_truth" (defArgs s_law_truth) (defBody s_law_truth) (defScope s_law_truth) [] [] (He.ga K "_law_truth") fd
  F_law : ∃ fd, FunD K "law" "law" (defArgs slaw) (defBody slaw) (defScope slaw) [] [] (He.ga K "law") fd
  gcd : mg "gcd" = some (.builtin "math.gcd")
theorem txt_of {K : PySem.W.Frag} {mg : Str → Option Value} {h : Heap} (X : K.In h) (G : h.Ns mainGlobals mg) (c : He.SaysD fa fn K) (m : ex K = true) : Txt K mg := by
  have m' := m
  unfold ex at m'
  simp only [Bool.and_eq_true, decide_eq_true_eq] at m'
  have e0 := m'
  exact ⟨He.glo_ok X G (c.fact 0 (f := .glo "is_whole") rfl),
    He.glo_ok X G (c.fact 1 (f := .glo "is_fraction") rfl),
    He.glo_ok X G (c.fact 2 (f := .glo "lowest") rfl),
    He.glo_ok X G (c.fact 3 (f := .glo "added") rfl),
    He.glo_ok X G (c.fact 4 (f := .glo "below") rfl),
    He.glo_ok X G (c.fact 5 (f := .glo "is_moment") rfl),
    He.glo_ok X G (c.fact 6 (f := .glo "need_moment") rfl),
    He.glo_ok X G (c.fact 7 (f := .glo "begin_edge") rfl),
    He.glo_ok X G (c.fact 8 (f := .glo "end_edge") rfl),
    He.glo_ok X G (c.fact 9 (f := .glo "edge_below") rfl),
    He.glo_ok X G (c.fact 10 (f := .glo "is_spell") rfl),
    He.glo_ok X G (c.fact 11 (f := .glo "need_spell") rfl),
    He.glo_ok X G (c.fact 12 (f := .glo "is_line") rfl),
    He.glo_ok X G (c.fact 13 (f := .glo "is_condition") rfl),
    He.glo_ok X G (c.fact 14 (f := .glo "need_condition") rfl),
    He.glo_ok X G (c.fact 15 (f := .glo "worth") rfl),
    He.glo_ok X G (c.fact 16 (f := .glo "signs_of") rfl),
    He.glo_ok X G (c.fact 17 (f := .glo "holds_through") rfl),
    He.glo_ok X G (c.fact 18 (f := .glo "through") rfl),
    He.glo_ok X G (c.fact 19 (f := .glo "turned_over") rfl),
    He.glo_ok X G (c.fact 20 (f := .glo "fails_through") rfl),
    He.glo_ok X G (c.fact 21 (f := .glo "_law_pot") rfl),
    He.glo_ok X G (c.fact 22 (f := .glo "_law_take") rfl),
    He.glo_ok X G (c.fact 23 (f := .glo "_law_great") rfl),
    He.glo_ok X G (c.fact 24 (f := .glo "_law_lowest") rfl),
    He.glo_ok X G (c.fact 25 (f := .glo "_law_fraction") rfl),
    He.glo_ok X G (c.fact 26 (f := .glo "_law_moment") rfl),
    He.glo_ok X G (c.fact 27 (f := .glo "_law_less") rfl),
    He.glo_ok X G (c.fact 28 (f := .glo "_law_spell") rfl),
    He.glo_ok X G (c.fact 29 (f := .glo "_law_in") rfl),
    He.glo_ok X G (c.fact 30 (f := .glo "_law_middle") rfl),
    He.glo_ok X G (c.fact 31 (f := .glo "_law_points") rfl),
    He.glo_ok X G (c.fact 32 (f := .glo "_law_marks") rfl),
    He.glo_ok X G (c.fact 33 (f := .glo "_law_line") rfl),
    He.glo_ok X G (c.fact 34 (f := .glo "_law_worth") rfl),
    He.glo_ok X G (c.fact 35 (f := .glo "_law_holds_at") rfl),
    He.glo_ok X G (c.fact 36 (f := .glo "_law_roots") rfl),
    He.glo_ok X G (c.fact 37 (f := .glo "_law_truth") rfl),
    He.glo_ok X G (c.fact 38 (f := .glo "law") rfl),
    He.glo_ok X G (c.fact 39 (f := .glo "WhereError") rfl),
    He.glo_ok X G (c.fact 40 (f := .glo "NoSpell") rfl),
    He.glo_ok X G (c.fact 41 (f := .glo "NoLine") rfl),
    He.glo_ok X G (c.fact 42 (f := .glo "LackError") rfl),
    He.glo_ok X G (c.fact 43 (f := .glo "NoMoment") rfl),
    He.free_ok X G (c.fact 44 (f := .free "isinstance") rfl),
    He.free_ok X G (c.fact 45 (f := .free "int") rfl),
    He.free_ok X G (c.fact 46 (f := .free "bool") rfl),
    He.free_ok X G (c.fact 47 (f := .free "tuple") rfl),
    He.free_ok X G (c.fact 48 (f := .free "len") rfl),
    He.free_ok X G (c.fact 49 (f := .free "all") rfl),
    He.free_ok X G (c.fact 50 (f := .free "abs") rfl),
    He.free_ok X G (c.fact 51 (f := .free "range") rfl),
    He.free_ok X G (c.fact 52 (f := .free "zip") rfl),
    He.free_ok X G (c.fact 53 (f := .free "max") rfl),
    He.free_ok X G (c.fact 54 (f := .free "min") rfl),
    He.free_ok X G (c.fact 55 (f := .free "repr") rfl),
    He.int_ok X G (c.fact 56 (f := .int "END" 1000000) rfl),
    (He.exc_ok (c.fact 57 (f := .exc "NoLine") rfl)).1,
    (He.exc_ok (c.fact 57 (f := .exc "NoLine") rfl)).2.1,
    (He.exc_ok (c.fact 57 (f := .exc "NoLine") rfl)).2.2.1,
    (He.exc_ok (c.fact 57 (f := .exc "NoLine") rfl)).2.2.2,
    (He.exc_ok (c.fact 58 (f := .exc "NoSpell") rfl)).1,
    (He.exc_ok (c.fact 58 (f := .exc "NoSpell") rfl)).2.1,
    (He.exc_ok (c.fact 58 (f := .exc "NoSpell") rfl)).2.2.1,
    (He.exc_ok (c.fact 58 (f := .exc "NoSpell") rfl)).2.2.2,
    c.def_ 0 (d := dis_whole) rfl,
    c.def_ 1 (d := dis_fraction) rfl,
    c.def_ 2 (d := dlowest) rfl,
    c.def_ 3 (d := dadded) rfl,
    c.def_ 4 (d := dbelow) rfl,
    c.def_ 5 (d := dis_moment) rfl,
    c.def_ 6 (d := dneed_moment) rfl,
    c.def_ 7 (d := dbegin_edge) rfl,
    c.def_ 8 (d := dend_edge) rfl,
    c.def_ 9 (d := dedge_below) rfl,
    c.def_ 10 (d := dis_spell) rfl,
    c.def_ 11 (d := dneed_spell) rfl,
    c.def_ 12 (d := dis_line) rfl,
    c.def_ 13 (d := dis_condition) rfl,
    c.def_ 14 (d := dneed_condition) rfl,
    c.def_ 15 (d := dworth) rfl,
    c.def_ 16 (d := dsigns_of) rfl,
    c.def_ 17 (d := dholds_through) rfl,
    c.def_ 18 (d := dthrough) rfl,
    c.def_ 19 (d := dturned_over) rfl,
    c.def_ 20 (d := dfails_through) rfl,
    c.def_ 21 (d := d_law_pot) rfl,
    c.def_ 22 (d := d_law_take) rfl,
    c.def_ 23 (d := d_law_great) rfl,
    c.def_ 24 (d := d_law_lowest) rfl,
    c.def_ 25 (d := d_law_fraction) rfl,
    c.def_ 26 (d := d_law_moment) rfl,
    c.def_ 27 (d := d_law_less) rfl,
    c.def_ 28 (d := d_law_spell) rfl,
    c.def_ 29 (d := d_law_in) rfl,
    c.def_ 30 (d := d_law_middle) rfl,
    c.def_ 31 (d := d_law_points) rfl,
    c.def_ 32 (d := d_law_marks) rfl,
    c.def_ 33 (d := d_law_line) rfl,
    c.def_ 34 (d := d_law_worth) rfl,
    c.def_ 35 (d := d_law_holds_at) rfl,
    c.def_ 36 (d := d_law_roots) rfl,
    c.def_ 37 (d := d_law_truth) rfl,
    c.def_ 38 (d := dlaw) rfl,
    PySem.W.mg_of X G e0⟩
end K16
end

section
set_option Elab.async false
set_option linter.all false
set_option autoImplicit false
set_option maxRecDepth 100000
set_option maxHeartbeats 4000000
open PySem PySem.Spec PyProof.Rows L2
namespace K16
open MI
noncomputable section
variable {P : Program} {w : World} {K : PySem.W.Frag} {mg : Str → Option Value} {base : Heap}
/-! is_whole -/
theorem scis_whole : FnScope ["thing"] ["thing"] (defScope sis_whole) := ⟨rfl, rfl, rfl, by decide +kernel, rfl, by decide +kernel, by decide +kernel⟩
theorem gis_whole (T : Txt K mg) : Good P w K mg base 1 "is_whole" ["thing"] S_is_whole := by
  obtain ⟨fd, F⟩ := T.F_is_whole
  have bn : Binds K fd ["thing"] [] := F.bindsN fun _ _ _ _ _ _ us hl => match us, hl with | [_], _ => rfl
  refine ⟨_, fd, T.g_is_whole, funD_G (k := 0) F scis_whole fun cdv A outer s H E hr wh => ?_, F.kp, bn⟩
  exact m_seq (m_ret (m_andV (m_isi (T := "int") T.z_isinstance T.z_int (by decide +kernel) (m_var 0)) (m_one (m_notV (m_isi (T := "bool") T.z_isinstance T.z_bool (by decide +kernel) (m_var 0)))))) (m_end)
/-! is_fraction -/
theorem scis_fraction : FnScope ["thing", "over", "under"] ["thing"] (defScope sis_fraction) := ⟨rfl, rfl, rfl, by decide +kernel, rfl, by decide +kernel, by decide +kernel⟩
theorem gis_fraction (T : Txt K mg) : Good P w K mg base 2 "is_fraction" ["thing"] S_is_fraction := by
  obtain ⟨fd, F⟩ := T.F_is_fraction
  have bn : Binds K fd ["thing"] [] := F.bindsN fun _ _ _ _ _ _ us hl => match us, hl with | [_], _ => rfl
  have Gis_whole := gis_whole (P := P) (w := w) (base := base) T
  refine ⟨_, fd, T.g_is_fraction, funD_G (k := 1) F scis_fraction fun cdv A outer s H E hr wh => ?_, F.kp, bn⟩
  exact m_seq (m_ifs (m_w (m_or (m_not (m_test (m_isi (T := "tuple") T.z_isinstance T.z_tuple (by decide +kernel) (m_var 0)))) (m_or1 (m_ne hr.units (m_len T.z_len (m_cons (m_var 0) (m_nil))) (m_int))))) (m_seq (m_ret (m_bl)) (m_end)) (m_end)) (m_seq (m_asg (m_var 0) (m_tgT wh.calm (m_gcons 1 wh.nd (m_gcons 2 wh.nd (m_gnil))))) (m_seq (m_ret (m_andV (m_callG Gis_whole wh hr (by omega) (m_cons (m_var 1) (m_nil))) (m_andV (m_callG Gis_whole wh hr (by omega) (m_cons (m_var 2) (m_nil))) (m_andV (m_geV (m_var 2) (m_int)) (m_one (m_eqV hr.units (m_gcd T.gcd (m_cons (m_var 1) (m_cons (m_var 2) (m_nil)))) (m_int))))))) (m_end)))
/-! lowest -/
theorem sclowest : FnScope ["over", "under", "common"] ["over", "under"] (defScope slowest) := ⟨rfl, rfl, rfl, by decide +kernel, rfl, by decide +kernel, by decide +kernel⟩
theorem glowest (T : Txt K mg) : Good P w K mg base 1 "lowest" ["over", "under"] S_lowest := by
  obtain ⟨fd, F⟩ := T.F_lowest
  have bn : Binds K fd ["over", "under"] [] := F.bindsN fun _ _ _ _ _ _ us hl => match us, hl with | [_, _], _ => rfl
  refine ⟨_, fd, T.g_lowest, funD_G (k := 0) F sclowest fun cdv A outer s H E hr wh => ?_, F.kp, bn⟩
  exact m_seq (m_ifs (m_lt (m_var 1) (m_int)) (m_seq (m_par 0 1 wh (m_cons (m_neg (m_var 0)) (m_cons (m_neg (m_var 1)) (m_nil)))) (m_end)) (m_end)) (m_seq (m_set 2 wh.nd (m_gcd T.gcd (m_cons (m_var 0) (m_cons (m_var 1) (m_nil))))) (m_seq (m_ret (m_tup (m_cons (m_fdiv (m_var 0) (m_var 2)) (m_cons (m_fdiv (m_var 1) (m_var 2)) (m_nil))))) (m_end)))
/-! added -/
theorem scadded : FnScope ["one", "other"] ["one", "other"] (defScope sadded) := ⟨rfl, rfl, rfl, by decide +kernel, rfl, by decide +kernel, by decide +kernel⟩
theorem gadded (T : Txt K mg) : Good P w K mg base 2 "added" ["one", "other"] S_added := by
  obtain ⟨fd, F⟩ := T.F_added
  have bn : Binds K fd ["one", "other"] [] := F.bindsN fun _ _ _ _ _ _ us hl => match us, hl with | [_, _], _ => rfl
  have Glowest := glowest (P := P) (w := w) (base := base) T
  refine ⟨_, fd, T.g_added, funD_G (k := 1) F scadded fun cdv A outer s H E hr wh => ?_, F.kp, bn⟩
  exact m_seq (m_ret (m_callG Glowest wh hr (by omega) (m_cons (m_add (m_mul (m_ix (m_var 0) (m_int)) (m_ix (m_var 1) (m_int))) (m_mul (m_ix (m_var 1) (m_int)) (m_ix (m_var 0) (m_int)))) (m_cons (m_mul (m_ix (m_var 0) (m_int)) (m_ix (m_var 1) (m_int))) (m_nil))))) (m_end)
/-! below -/
theorem scbelow : FnScope ["one", "other"] ["one", "other"] (defScope sbelow) := ⟨rfl, rfl, rfl, by decide +kernel, rfl, by decide +kernel, by decide +kernel⟩
theorem gbelow (T : Txt K mg) : Good P w K mg base 1 "below" ["one", "other"] S_below := by
  obtain ⟨fd, F⟩ := T.F_below
  have bn : Binds K fd ["one", "other"] [] := F.bindsN fun _ _ _ _ _ _ us hl => match us, hl with | [_, _], _ => rfl
  refine ⟨_, fd, T.g_below, funD_G (k := 0) F scbelow fun cdv A outer s H E hr wh => ?_, F.kp, bn⟩
  exact m_seq (m_ret (m_ltV (m_mul (m_ix (m_var 0) (m_int)) (m_ix (m_var 1) (m_int))) (m_mul (m_ix (m_var 1) (m_int)) (m_ix (m_var 0) (m_int))))) (m_end)
/-! is_moment -/
theorem scis_moment : FnScope ["thing", "over", "under"] ["thing"] (defScope sis_moment) := ⟨rfl, rfl, rfl, by decide +kernel, rfl, by decide +kernel, by decide +kernel⟩
theorem gis_moment (T : Txt K mg) : Good P w K mg base 1 "is_moment" ["thing"] S_is_moment := by
  obtain ⟨fd, F⟩ := T.F_is_moment
  have bn : Binds K fd ["thing"] [] := F.bindsN fun _ _ _ _ _ _ us hl => match us, hl with | [_], _ => rfl
  refine ⟨_, fd, T.g_is_moment, funD_G (k := 0) F scis_moment fun cdv A outer s H E hr wh => ?_, F.kp, bn⟩
  exact m_seq (m_ifs (m_w (m_or (m_not (m_test (m_isi (T := "tuple") T.z_isinstance T.z_tuple (by decide +kernel) (m_var 0)))) (m_or1 (m_ne hr.units (m_len T.z_len (m_cons (m_var 0) (m_nil))) (m_int))))) (m_seq (m_ret (m_bl)) (m_end)) (m_end)) (m_seq (m_asg (m_var 0) (m_tgT wh.calm (m_gcons 1 wh.nd (m_gcons 2 wh.nd (m_gnil))))) (m_seq (m_ifs (m_w (m_or (m_not (m_test (m_isi (T := "int") T.z_isinstance T.z_int (by decide +kernel) (m_var 1)))) (m_or (m_not (m_test (m_isi (T := "int") T.z_isinstance T.z_int (by decide +kernel) (m_var 2)))) (m_or (m_isN (m_var 1) (m_bl)) (m_or (m_isN (m_var 1) (m_bl)) (m_or1 (m_isN (m_var 2) (m_bl)))))))) (m_seq (m_ret (m_bl)) (m_end)) (m_end)) (m_seq (m_ret (m_andV (m_geV (m_var 2) (m_int)) (m_andV (m_leLe (m_int) (m_var 1) (m_mul (m_globE T.c_END) (m_var 2))) (m_one (m_eqV hr.units (m_gcd T.gcd (m_cons (m_var 1) (m_cons (m_var 2) (m_nil)))) (m_int)))))) (m_end))))
/-! need_moment -/
theorem scneed_moment : FnScope ["thing"] ["thing"] (defScope sneed_moment) := ⟨rfl, rfl, rfl, by decide +kernel, rfl, by decide +kernel, by decide +kernel⟩
theorem gneed_moment (T : Txt K mg) : Good P w K mg base 2 "need_moment" ["thing"] S_need_moment := by
  obtain ⟨fd, F⟩ := T.F_need_moment
  have bn : Binds K fd ["thing"] [] := F.bindsN fun _ _ _ _ _ _ us hl => match us, hl with | [_], _ => rfl
  have Gis_moment := gis_moment (P := P) (w := w) (base := base) T
  refine ⟨_, fd, T.g_need_moment, funD_G (k := 1) F scneed_moment fun cdv A outer s H E hr wh => ?_, F.kp, bn⟩
  exact m_seq (m_ifs (m_not (m_test (m_callG Gis_moment wh hr (by omega) (m_cons (m_var 0) (m_nil))))) (m_seq (m_deadS) (m_end)) (m_end)) (m_end)
/-! begin_edge -/
theorem scbegin_edge : FnScope ["spell"] ["spell"] (defScope sbegin_edge) := ⟨rfl, rfl, rfl, by decide +kernel, rfl, by decide +kernel, by decide +kernel⟩
theorem gbegin_edge (T : Txt K mg) : Good P w K mg base 1 "begin_edge" ["spell"] S_begin_edge := by
  obtain ⟨fd, F⟩ := T.F_begin_edge
  have bn : Binds K fd ["spell"] [] := F.bindsN fun _ _ _ _ _ _ us hl => match us, hl with | [_], _ => rfl
  refine ⟨_, fd, T.g_begin_edge, funD_G (k := 0) F scbegin_edge fun cdv A outer s H E hr wh => ?_, F.kp, bn⟩
  exact m_seq (m_ret (m_tup (m_cons (m_ix (m_var 0) (m_int)) (m_cons (m_notV (m_ix (m_var 0) (m_int))) (m_nil))))) (m_end)
/-! end_edge -/
theorem scend_edge : FnScope ["spell"] ["spell"] (defScope send_edge) := ⟨rfl, rfl, rfl, by decide +kernel, rfl, by decide +kernel, by decide +kernel⟩
theorem gend_edge (T : Txt K mg) : Good P w K mg base 1 "end_edge" ["spell"] S_end_edge := by
  obtain ⟨fd, F⟩ := T.F_end_edge
  have bn : Binds K fd ["spell"] [] := F.bindsN fun _ _ _ _ _ _ us hl => match us, hl with | [_], _ => rfl
  refine ⟨_, fd, T.g_end_edge, funD_G (k := 0) F scend_edge fun cdv A outer s H E hr wh => ?_, F.kp, bn⟩
  exact m_seq (m_ret (m_tup (m_cons (m_ix (m_var 0) (m_int)) (m_cons (m_ix (m_var 0) (m_int)) (m_nil))))) (m_end)
/-! edge_below -/
theorem scedge_below : FnScope ["edge", "other"] ["edge", "other"] (defScope sedge_below) := ⟨rfl, rfl, rfl, by decide +kernel, rfl, by decide +kernel, by decide +kernel⟩
theorem gedge_below (T : Txt K mg) : Good P w K mg base 2 "edge_below" ["edge", "other"] S_edge_below := by
  obtain ⟨fd, F⟩ := T.F_edge_below
  have bn : Binds K fd ["edge", "other"] [] := F.bindsN fun _ _ _ _ _ _ us hl => match us, hl with | [_, _], _ => rfl
  have Gbelow := gbelow (P := P) (w := w) (base := base) T
  refine ⟨_, fd, T.g_edge_below, funD_G (k := 1) F scedge_below fun cdv A outer s H E hr wh => ?_, F.kp, bn⟩
  exact m_seq (m_ifs (m_eq hr.units (m_ix (m_var 0) (m_int)) (m_ix (m_var 1) (m_int))) (m_seq (m_ret (m_andV (m_ix (m_var 1) (m_int)) (m_one (m_notV (m_ix (m_var 0) (m_int)))))) (m_end)) (m_end)) (m_seq (m_ret (m_callG Gbelow wh hr (by omega) (m_cons (m_ix (m_var 0) (m_int)) (m_cons (m_ix (m_var 1) (m_int)) (m_nil))))) (m_end))
/-! is_spell -/
theorem scis_spell : FnScope ["thing", "begin", "with_begin", "end", "with_end"] ["thing"] (defScope sis_spell) := ⟨rfl, rfl, rfl, by decide +kernel, rfl, by decide +kernel, by decide +kernel⟩
theorem gis_spell (T : Txt K mg) : Good P w K mg base 3 "is_spell" ["thing"] S_is_spell := by
  obtain ⟨fd, F⟩ := T.F_is_spell
  have bn : Binds K fd ["thing"] [] := F.bindsN fun _ _ _ _ _ _ us hl => match us, hl with | [_], _ => rfl
  have Gbegin_edge := gbegin_edge (P := P) (w := w) (base := base) T
  have Gedge_below := gedge_below (P := P) (w := w) (base := base) T
  have Gend_edge := gend_edge (P := P) (w := w) (base := base) T
  have Gis_moment := gis_moment (P := P) (w := w) (base := base) T
  refine ⟨_, fd, T.g_is_spell, funD_G (k := 2) F scis_spell fun cdv A outer s H E hr wh => ?_, F.kp, bn⟩
  exact m_seq (m_ifs (m_w (m_or (m_not (m_test (m_isi (T := "tuple") T.z_isinstance T.z_tuple (by decide +kernel) (m_var 0)))) (m_or1 (m_ne hr.units (m_len T.z_len (m_cons (m_var 0) (m_nil))) (m_int))))) (m_seq (m_ret (m_bl)) (m_end)) (m_end)) (m_seq (m_asg (m_var 0) (m_tgT wh.calm (m_gcons 1 wh.nd (m_gcons 2 wh.nd (m_gcons 3 wh.nd (m_gcons 4 wh.nd (m_gnil))))))) (m_seq (m_ifs (m_w (m_or (m_not (m_test (m_isi (T := "bool") T.z_isinstance T.z_bool (by decide +kernel) (m_var 2)))) (m_or1 (m_not (m_test (m_isi (T := "bool") T.z_isinstance T.z_bool (by decide +kernel) (m_var 4))))))) (m_seq (m_ret (m_bl)) (m_end)) (m_end)) (m_seq (m_ret (m_andV (m_callG Gis_moment wh hr (by omega) (m_cons (m_var 1) (m_nil))) (m_andV (m_callG Gis_moment wh hr (by omega) (m_cons (m_var 3) (m_nil))) (m_one (m_callG Gedge_below wh hr (by omega) (m_cons (m_callG Gbegin_edge wh hr (by omega) (m_cons (m_var 0) (m_nil))) (m_cons (m_callG Gend_edge wh hr (by omega) (m_cons (m_var 0) (m_nil))) (m_nil)))))))) (m_end))))
/-! need_spell -/
theorem scneed_spell : FnScope ["thing"] ["thing"] (defScope sneed_spell) := ⟨rfl, rfl, rfl, by decide +kernel, rfl, by decide +kernel, by decide +kernel⟩
theorem gneed_spell (T : Txt K mg) : Good P w K mg base 4 "need_spell" ["thing"] S_need_spell := by
  obtain ⟨fd, F⟩ := T.F_need_spell
  have bn : Binds K fd ["thing"] [] := F.bindsN fun _ _ _ _ _ _ us hl => match us, hl with | [_], _ => rfl
  have Gis_spell := gis_spell (P := P) (w := w) (base := base) T
  refine ⟨_, fd, T.g_need_spell, funD_G (k := 3) F scneed_spell fun cdv A outer s H E hr wh => ?_, F.kp, bn⟩
  exact m_seq (m_ifs (m_not (m_test (m_callG Gis_spell wh hr (by omega) (m_cons (m_var 0) (m_nil))))) (m_seq (m_raise wh PySem.F.excBase_ValueError T.ex_NoSpell T.g_NoSpell T.kp_NoSpell (raises_own T.sb_NoSpell T.ty_NoSpell)) (m_end)) (m_end)) (m_end)
/-! is_line -/
theorem scis_line : FnScope ["thing", "number"] ["thing"] (defScope sis_line) := ⟨rfl, rfl, rfl, by decide +kernel, rfl, by decide +kernel, by decide +kernel⟩
theorem gis_line (T : Txt K mg) : Good P w K mg base 3 "is_line" ["thing"] S_is_line := by
  obtain ⟨fd, F⟩ := T.F_is_line
  have bn : Binds K fd ["thing"] [] := F.bindsN fun _ _ _ _ _ _ us hl => match us, hl with | [_], _ => rfl
  have Gis_fraction := gis_fraction (P := P) (w := w) (base := base) T
  refine ⟨_, fd, T.g_is_line, funD_G (k := 2) F scis_line fun cdv A outer s H E hr wh => ?_, F.kp, bn⟩
  exact m_seq (m_ifs (m_w (m_or (m_not (m_test (m_isi (T := "tuple") T.z_isinstance T.z_tuple (by decide +kernel) (m_var 0)))) (m_or1 (m_ne hr.units (m_len T.z_len (m_cons (m_var 0) (m_nil))) (m_int))))) (m_seq (m_ret (m_bl)) (m_end)) (m_end)) (m_seq (m_ret (m_all wh.calm T.z_all (m_cons (m_comp wh (m_seqI (m_var 0)) (blk_of (own := [("number", 1)]) (by rfl)) (m_oN 1 wh.nd) (m_t0) (fun _ _ _ _ _ => m_callG Gis_fraction (wh_blk wh) hr (by omega) (m_cons (m_var 1) (m_nil)))) (m_nil)))) (m_end))
/-! is_condition -/
theorem scis_condition : FnScope ["thing"] ["thing"] (defScope sis_condition) := ⟨rfl, rfl, rfl, by decide +kernel, rfl, by decide +kernel, by decide +kernel⟩
theorem gis_condition (T : Txt K mg) : Good P w K mg base 4 "is_condition" ["thing"] S_is_condition := by
  obtain ⟨fd, F⟩ := T.F_is_condition
  have bn : Binds K fd ["thing"] [] := F.bindsN fun _ _ _ _ _ _ us hl => match us, hl with | [_], _ => rfl
  have Gis_line := gis_line (P := P) (w := w) (base := base) T
  refine ⟨_, fd, T.g_is_condition, funD_G (k := 3) F scis_condition fun cdv A outer s H E hr wh => ?_, F.kp, bn⟩
  exact m_seq (m_ifs (m_w (m_or (m_not (m_test (m_isi (T := "tuple") T.z_isinstance T.z_tuple (by decide +kernel) (m_var 0)))) (m_or1 (m_ne hr.units (m_len T.z_len (m_cons (m_var 0) (m_nil))) (m_int))))) (m_seq (m_ret (m_bl)) (m_end)) (m_end)) (m_seq (m_ret (m_andV (m_callG Gis_line wh hr (by omega) (m_cons (m_ix (m_var 0) (m_int)) (m_nil))) (m_one (m_isi (T := "bool") T.z_isinstance T.z_bool (by decide +kernel) (m_ix (m_var 0) (m_int)))))) (m_end))
/-! need_condition -/
theorem scneed_condition : FnScope ["thing"] ["thing"] (defScope sneed_condition) := ⟨rfl, rfl, rfl, by decide +kernel, rfl, by decide +kernel, by decide +kernel⟩
theorem gneed_condition (T : Txt K mg) : Good P w K mg base 5 "need_condition" ["thing"] S_need_condition := by
  obtain ⟨fd, F⟩ := T.F_need_condition
  have bn : Binds K fd ["thing"] [] := F.bindsN fun _ _ _ _ _ _ us hl => match us, hl with | [_], _ => rfl
  have Gis_condition := gis_condition (P := P) (w := w) (base := base) T
  refine ⟨_, fd, T.g_need_condition, funD_G (k := 4) F scneed_condition fun cdv A outer s H E hr wh => ?_, F.kp, bn⟩
  exact m_seq (m_ifs (m_not (m_test (m_callG Gis_condition wh hr (by omega) (m_cons (m_var 0) (m_nil))))) (m_seq (m_raise wh PySem.F.excBase_ValueError T.ex_NoLine T.g_NoLine T.kp_NoLine (raises_own T.sb_NoLine T.ty_NoLine)) (m_end)) (m_end)) (m_end)
/-! worth -/
theorem scworth : FnScope ["line", "moment", "start", "slope"] ["line", "moment"] (defScope sworth) := ⟨rfl, rfl, rfl, by decide +kernel, rfl, by decide +kernel, by decide +kernel⟩
theorem gworth (T : Txt K mg) : Good P w K mg base 4 "worth" ["line", "moment"] S_worth := by
  obtain ⟨fd, F⟩ := T.F_worth
  have bn : Binds K fd ["line", "moment"] [] := F.bindsN fun _ _ _ _ _ _ us hl => match us, hl with | [_, _], _ => rfl
  have Gadded := gadded (P := P) (w := w) (base := base) T
  have Gis_line := gis_line (P := P) (w := w) (base := base) T
  have Glowest := glowest (P := P) (w := w) (base := base) T
  have Gneed_moment := gneed_moment (P := P) (w := w) (base := base) T
  refine ⟨_, fd, T.g_worth, funD_G (k := 3) F scworth fun cdv A outer s H E hr wh => ?_, F.kp, bn⟩
  exact m_seq (m_ifs (m_not (m_test (m_callG Gis_line wh hr (by omega) (m_cons (m_var 0) (m_nil))))) (m_seq (m_raise wh PySem.F.excBase_ValueError T.ex_NoLine T.g_NoLine T.kp_NoLine (raises_own T.sb_NoLine T.ty_NoLine)) (m_end)) (m_end)) (m_seq (m_expr (m_callG Gneed_moment wh hr (by omega) (m_cons (m_var 1) (m_nil)))) (m_seq (m_asg (m_var 0) (m_tgT wh.calm (m_gcons 2 wh.nd (m_gcons 3 wh.nd (m_gnil))))) (m_seq (m_ret (m_callG Gadded wh hr (by omega) (m_cons (m_var 2) (m_cons (m_callG Glowest wh hr (by omega) (m_cons (m_mul (m_ix (m_var 3) (m_int)) (m_ix (m_var 1) (m_int))) (m_cons (m_mul (m_ix (m_var 3) (m_int)) (m_ix (m_var 1) (m_int))) (m_nil)))) (m_nil))))) (m_end))))
/-! signs_of -/
theorem scsigns_of : FnScope ["condition", "start", "start_under", "slope", "slope_under", "above"] ["condition"] (defScope ssigns_of) := ⟨rfl, rfl, rfl, by decide +kernel, rfl, by decide +kernel, by decide +kernel⟩
theorem gsigns_of (T : Txt K mg) : Good P w K mg base 1 "signs_of" ["condition"] S_signs_of := by
  obtain ⟨fd, F⟩ := T.F_signs_of
  have bn : Binds K fd ["condition"] [] := F.bindsN fun _ _ _ _ _ _ us hl => match us, hl with | [_], _ => rfl
  refine ⟨_, fd, T.g_signs_of, funD_G (k := 0) F scsigns_of fun cdv A outer s H E hr wh => ?_, F.kp, bn⟩
  exact m_seq (m_asg (m_var 0) (m_tgG wh.calm (m_ggcons (m_tgG wh.calm (m_ggcons (m_tgT wh.calm (m_gcons 1 wh.nd (m_gcons 2 wh.nd (m_gnil)))) (m_ggcons (m_tgT wh.calm (m_gcons 3 wh.nd (m_gcons 4 wh.nd (m_gnil)))) (m_ggnil)))) (m_ggcons (m_tgN 5 wh.nd) (m_ggnil))))) (m_seq (m_ret (m_tup (m_cons (m_mul (m_var 1) (m_var 4)) (m_cons (m_mul (m_var 3) (m_var 2)) (m_cons (m_var 5) (m_nil)))))) (m_end))
/-! through -/
theorem scthrough : FnScope ["signs", "spell", "start", "slope", "above", "begin", "begin_under", "with_begin", "end", "end_under", "with_end", "first", "last"] ["signs", "spell"] (defScope sthrough) := ⟨rfl, rfl, rfl, by decide +kernel, rfl, by decide +kernel, by decide +kernel⟩
theorem gthrough (T : Txt K mg) : Good P w K mg base 1 "through" ["signs", "spell"] S_through := by
  obtain ⟨fd, F⟩ := T.F_through
  have bn : Binds K fd ["signs", "spell"] [] := F.bindsN fun _ _ _ _ _ _ us hl => match us, hl with | [_, _], _ => rfl
  refine ⟨_, fd, T.g_through, funD_G (k := 0) F scthrough fun cdv A outer s H E hr wh => ?_, F.kp, bn⟩
  exact m_seq (m_asg (m_var 0) (m_tgT wh.calm (m_gcons 2 wh.nd (m_gcons 3 wh.nd (m_gcons 4 wh.nd (m_gnil)))))) (m_seq (m_asg (m_var 1) (m_tgG wh.calm (m_ggcons (m_tgT wh.calm (m_gcons 5 wh.nd (m_gcons 6 wh.nd (m_gnil)))) (m_ggcons (m_tgN 7 wh.nd) (m_ggcons (m_tgT wh.calm (m_gcons 8 wh.nd (m_gcons 9 wh.nd (m_gnil)))) (m_ggcons (m_tgN 10 wh.nd) (m_ggnil))))))) (m_seq (m_par 11 12 wh (m_cons (m_add (m_mul (m_var 2) (m_var 6)) (m_mul (m_var 3) (m_var 5))) (m_cons (m_add (m_mul (m_var 2) (m_var 9)) (m_mul (m_var 3) (m_var 8))) (m_nil)))) (m_seq (m_ifs (m_w (m_or (m_lt (m_var 11) (m_int)) (m_or1 (m_lt (m_var 12) (m_int))))) (m_seq (m_ret (m_bl)) (m_end)) (m_end)) (m_seq (m_ifs (m_not (m_test (m_var 4))) (m_seq (m_ret (m_bl)) (m_end)) (m_end)) (m_seq (m_ifs (m_w (m_and (m_eq hr.units (m_var 11) (m_int)) (m_and1 (m_w (m_or (m_test (m_var 7)) (m_or1 (m_eq hr.units (m_var 12) (m_int)))))))) (m_seq (m_ret (m_bl)) (m_end)) (m_end)) (m_seq (m_ret (m_orV (m_gtV (m_var 12) (m_int)) (m_one (m_notV (m_var 10))))) (m_end)))))))
/-! holds_through -/
theorem scholds_through : FnScope ["condition", "spell"] ["condition", "spell"] (defScope sholds_through) := ⟨rfl, rfl, rfl, by decide +kernel, rfl, by decide +kernel, by decide +kernel⟩
theorem gholds_through (T : Txt K mg) : Good P w K mg base 6 "holds_through" ["condition", "spell"] S_holds_through := by
  obtain ⟨fd, F⟩ := T.F_holds_through
  have bn : Binds K fd ["condition", "spell"] [] := F.bindsN fun _ _ _ _ _ _ us hl => match us, hl with | [_, _], _ => rfl
  have Gneed_condition := gneed_condition (P := P) (w := w) (base := base) T
  have Gneed_spell := gneed_spell (P := P) (w := w) (base := base) T
  have Gsigns_of := gsigns_of (P := P) (w := w) (base := base) T
  have Gthrough := gthrough (P := P) (w := w) (base := base) T
  refine ⟨_, fd, T.g_holds_through, funD_G (k := 5) F scholds_through fun cdv A outer s H E hr wh => ?_, F.kp, bn⟩
  exact m_seq (m_expr (m_callG Gneed_condition wh hr (by omega) (m_cons (m_var 0) (m_nil)))) (m_seq (m_expr (m_callG Gneed_spell wh hr (by omega) (m_cons (m_var 1) (m_nil)))) (m_seq (m_ret (m_callG Gthrough wh hr (by omega) (m_cons (m_callG Gsigns_of wh hr (by omega) (m_cons (m_var 0) (m_nil))) (m_cons (m_var 1) (m_nil))))) (m_end)))
/-! turned_over -/
theorem scturned_over : FnScope ["signs", "start", "slope", "above"] ["signs"] (defScope sturned_over) := ⟨rfl, rfl, rfl, by decide +kernel, rfl, by decide +kernel, by decide +kernel⟩
theorem gturned_over (T : Txt K mg) : Good P w K mg base 1 "turned_over" ["signs"] S_turned_over := by
  obtain ⟨fd, F⟩ := T.F_turned_over
  have bn : Binds K fd ["signs"] [] := F.bindsN fun _ _ _ _ _ _ us hl => match us, hl with | [_], _ => rfl
  refine ⟨_, fd, T.g_turned_over, funD_G (k := 0) F scturned_over fun cdv A outer s H E hr wh => ?_, F.kp, bn⟩
  exact m_seq (m_asg (m_var 0) (m_tgT wh.calm (m_gcons 1 wh.nd (m_gcons 2 wh.nd (m_gcons 3 wh.nd (m_gnil)))))) (m_seq (m_ret (m_tup (m_cons (m_neg (m_var 1)) (m_cons (m_neg (m_var 2)) (m_cons (m_notV (m_var 3)) (m_nil)))))) (m_end))
/-! fails_through -/
theorem scfails_through : FnScope ["condition", "spell"] ["condition", "spell"] (defScope sfails_through) := ⟨rfl, rfl, rfl, by decide +kernel, rfl, by decide +kernel, by decide +kernel⟩
theorem gfails_through (T : Txt K mg) : Good P w K mg base 6 "fails_through" ["condition", "spell"] S_fails_through := by
  obtain ⟨fd, F⟩ := T.F_fails_through
  have bn : Binds K fd ["condition", "spell"] [] := F.bindsN fun _ _ _ _ _ _ us hl => match us, hl with | [_, _], _ => rfl
  have Gneed_condition := gneed_condition (P := P) (w := w) (base := base) T
  have Gneed_spell := gneed_spell (P := P) (w := w) (base := base) T
  have Gsigns_of := gsigns_of (P := P) (w := w) (base := base) T
  have Gthrough := gthrough (P := P) (w := w) (base := base) T
  have Gturned_over := gturned_over (P := P) (w := w) (base := base) T
  refine ⟨_, fd, T.g_fails_through, funD_G (k := 5) F scfails_through fun cdv A outer s H E hr wh => ?_, F.kp, bn⟩
  exact m_seq (m_expr (m_callG Gneed_condition wh hr (by omega) (m_cons (m_var 0) (m_nil)))) (m_seq (m_expr (m_callG Gneed_spell wh hr (by omega) (m_cons (m_var 1) (m_nil)))) (m_seq (m_ret (m_callG Gthrough wh hr (by omega) (m_cons (m_callG Gturned_over wh hr (by omega) (m_cons (m_callG Gsigns_of wh hr (by omega) (m_cons (m_var 0) (m_nil))) (m_nil))) (m_cons (m_var 1) (m_nil))))) (m_end)))
/-! _law_pot -/
theorem sc_law_pot : FnScope ["script", "k", "cell"] ["script", "k"] (defScope s_law_pot) := ⟨rfl, rfl, rfl, by decide +kernel, rfl, by decide +kernel, by decide +kernel⟩
theorem g_law_pot (T : Txt K mg) : Good P w K mg base 1 "_law_pot" ["script", "k"] S__law_pot := by
  obtain ⟨fd, F⟩ := T.F__law_pot
  have bn : Binds K fd ["script", "k"] [] := F.bindsN fun _ _ _ _ _ _ us hl => match us, hl with | [_, _], _ => rfl
  refine ⟨_, fd, T.g__law_pot, funD_G (k := 0) F sc_law_pot fun cdv A outer s H E hr wh => ?_, F.kp, bn⟩
  exact m_seq (m_set 2 wh.nd (m_int)) (m_seq (m_ifs (m_lt (m_var 1) (m_len T.z_len (m_cons (m_var 0) (m_nil)))) (m_seq (m_set 2 wh.nd (m_mod (m_abs T.z_abs (m_cons (m_ix (m_var 0) (m_var 1)) (m_nil))) (m_pow (m_pow (m_int) (m_int)) (m_int)))) (m_end)) (m_end)) (m_seq (m_ret (m_lst (m_cons (m_mul (m_var 2) (m_intc T.z_int (m_cons (m_geV (m_var 2) (m_pow (m_int) (m_int))) (m_nil)))) (m_cons (m_mod (m_pow (m_add (m_add (m_mod (m_var 2) (m_int)) (m_mul (m_int) (m_var 1))) (m_int)) (m_int)) (m_int)) (m_cons (m_int) (m_nil)))))) (m_end)))
/-! _law_take -/
theorem sc_law_take : FnScope ["pot", "many", "found", "one", "other"] ["pot", "many"] (defScope s_law_take) := ⟨rfl, rfl, rfl, by decide +kernel, rfl, by decide +kernel, by decide +kernel⟩
theorem g_law_take (T : Txt K mg) : Good P w K mg base 1 "_law_take" ["pot", "many"] S__law_take := by
  obtain ⟨fd, F⟩ := T.F__law_take
  have bn : Binds K fd ["pot", "many"] [] := F.bindsN fun _ _ _ _ _ _ us hl => match us, hl with | [_, _], _ => rfl
  refine ⟨_, fd, T.g__law_take, funD_G (k := 0) F sc_law_take fun cdv A outer s H E hr wh => ?_, F.kp, bn⟩
  exact m_seq (m_ifs (m_gt (m_ix (m_var 0) (m_int)) (m_int)) (m_seq (m_set 2 wh.nd (m_mod (m_ix (m_var 0) (m_int)) (m_var 1))) (m_seq (m_put (m_fdiv (m_ix (m_var 0) (m_int)) (m_var 1)) (m_var 0) (m_int) (fun _ => rfl)) (m_seq (m_ret (m_var 2)) (m_end)))) (m_end)) (m_seq (m_put (m_add (m_ix (m_var 0) (m_int)) (m_int)) (m_var 0) (m_int) (fun _ => rfl)) (m_seq (m_set 3 wh.nd (m_mod (m_pow (m_add (m_ix (m_var 0) (m_int)) (m_mul (m_int) (m_ix (m_var 0) (m_int)))) (m_int)) (m_int))) (m_seq (m_set 4 wh.nd (m_mod (m_pow (m_add (m_add (m_var 3) (m_mod (m_ix (m_var 0) (m_int)) (m_int))) (m_mul (m_int) (m_ix (m_var 0) (m_int)))) (m_int)) (m_int))) (m_seq (m_ret (m_mod (m_fdiv (m_var 4) (m_int)) (m_var 1))) (m_end)))))
/-! _law_great -/
theorem sc_law_great : FnScope ["pot", "many", "parts", "turn"] ["pot", "many"] (defScope s_law_great) := ⟨rfl, rfl, rfl, by decide +kernel, rfl, by decide +kernel, by decide +kernel⟩
theorem g_law_great (T : Txt K mg) : Good P w K mg base 2 "_law_great" ["pot", "many"] S__law_great_2 := by
  obtain ⟨fd, F⟩ := T.F__law_great
  have bn : Binds K fd ["pot", "many"] [] := F.bindsN fun _ _ _ _ _ _ us hl => match us, hl with | [_, _], _ => rfl
  have G_law_take := g_law_take (P := P) (w := w) (base := base) T
  refine ⟨_, fd, T.g__law_great, funD_G (k := 1) F sc_law_great fun cdv A outer s H E hr wh => ?_, F.kp, bn⟩
  exact m_seq (m_ifs (m_lt (m_var 1) (m_pow (m_int) (m_int))) (m_seq (m_ret (m_callG G_law_take wh hr (by omega) (m_cons (m_var 0) (m_cons (m_var 1) (m_nil))))) (m_end)) (m_end)) (m_seq (m_setC 2 wh (m_range T.z_range (m_cons (m_int) (m_nil))) (blk_of (own := [("turn", 3)]) (by rfl)) (m_oN 3 wh.nd) (m_t0) (fun _ _ _ _ _ => m_callG G_law_take (wh_blk wh) hr (by omega) (m_cons (m_var 0) (m_cons (m_pow (m_int) (m_int)) (m_nil)))) (by rfl)) (m_seq (m_ret (m_mod (m_add (m_add (m_mul (m_ix (m_var 2) (m_int)) (m_pow (m_int) (m_int))) (m_mul (m_ix (m_var 2) (m_int)) (m_pow (m_int) (m_int)))) (m_ix (m_var 2) (m_int))) (m_var 1))) (m_end)))
/-! _law_lowest -/
theorem sc_law_lowest : FnScope ["over", "under", "one", "other"] ["over", "under"] (defScope s_law_lowest) := ⟨rfl, rfl, rfl, by decide +kernel, rfl, by decide +kernel, by decide +kernel⟩
theorem g_law_lowest (T : Txt K mg) : Good P w K mg base 1 "_law_lowest" ["over", "under"] S__law_lowest := by
  obtain ⟨fd, F⟩ := T.F__law_lowest
  have bn : Binds K fd ["over", "under"] [] := F.bindsN fun _ _ _ _ _ _ us hl => match us, hl with | [_, _], _ => rfl
  refine ⟨_, fd, T.g__law_lowest, funD_G (k := 0) F sc_law_lowest fun cdv A outer s H E hr wh => ?_, F.kp, bn⟩
  exact m_seq (m_par 2 3 wh (m_cons (m_abs T.z_abs (m_cons (m_var 0) (m_nil))) (m_cons (m_var 1) (m_nil)))) (m_seq (m_while wh (m_ne hr.units (m_var 3) (m_int)) (m_seq (m_par 2 3 wh (m_cons (m_var 3) (m_cons (m_mod (m_var 2) (m_var 3)) (m_nil)))) (m_end))) (m_seq (m_ret (m_tup (m_cons (m_fdiv (m_var 0) (m_var 2)) (m_cons (m_fdiv (m_var 1) (m_var 2)) (m_nil))))) (m_end)))
/-! _law_fraction -/
theorem sc_law_fraction : FnScope ["pot", "way", "top"] ["pot"] (defScope s_law_fraction) := ⟨rfl, rfl, rfl, by decide +kernel, rfl, by decide +kernel, by decide +kernel⟩
theorem g_law_fraction (T : Txt K mg) : Good P w K mg base 3 "_law_fraction" ["pot"] S__law_fraction_2 := by
  obtain ⟨fd, F⟩ := T.F__law_fraction
  have bn : Binds K fd ["pot"] [] := F.bindsN fun _ _ _ _ _ _ us hl => match us, hl with | [_], _ => rfl
  have G_law_great := g_law_great (P := P) (w := w) (base := base) T
  have G_law_lowest := g_law_lowest (P := P) (w := w) (base := base) T
  have G_law_take := g_law_take (P := P) (w := w) (base := base) T
  refine ⟨_, fd, T.g__law_fraction, funD_G (k := 2) F sc_law_fraction fun cdv A outer s H E hr wh => ?_, F.kp, bn⟩
  exact m_seq (m_set 1 wh.nd (m_callG G_law_take wh hr (by omega) (m_cons (m_var 0) (m_cons (m_int) (m_nil))))) (m_seq (m_set 2 wh.nd (m_ix (m_lst (m_cons (m_int) (m_cons (m_int) (m_cons (m_int) (m_cons (m_int) (m_cons (m_pow (m_int) (m_int)) (m_cons (m_pow (m_int) (m_int)) (m_nil)))))))) (m_var 1))) (m_seq (m_ret (m_callG G_law_lowest wh hr (by omega) (m_cons (m_sub (m_callG G_law_great wh hr (by omega) (m_cons (m_var 0) (m_cons (m_add (m_mul (m_int) (m_var 2)) (m_int)) (m_nil)))) (m_var 2)) (m_cons (m_add (m_int) (m_callG G_law_great wh hr (by omega) (m_cons (m_var 0) (m_cons (m_ix (m_lst (m_cons (m_int) (m_cons (m_int) (m_cons (m_int) (m_cons (m_int) (m_cons (m_pow (m_int) (m_int)) (m_cons (m_int) (m_nil)))))))) (m_var 1)) (m_nil))))) (m_nil))))) (m_end)))
/-! _law_moment -/
theorem sc_law_moment : FnScope ["pot", "top", "way", "under"] ["pot", "top"] (defScope s_law_moment) := ⟨rfl, rfl, rfl, by decide +kernel, rfl, by decide +kernel, by decide +kernel⟩
theorem g_law_moment (T : Txt K mg) : Good P w K mg base 3 "_law_moment" ["pot", "top"] S__law_moment_2 := by
  obtain ⟨fd, F⟩ := T.F__law_moment
  have bn : Binds K fd ["pot", "top"] [] := F.bindsN fun _ _ _ _ _ _ us hl => match us, hl with | [_, _], _ => rfl
  have G_law_great := g_law_great (P := P) (w := w) (base := base) T
  have G_law_lowest := g_law_lowest (P := P) (w := w) (base := base) T
  have G_law_take := g_law_take (P := P) (w := w) (base := base) T
  refine ⟨_, fd, T.g__law_moment, funD_G (k := 2) F sc_law_moment fun cdv A outer s H E hr wh => ?_, F.kp, bn⟩
  exact m_seq (m_set 2 wh.nd (m_callG G_law_take wh hr (by omega) (m_cons (m_var 0) (m_cons (m_int) (m_nil))))) (m_seq (m_ifs (m_eq hr.units (m_var 2) (m_int)) (m_seq (m_ret (m_ix (m_lst (m_cons (m_tup (m_cons (m_int) (m_cons (m_int) (m_nil)))) (m_cons (m_tup (m_cons (m_var 1) (m_cons (m_int) (m_nil)))) (m_nil)))) (m_callG G_law_take wh hr (by omega) (m_cons (m_var 0) (m_cons (m_int) (m_nil)))))) (m_end)) (m_end)) (m_seq (m_set 3 wh.nd (m_add (m_int) (m_callG G_law_great wh hr (by omega) (m_cons (m_var 0) (m_cons (m_ix (m_lst (m_cons (m_int) (m_cons (m_int) (m_cons (m_int) (m_cons (m_int) (m_cons (m_int) (m_cons (m_int) (m_cons (m_pow (m_int) (m_int)) (m_nil))))))))) (m_sub (m_var 2) (m_int))) (m_nil)))))) (m_seq (m_ret (m_callG G_law_lowest wh hr (by omega) (m_cons (m_callG G_law_great wh hr (by omega) (m_cons (m_var 0) (m_cons (m_add (m_mul (m_var 1) (m_var 3)) (m_int)) (m_nil)))) (m_cons (m_var 3) (m_nil))))) (m_end))))
/-! _law_less -/
theorem sc_law_less : FnScope ["one", "other"] ["one", "other"] (defScope s_law_less) := ⟨rfl, rfl, rfl, by decide +kernel, rfl, by decide +kernel, by decide +kernel⟩
theorem g_law_less (T : Txt K mg) : Good P w K mg base 1 "_law_less" ["one", "other"] S__law_less := by
  obtain ⟨fd, F⟩ := T.F__law_less
  have bn : Binds K fd ["one", "other"] [] := F.bindsN fun _ _ _ _ _ _ us hl => match us, hl with | [_, _], _ => rfl
  refine ⟨_, fd, T.g__law_less, funD_G (k := 0) F sc_law_less fun cdv A outer s H E hr wh => ?_, F.kp, bn⟩
  exact m_seq (m_ret (m_ltV (m_mul (m_ix (m_var 0) (m_int)) (m_ix (m_var 1) (m_int))) (m_mul (m_ix (m_var 1) (m_int)) (m_ix (m_var 0) (m_int))))) (m_end)
/-! _law_spell -/
theorem sc_law_spell : FnScope ["pot", "top", "one", "other"] ["pot", "top"] (defScope s_law_spell) := ⟨rfl, rfl, rfl, by decide +kernel, rfl, by decide +kernel, by decide +kernel⟩
theorem g_law_spell (T : Txt K mg) : Good P w K mg base 4 "_law_spell" ["pot", "top"] S__law_spell := by
  obtain ⟨fd, F⟩ := T.F__law_spell
  have bn : Binds K fd ["pot", "top"] [] := F.bindsN fun _ _ _ _ _ _ us hl => match us, hl with | [_, _], _ => rfl
  have G_law_less := g_law_less (P := P) (w := w) (base := base) T
  have G_law_moment := g_law_moment (P := P) (w := w) (base := base) T
  have G_law_take := g_law_take (P := P) (w := w) (base := base) T
  refine ⟨_, fd, T.g__law_spell, funD_G (k := 3) F sc_law_spell fun cdv A outer s H E hr wh => ?_, F.kp, bn⟩
  exact m_seq (m_par 2 3 wh (m_cons (m_callG G_law_moment wh hr (by omega) (m_cons (m_var 0) (m_cons (m_var 1) (m_nil)))) (m_cons (m_callG G_law_moment wh hr (by omega) (m_cons (m_var 0) (m_cons (m_var 1) (m_nil)))) (m_nil)))) (m_seq (m_ifs (m_test (m_callG G_law_less wh hr (by omega) (m_cons (m_var 3) (m_cons (m_var 2) (m_nil))))) (m_seq (m_par 2 3 wh (m_cons (m_var 3) (m_cons (m_var 2) (m_nil)))) (m_end)) (m_end)) (m_seq (m_ifs (m_w (m_or (m_eq hr.units (m_var 2) (m_var 3)) (m_or1 (m_eq hr.units (m_callG G_law_take wh hr (by omega) (m_cons (m_var 0) (m_cons (m_int) (m_nil)))) (m_int))))) (m_seq (m_ret (m_tup (m_cons (m_var 2) (m_cons (m_bl) (m_cons (m_var 2) (m_cons (m_bl) (m_nil))))))) (m_end)) (m_end)) (m_seq (m_ret (m_tup (m_cons (m_var 2) (m_cons (m_eqV hr.units (m_callG G_law_take wh hr (by omega) (m_cons (m_var 0) (m_cons (m_int) (m_nil)))) (m_int)) (m_cons (m_var 3) (m_cons (m_eqV hr.units (m_callG G_law_take wh hr (by omega) (m_cons (m_var 0) (m_cons (m_int) (m_nil)))) (m_int)) (m_nil))))))) (m_end))))
/-! _law_in -/
theorem sc_law_in : FnScope ["span", "t", "begin", "with_begin", "end", "with_end"] ["span", "t"] (defScope s_law_in) := ⟨rfl, rfl, rfl, by decide +kernel, rfl, by decide +kernel, by decide +kernel⟩
theorem g_law_in (T : Txt K mg) : Good P w K mg base 2 "_law_in" ["span", "t"] S__law_in := by
  obtain ⟨fd, F⟩ := T.F__law_in
  have bn : Binds K fd ["span", "t"] [] := F.bindsN fun _ _ _ _ _ _ us hl => match us, hl with | [_, _], _ => rfl
  have G_law_less := g_law_less (P := P) (w := w) (base := base) T
  refine ⟨_, fd, T.g__law_in, funD_G (k := 1) F sc_law_in fun cdv A outer s H E hr wh => ?_, F.kp, bn⟩
  exact m_seq (m_asg (m_var 0) (m_tgT wh.calm (m_gcons 2 wh.nd (m_gcons 3 wh.nd (m_gcons 4 wh.nd (m_gcons 5 wh.nd (m_gnil))))))) (m_seq (m_ifs (m_w (m_or (m_test (m_callG G_law_less wh hr (by omega) (m_cons (m_var 1) (m_cons (m_var 2) (m_nil))))) (m_or1 (m_test (m_callG G_law_less wh hr (by omega) (m_cons (m_var 4) (m_cons (m_var 1) (m_nil)))))))) (m_seq (m_ret (m_bl)) (m_end)) (m_end)) (m_seq (m_ret (m_andV (m_orV (m_var 3) (m_one (m_neV hr.units (m_var 1) (m_var 2)))) (m_one (m_orV (m_var 5) (m_one (m_neV hr.units (m_var 1) (m_var 4))))))) (m_end)))
/-! _law_middle -/
theorem sc_law_middle : FnScope ["one", "other"] ["one", "other"] (defScope s_law_middle) := ⟨rfl, rfl, rfl, by decide +kernel, rfl, by decide +kernel, by decide +kernel⟩
theorem g_law_middle (T : Txt K mg) : Good P w K mg base 2 "_law_middle" ["one", "other"] S__law_middle := by
  obtain ⟨fd, F⟩ := T.F__law_middle
  have bn : Binds K fd ["one", "other"] [] := F.bindsN fun _ _ _ _ _ _ us hl => match us, hl with | [_, _], _ => rfl
  have G_law_lowest := g_law_lowest (P := P) (w := w) (base := base) T
  refine ⟨_, fd, T.g__law_middle, funD_G (k := 1) F sc_law_middle fun cdv A outer s H E hr wh => ?_, F.kp, bn⟩
  exact m_seq (m_ret (m_callG G_law_lowest wh hr (by omega) (m_cons (m_add (m_mul (m_ix (m_var 0) (m_int)) (m_ix (m_var 1) (m_int))) (m_mul (m_ix (m_var 1) (m_int)) (m_ix (m_var 0) (m_int)))) (m_cons (m_mul (m_mul (m_int) (m_ix (m_var 0) (m_int))) (m_ix (m_var 1) (m_int))) (m_nil))))) (m_end)
/-! _law_points -/
theorem sc_law_points : FnScope ["time", "roots", "found", "root", "at"] ["time", "roots"] (defScope s_law_points) := ⟨rfl, rfl, rfl, by decide +kernel, rfl, by decide +kernel, by decide +kernel⟩
theorem g_law_points (T : Txt K mg) : Good P w K mg base 2 "_law_points" ["time", "roots"] S__law_points := by
  obtain ⟨fd, F⟩ := T.F__law_points
  have bn : Binds K fd ["time", "roots"] [] := F.bindsN fun _ _ _ _ _ _ us hl => match us, hl with | [_, _], _ => rfl
  have G_law_less := g_law_less (P := P) (w := w) (base := base) T
  refine ⟨_, fd, T.g__law_points, funD_G (k := 1) F sc_law_points fun cdv A outer s H E hr wh => ?_, F.kp, bn⟩
  exact m_seq (m_set 2 wh.nd (m_lst (m_cons (m_ix (m_var 0) (m_int)) (m_nil)))) (m_seq (m_for wh (m_seqI (m_var 1)) (m_tgN 3 wh.nd) (m_seq (m_ifs (m_w (m_and (m_notIn (room65 hr) (m_var 3) (m_var 2)) (m_and (m_test (m_callG G_law_less wh hr (by omega) (m_cons (m_ix (m_var 0) (m_int)) (m_cons (m_var 3) (m_nil))))) (m_and1 (m_test (m_callG G_law_less wh hr (by omega) (m_cons (m_var 3) (m_cons (m_ix (m_var 0) (m_int)) (m_nil))))))))) (m_seq (m_set 4 wh.nd (m_int)) (m_seq (m_while wh (m_w (m_and (m_lt (m_var 4) (m_len T.z_len (m_cons (m_var 2) (m_nil)))) (m_and1 (m_test (m_callG G_law_less wh hr (by omega) (m_cons (m_ix (m_var 2) (m_var 4)) (m_cons (m_var 3) (m_nil)))))))) (m_seq (m_set 4 wh.nd (m_add (m_var 4) (m_int))) (m_end))) (m_seq (m_expr (m_ins (m_var 2) (m_var 4) (m_var 3))) (m_end)))) (m_end)) (m_end))) (m_seq (m_ret (m_add (m_var 2) (m_mul (m_lst (m_cons (m_ix (m_var 0) (m_int)) (m_nil))) (m_intc T.z_int (m_cons (m_neV hr.units (m_ix (m_var 0) (m_int)) (m_ix (m_var 0) (m_int))) (m_nil)))))) (m_end)))
/-! _law_marks -/
theorem sc_law_marks : FnScope ["time", "roots", "points", "found", "point", "one", "other"] ["time", "roots"] (defScope s_law_marks) := ⟨rfl, rfl, rfl, by decide +kernel, rfl, by decide +kernel, by decide +kernel⟩
theorem g_law_marks (T : Txt K mg) : Good P w K mg base 3 "_law_marks" ["time", "roots"] S__law_marks := by
  obtain ⟨fd, F⟩ := T.F__law_marks
  have bn : Binds K fd ["time", "roots"] [] := F.bindsN fun _ _ _ _ _ _ us hl => match us, hl with | [_, _], _ => rfl
  have G_law_in := g_law_in (P := P) (w := w) (base := base) T
  have G_law_middle := g_law_middle (P := P) (w := w) (base := base) T
  have G_law_points := g_law_points (P := P) (w := w) (base := base) T
  refine ⟨_, fd, T.g__law_marks, funD_G (k := 2) F sc_law_marks fun cdv A outer s H E hr wh => ?_, F.kp, bn⟩
  exact m_seq (m_set 2 wh.nd (m_callG G_law_points wh hr (by omega) (m_cons (m_var 0) (m_cons (m_var 1) (m_nil))))) (m_seq (m_setC 3 wh (m_seqI (m_var 2)) (blk_of (own := [("point", 4)]) (by rfl)) (m_oN 4 wh.nd) (m_t1 (fun _ _ _ _ _ => m_test (m_callG G_law_in (wh_blk wh) hr (by omega) (m_cons (m_var 0) (m_cons (m_var 4) (m_nil)))))) (fun _ _ _ _ _ => m_var 4) (by rfl)) (m_seq (m_ret (m_add (m_var 3) (m_comp wh (m_zip T.z_zip (m_cons (m_var 2) (m_cons (m_cut (m_var 2) (m_oso (m_int)) (m_ono)) (m_nil)))) (blk_of (own := [("one", 5), ("other", 6)]) (by rfl)) (m_oT2 5 6 wh.nd wh.calm) (m_t0) (fun _ _ _ _ _ => m_callG G_law_middle (wh_blk wh) hr (by omega) (m_cons (m_var 5) (m_cons (m_var 6) (m_nil))))))) (m_end)))
/-! _law_line -/
theorem sc_law_line : FnScope ["pot", "way", "pace", "one", "other"] ["pot"] (defScope s_law_line) := ⟨rfl, rfl, rfl, by decide +kernel, rfl, by decide +kernel, by decide +kernel⟩
theorem g_law_line (T : Txt K mg) : Good P w K mg base 4 "_law_line" ["pot"] S__law_line := by
  obtain ⟨fd, F⟩ := T.F__law_line
  have bn : Binds K fd ["pot"] [] := F.bindsN fun _ _ _ _ _ _ us hl => match us, hl with | [_], _ => rfl
  have G_law_fraction := g_law_fraction (P := P) (w := w) (base := base) T
  have G_law_take := g_law_take (P := P) (w := w) (base := base) T
  refine ⟨_, fd, T.g__law_line, funD_G (k := 3) F sc_law_line fun cdv A outer s H E hr wh => ?_, F.kp, bn⟩
  exact m_seq (m_set 1 wh.nd (m_callG G_law_take wh hr (by omega) (m_cons (m_var 0) (m_cons (m_int) (m_nil))))) (m_seq (m_ifs (m_lt (m_var 1) (m_int)) (m_seq (m_set 2 wh.nd (m_ix (m_lst (m_cons (m_int) (m_cons (m_int) (m_cons (m_neg (m_int)) (m_cons (m_int) (m_cons (m_neg (m_int)) (m_cons (m_int) (m_cons (m_neg (m_int)) (m_nil))))))))) (m_callG G_law_take wh hr (by omega) (m_cons (m_var 0) (m_cons (m_int) (m_nil)))))) (m_seq (m_ret (m_tup (m_cons (m_tup (m_cons (m_add (m_sub (m_int) (m_mul (m_var 2) (m_callG G_law_take wh hr (by omega) (m_cons (m_var 0) (m_cons (m_int) (m_nil)))))) (m_ix (m_lst (m_cons (m_int) (m_cons (m_int) (m_cons (m_int) (m_nil))))) (m_callG G_law_take wh hr (by omega) (m_cons (m_var 0) (m_cons (m_int) (m_nil)))))) (m_cons (m_int) (m_nil)))) (m_cons (m_tup (m_cons (m_var 2) (m_cons (m_int) (m_nil)))) (m_nil))))) (m_end))) (m_end)) (m_seq (m_par 3 4 wh (m_cons (m_callG G_law_fraction wh hr (by omega) (m_cons (m_var 0) (m_nil))) (m_cons (m_callG G_law_fraction wh hr (by omega) (m_cons (m_var 0) (m_nil))) (m_nil)))) (m_seq (m_ret (m_tup (m_cons (m_var 3) (m_cons (m_ix (m_lst (m_cons (m_tup (m_cons (m_int) (m_cons (m_int) (m_nil)))) (m_cons (m_var 4) (m_nil)))) (m_intc T.z_int (m_cons (m_gtV (m_var 1) (m_int)) (m_nil)))) (m_nil))))) (m_end))))
/-! _law_worth -/
theorem sc_law_worth : FnScope ["line", "t", "a", "c", "b", "d"] ["line", "t"] (defScope s_law_worth) := ⟨rfl, rfl, rfl, by decide +kernel, rfl, by decide +kernel, by decide +kernel⟩
theorem g_law_worth (T : Txt K mg) : Good P w K mg base 2 "_law_worth" ["line", "t"] S__law_worth := by
  obtain ⟨fd, F⟩ := T.F__law_worth
  have bn : Binds K fd ["line", "t"] [] := F.bindsN fun _ _ _ _ _ _ us hl => match us, hl with | [_, _], _ => rfl
  have G_law_lowest := g_law_lowest (P := P) (w := w) (base := base) T
  refine ⟨_, fd, T.g__law_worth, funD_G (k := 1) F sc_law_worth fun cdv A outer s H E hr wh => ?_, F.kp, bn⟩
  exact m_seq (m_asg (m_var 0) (m_tgG wh.calm (m_ggcons (m_tgT wh.calm (m_gcons 2 wh.nd (m_gcons 3 wh.nd (m_gnil)))) (m_ggcons (m_tgT wh.calm (m_gcons 4 wh.nd (m_gcons 5 wh.nd (m_gnil)))) (m_ggnil))))) (m_seq (m_ret (m_callG G_law_lowest wh hr (by omega) (m_cons (m_add (m_mul (m_mul (m_var 2) (m_var 5)) (m_ix (m_var 1) (m_int))) (m_mul (m_mul (m_var 4) (m_ix (m_var 1) (m_int))) (m_var 3))) (m_cons (m_mul (m_mul (m_var 3) (m_var 5)) (m_ix (m_var 1) (m_int))) (m_nil))))) (m_end))
/-! _law_holds_at -/
theorem sc_law_holds_at : FnScope ["condition", "t", "over"] ["condition", "t"] (defScope s_law_holds_at) := ⟨rfl, rfl, rfl, by decide +kernel, rfl, by decide +kernel, by decide +kernel⟩
theorem g_law_holds_at (T : Txt K mg) : Good P w K mg base 3 "_law_holds_at" ["condition", "t"] S__law_holds_at := by
  obtain ⟨fd, F⟩ := T.F__law_holds_at
  have bn : Binds K fd ["condition", "t"] [] := F.bindsN fun _ _ _ _ _ _ us hl => match us, hl with | [_, _], _ => rfl
  have G_law_worth := g_law_worth (P := P) (w := w) (base := base) T
  refine ⟨_, fd, T.g__law_holds_at, funD_G (k := 2) F sc_law_holds_at fun cdv A outer s H E hr wh => ?_, F.kp, bn⟩
  exact m_seq (m_set 2 wh.nd (m_ix (m_callG G_law_worth wh hr (by omega) (m_cons (m_ix (m_var 0) (m_int)) (m_cons (m_var 1) (m_nil)))) (m_int))) (m_seq (m_ret (m_orV (m_gtV (m_var 2) (m_int)) (m_one (m_andV (m_eqV hr.units (m_var 2) (m_int)) (m_one (m_notV (m_ix (m_var 0) (m_int)))))))) (m_end))
/-! _law_roots -/
theorem sc_law_roots : FnScope ["conditions", "found", "line", "above", "a", "c", "b", "d"] ["conditions"] (defScope s_law_roots) := ⟨rfl, rfl, rfl, by decide +kernel, rfl, by decide +kernel, by decide +kernel⟩
theorem g_law_roots (T : Txt K mg) : Good P w K mg base 2 "_law_roots" ["conditions"] S__law_roots := by
  obtain ⟨fd, F⟩ := T.F__law_roots
  have bn : Binds K fd ["conditions"] [] := F.bindsN fun _ _ _ _ _ _ us hl => match us, hl with | [_], _ => rfl
  have G_law_lowest := g_law_lowest (P := P) (w := w) (base := base) T
  refine ⟨_, fd, T.g__law_roots, funD_G (k := 1) F sc_law_roots fun cdv A outer s H E hr wh => ?_, F.kp, bn⟩
  exact m_seq (m_set 1 wh.nd (m_lst (m_nil))) (m_seq (m_for wh (m_seqI (m_var 0)) (m_tgT wh.calm (m_gcons 2 wh.nd (m_gcons 3 wh.nd (m_gnil)))) (m_seq (m_asg (m_var 2) (m_tgG wh.calm (m_ggcons (m_tgT wh.calm (m_gcons 4 wh.nd (m_gcons 5 wh.nd (m_gnil)))) (m_ggcons (m_tgT wh.calm (m_gcons 6 wh.nd (m_gcons 7 wh.nd (m_gnil)))) (m_ggnil))))) (m_seq (m_ifs (m_ne hr.units (m_var 6) (m_int)) (m_seq (m_expr (m_app (m_var 1) (m_if (m_gt (m_var 6) (m_int)) (m_callG G_law_lowest wh hr (by omega) (m_cons (m_sub (m_int) (m_mul (m_var 4) (m_var 7))) (m_cons (m_mul (m_var 6) (m_var 5)) (m_nil)))) (m_callG G_law_lowest wh hr (by omega) (m_cons (m_mul (m_var 4) (m_var 7)) (m_cons (m_sub (m_int) (m_mul (m_var 6) (m_var 5))) (m_nil))))))) (m_end)) (m_end)) (m_end)))) (m_seq (m_ret (m_var 1)) (m_end)))
/-! _law_truth -/
theorem sc_law_truth : FnScope ["found", "due"] ["found", "due"] (defScope s_law_truth) := ⟨rfl, rfl, rfl, by decide +kernel, rfl, by decide +kernel, by decide +kernel⟩
def b_law_truth : Ss := sSeq (sRet (eAnd (eIsi "bool" (eV 0)) (eOp (dEqs false) (eV 0) (eV 1)))) (sEnd)
def f_law_truth : Sf := ofBody 2 0 b_law_truth
theorem g_law_truth (T : Txt K mg) : Good P w K mg base 1 "_law_truth" ["found", "due"] f_law_truth := by
  obtain ⟨fd, F⟩ := T.F__law_truth
  have bn : Binds K fd ["found", "due"] [] := F.bindsN fun _ _ _ _ _ _ us hl => match us, hl with | [_, _], _ => rfl
  refine ⟨_, fd, T.g__law_truth, funD_G (k := 0) F sc_law_truth fun cdv A outer s H E hr wh => ?_, F.kp, bn⟩
  exact m_seq (m_ret (m_andV (m_isi (T := "bool") T.z_isinstance T.z_bool (by decide +kernel) (m_var 0)) (m_one (m_eqV hr.units (m_var 0) (m_var 1))))) (m_end)
def L0 : Ss := sSeq (sAsg (eCall 2 S__law_pot (aCons (eV 0) (aCons (eV 1) (aNil)))) (tgN 2)) (sSeq (sAsg (eTup (aCons (eCall 1 S__law_line (aCons (eV 2) (aNil))) (aCons (eOp (dEqs false) (eCall 2 S__law_take (aCons (eV 2) (aCons (eK (.int 2)) (aNil)))) (eK (.int 0))) (aNil)))) (tgN 3)) (sSeq (sAsg (eCall 2 S__law_spell (aCons (eV 2) (aCons (eOp dIx (eLst (aCons (eK (.int 12)) (aCons (eOp dPow (eK (.int 10)) (eK (.int 6))) (aNil)))) (eBi gInt (aCons (eOp (dEqs false) (eCall 2 S__law_take (aCons (eV 2) (aCons (eK (.int 5)) (aNil)))) (eK (.int 0))) (aNil)))) (aNil)))) (tgN 4)) (sSeq (sAsg (eCall 2 S__law_moment_2 (aCons (eV 2) (aCons (eOp dPow (eK (.int 10)) (eK (.int 6))) (aNil)))) (tgN 5)) (sSeq (sIf (bOf (eOp (dEqs true) (eBi gRepr (aCons (eCall 2 S_worth (aCons (eOp dIx (eV 3) (eK (.int 0))) (aCons (eV 5) (aNil)))) (aNil))) (eBi gRepr (aCons (eCall 2 S__law_worth (aCons (eOp dIx (eV 3) (eK (.int 0))) (aCons (eV 5) (aNil)))) (aNil))))) (sSeq (sRet (eK (.bl false))) (sEnd)) (sEnd)) (sSeq (sAsg (eCall 1 S__law_roots (aCons (eLst (aCons (eV 3) (aNil))) (aNil))) (tgN 6)) (sSeq (sIf (bAnd (bOf (eOp (dEqs false) (eCall 2 S__law_take (aCons (eV 2) (aCons (eK (.int 3)) (aNil)))) (eK (.int 0)))) (bAnd (bOf (eOp (dEqs true) (eV 6) (eLst (aNil)))) (bAnd (bOf (eOp dGe (eOp dIx (eOp dIx (eV 6) (eK (.int 0))) (eK (.int 0))) (eK (.int 0)))) (bOf (eCall 2 S__law_less (aCons (eOp dIx (eV 6) (eK (.int 0))) (aCons (eTup (aCons (eOp dPow (eK (.int 10)) (eK (.int 6))) (aCons (eK (.int 1)) (aNil)))) (aNil)))))))) (sSeq (sAsg (eTup (aCons (eOp dIx (eV 6) (eK (.int 0))) (aCons (eOp (dEqs false) (eCall 2 S__law_take (aCons (eV 2) (aCons (eK (.int 2)) (aNil)))) (eK (.int 0))) (aCons (eTup (aCons (eOp dPow (eK (.int 10)) (eK (.int 6))) (aCons (eK (.int 1)) (aNil)))) (aCons (eK (.bl true)) (aNil)))))) (tgN 4)) (sEnd)) (sEnd)) (sSeq (sAsg (eComp (iSeq (eCall 2 S__law_marks (aCons (eV 4) (aCons (eV 6) (aNil))))) [13] (tgN 13) (cYes) (eCall 2 S__law_holds_at (aCons (eV 3) (aCons (eV 13) (aNil))))) (tgN 7)) (sSeq (sIf (bNot (bOf (eCall 2 f_law_truth (aCons (eCall 2 S_holds_through (aCons (eV 3) (aCons (eV 4) (aNil)))) (aCons (eOp (dIn true) (eK (.bl false)) (eV 7)) (aNil)))))) (sSeq (sRet (eK (.bl false))) (sEnd)) (sEnd)) (sSeq (sIf (bNot (bOf (eCall 2 f_law_truth (aCons (eCall 2 S_fails_through (aCons (eV 3) (aCons (eV 4) (aNil)))) (aCons (eOp (dIn true) (eK (.bl true)) (eV 7)) (aNil)))))) (sSeq (sRet (eK (.bl false))) (sEnd)) (sEnd)) (sEnd))))))))))
/-! law -/
theorem sclaw : FnScope ["script", "k", "pot", "condition", "time", "t", "roots", "truths", "flat", "open_time", "shut_time", "told", "rising", "mark"] ["script"] (defScope slaw) := ⟨rfl, rfl, rfl, by decide +kernel, rfl, by decide +kernel, by decide +kernel⟩
def blaw : Ss := sSeq (sFor (tgN 1) (iRange (aCons (eBi gMax (aCons (eK (.int 1)) (aCons (eBi gMin (aCons (eK (.int 63)) (aCons (eBi gLen (aCons (eV 0) (aNil))) (aNil)))) (aNil)))) (aNil))) (L0)) (sSeq (sAsg (eTup (aCons (eTup (aCons (eTup (aCons (eK (.int 0)) (aCons (eK (.int 1)) (aNil)))) (aCons (eTup (aCons (eK (.int 0)) (aCons (eK (.int 1)) (aNil)))) (aNil)))) (aCons (eTup (aCons (eTup (aCons (eK (.int 1)) (aCons (eK (.int 1)) (aNil)))) (aCons (eK (.bl false)) (aCons (eTup (aCons (eK (.int 2)) (aCons (eK (.int 1)) (aNil)))) (aCons (eK (.bl false)) (aNil)))))) (aCons (eTup (aCons (eTup (aCons (eK (.int 1)) (aCons (eK (.int 1)) (aNil)))) (aCons (eK (.bl true)) (aCons (eTup (aCons (eK (.int 2)) (aCons (eK (.int 1)) (aNil)))) (aCons (eK (.bl true)) (aNil)))))) (aNil))))) (tgT [8, 9, 10])) (sSeq (sAsg (eLst (aCons (eCall 2 S_holds_through (aCons (eTup (aCons (eV 8) (aCons (eK (.bl true)) (aNil)))) (aCons (eV 9) (aNil)))) (aCons (eCall 2 S_fails_through (aCons (eTup (aCons (eV 8) (aCons (eK (.bl true)) (aNil)))) (aCons (eV 9) (aNil)))) (aNil)))) (tgN 11)) (sSeq (sExpr (eApp (eV 11) (eCall 2 S_holds_through (aCons (eTup (aCons (eV 8) (aCons (eK (.bl false)) (aNil)))) (aCons (eV 9) (aNil)))))) (sSeq (sAsg (eTup (aCons (eTup (aCons (eUn dNeg (eK (.int 1))) (aCons (eK (.int 1)) (aNil)))) (aCons (eTup (aCons (eK (.int 1)) (aCons (eK (.int 1)) (aNil)))) (aNil)))) (tgN 12)) (sSeq (sAsg (eOp dAdd (eV 11) (eLst (aCons (eCall 2 S_holds_through (aCons (eTup (aCons (eV 12) (aCons (eK (.bl true)) (aNil)))) (aCons (eV 9) (aNil)))) (aCons (eCall 2 S_holds_through (aCons (eTup (aCons (eV 12) (aCons (eK (.bl true)) (aNil)))) (aCons (eV 10) (aNil)))) (aNil))))) (tgN 11)) (sSeq (sExpr (eApp (eV 11) (eCall 2 S_fails_through (aCons (eTup (aCons (eV 12) (aCons (eK (.bl true)) (aNil)))) (aCons (eTup (aCons (eTup (aCons (eK (.int 0)) (aCons (eK (.int 1)) (aNil)))) (aCons (eK (.bl true)) (aCons (eTup (aCons (eK (.int 1)) (aCons (eK (.int 1)) (aNil)))) (aCons (eK (.bl true)) (aNil)))))) (aNil)))))) (sSeq (sExpr (eApp (eV 11) (eCall 2 S_fails_through (aCons (eTup (aCons (eV 12) (aCons (eK (.bl false)) (aNil)))) (aCons (eTup (aCons (eTup (aCons (eK (.int 0)) (aCons (eK (.int 1)) (aNil)))) (aCons (eK (.bl true)) (aCons (eTup (aCons (eK (.int 1)) (aCons (eK (.int 1)) (aNil)))) (aCons (eK (.bl false)) (aNil)))))) (aNil)))))) (sSeq (sExpr (eApp (eV 11) (eCall 2 S_fails_through (aCons (eTup (aCons (eV 12) (aCons (eK (.bl false)) (aNil)))) (aCons (eTup (aCons (eTup (aCons (eK (.int 0)) (aCons (eK (.int 1)) (aNil)))) (aCons (eK (.bl true)) (aCons (eTup (aCons (eK (.int 1)) (aCons (eK (.int 1)) (aNil)))) (aCons (eK (.bl true)) (aNil)))))) (aNil)))))) (sSeq (sRet (eOp (dEqs false) (eV 11) (eLst (aCons (eK (.bl false)) (aCons (eK (.bl true)) (aCons (eK (.bl true)) (aCons (eK (.bl true)) (aCons (eK (.bl false)) (aCons (eK (.bl true)) (aCons (eK (.bl true)) (aCons (eK (.bl false)) (aNil)))))))))))) (sEnd))))))))))
def flaw : Sf := ofBody 1 13 blaw
theorem glaw (T : Txt K mg) {fd : FuncData} (F : FunD K "law" "law" (defArgs slaw) (defBody slaw) (defScope slaw) [] [] (He.ga K "law") fd) : FnG P w K mg base 7 (He.ga K "law") fd ["script"] flaw := by
  have G_law_holds_at := g_law_holds_at (P := P) (w := w) (base := base) T
  have G_law_less := g_law_less (P := P) (w := w) (base := base) T
  have G_law_line := g_law_line (P := P) (w := w) (base := base) T
  have G_law_marks := g_law_marks (P := P) (w := w) (base := base) T
  have G_law_moment := g_law_moment (P := P) (w := w) (base := base) T
  have G_law_pot := g_law_pot (P := P) (w := w) (base := base) T
  have G_law_roots := g_law_roots (P := P) (w := w) (base := base) T
  have G_law_spell := g_law_spell (P := P) (w := w) (base := base) T
  have G_law_take := g_law_take (P := P) (w := w) (base := base) T
  have G_law_truth := g_law_truth (P := P) (w := w) (base := base) T
  have G_law_worth := g_law_worth (P := P) (w := w) (base := base) T
  have Gfails_through := gfails_through (P := P) (w := w) (base := base) T
  have Gholds_through := gholds_through (P := P) (w := w) (base := base) T
  have Gworth := gworth (P := P) (w := w) (base := base) T
  refine funD_G (k := 6) F sclaw fun cdv A outer s H E hr wh => ?_
  exact m_seq (m_for wh (m_range T.z_range (m_cons (m_max wh.calm T.z_max (m_cons (m_int) (m_cons (m_min wh.calm T.z_min (m_cons (m_int) (m_cons (m_len T.z_len (m_cons (m_var 0) (m_nil))) (m_nil)))) (m_nil)))) (m_nil))) (m_tgN 1 wh.nd) (m_seq (m_set 2 wh.nd (m_callG G_law_pot wh hr (by omega) (m_cons (m_var 0) (m_cons (m_var 1) (m_nil))))) (m_seq (m_set 3 wh.nd (m_tup (m_cons (m_callG G_law_line wh hr (by omega) (m_cons (m_var 2) (m_nil))) (m_cons (m_eqV hr.units (m_callG G_law_take wh hr (by omega) (m_cons (m_var 2) (m_cons (m_int) (m_nil)))) (m_int)) (m_nil))))) (m_seq (m_set 4 wh.nd (m_callG G_law_spell wh hr (by omega) (m_cons (m_var 2) (m_cons (m_ix (m_lst (m_cons (m_int) (m_cons (m_pow (m_int) (m_int)) (m_nil)))) (m_intc T.z_int (m_cons (m_eqV hr.units (m_callG G_law_take wh hr (by omega) (m_cons (m_var 2) (m_cons (m_int) (m_nil)))) (m_int)) (m_nil)))) (m_nil))))) (m_seq (m_set 5 wh.nd (m_callG G_law_moment wh hr (by omega) (m_cons (m_var 2) (m_cons (m_pow (m_int) (m_int)) (m_nil))))) (m_seq (m_ifs (m_ne hr.units (m_repr wh hr.units T.z_repr (m_cons (m_callG Gworth wh hr (by omega) (m_cons (m_ix (m_var 3) (m_int)) (m_cons (m_var 5) (m_nil)))) (m_nil))) (m_repr wh hr.units T.z_repr (m_cons (m_callG G_law_worth wh hr (by omega) (m_cons (m_ix (m_var 3) (m_int)) (m_cons (m_var 5) (m_nil)))) (m_nil)))) (m_seq (m_ret (m_bl)) (m_end)) (m_end)) (m_seq (m_set 6 wh.nd (m_callG G_law_roots wh hr (by omega) (m_cons (m_lst (m_cons (m_var 3) (m_nil))) (m_nil)))) (m_seq (m_ifs (m_w (m_and (m_eq hr.units (m_callG G_law_take wh hr (by omega) (m_cons (m_var 2) (m_cons (m_int) (m_nil)))) (m_int)) (m_and (m_ne hr.units (m_var 6) (m_lst (m_nil))) (m_and (m_ge (m_ix (m_ix (m_var 6) (m_int)) (m_int)) (m_int)) (m_and1 (m_test (m_callG G_law_less wh hr (by omega) (m_cons (m_ix (m_var 6) (m_int)) (m_cons (m_tup (m_cons (m_pow (m_int) (m_int)) (m_cons (m_int) (m_nil)))) (m_nil)))))))))) (m_seq (m_set 4 wh.nd (m_tup (m_cons (m_ix (m_var 6) (m_int)) (m_cons (m_eqV hr.units (m_callG G_law_take wh hr (by omega) (m_cons (m_var 2) (m_cons (m_int) (m_nil)))) (m_int)) (m_cons (m_tup (m_cons (m_pow (m_int) (m_int)) (m_cons (m_int) (m_nil)))) (m_cons (m_bl) (m_nil))))))) (m_end)) (m_end)) (m_seq (m_setC 7 wh (m_seqI (m_callG G_law_marks wh hr (by omega) (m_cons (m_var 4) (m_cons (m_var 6) (m_nil))))) (blk_of (own := [("mark", 13)]) (by rfl)) (m_oN 13 wh.nd) (m_t0) (fun _ _ _ _ _ => m_callG G_law_holds_at (wh_blk wh) hr (by omega) (m_cons (m_var 3) (m_cons (m_var 13) (m_nil)))) (by rfl)) (m_seq (m_ifs (m_not (m_test (m_callG G_law_truth wh hr (by omega) (m_cons (m_callG Gholds_through wh hr (by omega) (m_cons (m_var 3) (m_cons (m_var 4) (m_nil)))) (m_cons (m_notInV (room65 hr) (m_bl) (m_var 7)) (m_nil)))))) (m_seq (m_ret (m_bl)) (m_end)) (m_end)) (m_seq (m_ifs (m_not (m_test (m_callG G_law_truth wh hr (by omega) (m_cons (m_callG Gfails_through wh hr (by omega) (m_cons (m_var 3) (m_cons (m_var 4) (m_nil)))) (m_cons (m_notInV (room65 hr) (m_bl) (m_var 7)) (m_nil)))))) (m_seq (m_ret (m_bl)) (m_end)) (m_end)) (m_end)))))))))))) (m_seq (m_asg (m_tup (m_cons (m_tup (m_cons (m_tup (m_cons (m_int) (m_cons (m_int) (m_nil)))) (m_cons (m_tup (m_cons (m_int) (m_cons (m_int) (m_nil)))) (m_nil)))) (m_cons (m_tup (m_cons (m_tup (m_cons (m_int) (m_cons (m_int) (m_nil)))) (m_cons (m_bl) (m_cons (m_tup (m_cons (m_int) (m_cons (m_int) (m_nil)))) (m_cons (m_bl) (m_nil)))))) (m_cons (m_tup (m_cons (m_tup (m_cons (m_int) (m_cons (m_int) (m_nil)))) (m_cons (m_bl) (m_cons (m_tup (m_cons (m_int) (m_cons (m_int) (m_nil)))) (m_cons (m_bl) (m_nil)))))) (m_nil))))) (m_tgT wh.calm (m_gcons 8 wh.nd (m_gcons 9 wh.nd (m_gcons 10 wh.nd (m_gnil)))))) (m_seq (m_set 11 wh.nd (m_lst (m_cons (m_callG Gholds_through wh hr (by omega) (m_cons (m_tup (m_cons (m_var 8) (m_cons (m_bl) (m_nil)))) (m_cons (m_var 9) (m_nil)))) (m_cons (m_callG Gfails_through wh hr (by omega) (m_cons (m_tup (m_cons (m_var 8) (m_cons (m_bl) (m_nil)))) (m_cons (m_var 9) (m_nil)))) (m_nil))))) (m_seq (m_expr (m_app (m_var 11) (m_callG Gholds_through wh hr (by omega) (m_cons (m_tup (m_cons (m_var 8) (m_cons (m_bl) (m_nil)))) (m_cons (m_var 9) (m_nil)))))) (m_seq (m_set 12 wh.nd (m_tup (m_cons (m_tup (m_cons (m_neg (m_int)) (m_cons (m_int) (m_nil)))) (m_cons (m_tup (m_cons (m_int) (m_cons (m_int) (m_nil)))) (m_nil))))) (m_seq (m_set 11 wh.nd (m_add (m_var 11) (m_lst (m_cons (m_callG Gholds_through wh hr (by omega) (m_cons (m_tup (m_cons (m_var 12) (m_cons (m_bl) (m_nil)))) (m_cons (m_var 9) (m_nil)))) (m_cons (m_callG Gholds_through wh hr (by omega) (m_cons (m_tup (m_cons (m_var 12) (m_cons (m_bl) (m_nil)))) (m_cons (m_var 10) (m_nil)))) (m_nil)))))) (m_seq (m_expr (m_app (m_var 11) (m_callG Gfails_through wh hr (by omega) (m_cons (m_tup (m_cons (m_var 12) (m_cons (m_bl) (m_nil)))) (m_cons (m_tup (m_cons (m_tup (m_cons (m_int) (m_cons (m_int) (m_nil)))) (m_cons (m_bl) (m_cons (m_tup (m_cons (m_int) (m_cons (m_int) (m_nil)))) (m_cons (m_bl) (m_nil)))))) (m_nil)))))) (m_seq (m_expr (m_app (m_var 11) (m_callG Gfails_through wh hr (by omega) (m_cons (m_tup (m_cons (m_var 12) (m_cons (m_bl) (m_nil)))) (m_cons (m_tup (m_cons (m_tup (m_cons (m_int) (m_cons (m_int) (m_nil)))) (m_cons (m_bl) (m_cons (m_tup (m_cons (m_int) (m_cons (m_int) (m_nil)))) (m_cons (m_bl) (m_nil)))))) (m_nil)))))) (m_seq (m_expr (m_app (m_var 11) (m_callG Gfails_through wh hr (by omega) (m_cons (m_tup (m_cons (m_var 12) (m_cons (m_bl) (m_nil)))) (m_cons (m_tup (m_cons (m_tup (m_cons (m_int) (m_cons (m_int) (m_nil)))) (m_cons (m_bl) (m_cons (m_tup (m_cons (m_int) (m_cons (m_int) (m_nil)))) (m_cons (m_bl) (m_nil)))))) (m_nil)))))) (m_seq (m_ret (m_eqV hr.units (m_var 11) (m_lst (m_cons (m_bl) (m_cons (m_bl) (m_cons (m_bl) (m_cons (m_bl) (m_cons (m_bl) (m_cons (m_bl) (m_cons (m_bl) (m_cons (m_bl) (m_nil)))))))))))) (m_end))))))))))
end
end K16
end

section
set_option Elab.async false
set_option linter.all false
set_option autoImplicit false
set_option maxRecDepth 100000
set_option exponentiation.threshold 20000
set_option maxHeartbeats 4000000
open PySem L2
namespace MI
/-! ### evaluation -/
theorem lg {n k : Nat} (h : n < 2 ^ k) (hk : 0 < k) : n.log2 < k := by
  by_cases h0 : n = 0
  · subst h0; simpa using hk
  · exact (Nat.log2_lt h0).mpr h
theorem lgI {i : Int} {k : Nat} (h0 : -(2 ^ k : Int) < i) (h1 : i < (2 ^ k : Int)) (hk : 0 < k) : i.natAbs.log2 < k := by
  refine lg ?_ hk
  have : ((2 ^ k : Nat) : Int) = (2 ^ k : Int) := by push_cast; rfl
  omega
theorem lstAt_of {h : Hq} {p : Nat} {l : List D} (e : h[p]? = some (.lst l)) : lstAt h p = some l := by unfold lstAt; rw [e]
theorem mulOk_of {i j : Int} (a : i.natAbs.log2 < 400000) (b : j.natAbs.log2 < 400000) : mulOk i j = true := by
  unfold mulOk
  exact decide_eq_true (by omega)
theorem l64 {i : Int} (h0 : -(2 ^ 64) < i) (h1 : i < 2 ^ 64) {k : Nat} (hk : 64 ≤ k := by decide) : i.natAbs.log2 < k := Nat.lt_of_lt_of_le (lgI (k := 64) h0 h1 (by decide)) hk
theorem divOk_of {j : Int} (h0 : 0 < j) (h1 : j < 2 ^ 8000) : divOk j = true := by
  unfold divOk
  have := Nat.lt_of_lt_of_le (lgI (k := 8000) (by omega) h1 (by decide)) (by decide : 8000 ≤ 9000)
  simp [h0, this]
/-! ### the pot -/
structure PotAt (h : Hq) (p : Nat) (n : Int) : Prop where
  ex : ∃ a b c : Int, lstAt h p = some [.int a, .int b, .int c] ∧ 0 ≤ a ∧ a < 2 ^ 2000 ∧ 0 ≤ b ∧ b < 2 ^ 61 ∧ 0 ≤ c ∧ c ≤ n
/-- only the cell p may have changed, cells may be new -/
structure Step (p : Nat) (h h' : Hq) : Prop where
  len : h.length ≤ h'.length
  old : ∀ q, q ≠ p → q < h.length → h'[q]? = h[q]?
theorem Step.refl (p : Nat) (h : Hq) : Step p h h := ⟨Nat.le_refl _, fun _ _ _ => rfl⟩
theorem Step.trans {p : Nat} {h h1 h2 : Hq} (a : Step p h h1) (b : Step p h1 h2) : Step p h h2 := ⟨Nat.le_trans a.len b.len, fun q n l => (b.old q n (Nat.lt_of_lt_of_le l a.len)).trans (a.old q n l)⟩
theorem Step.set (p : Nat) (h : Hq) (c : Cell) : Step p h (h.set p c) := ⟨by simp, fun q n l => by rw [List.getElem?_set_ne (Ne.symm n)]⟩
theorem Step.app (p : Nat) (h : Hq) (l : List Cell) : Step p h (h ++ l) := ⟨by simp, fun q n hl => by rw [List.getElem?_append_left hl]⟩
theorem lstAt_lt {h : Hq} {p : Nat} {l : List D} (e : lstAt h p = some l) : p < h.length := (List.getElem?_eq_some_iff.mp (lstAt_some e)).1
theorem PotAt.mono {h : Hq} {p : Nat} {n m : Int} (P : PotAt h p n) (hm : n ≤ m) : PotAt h p m := by
  obtain ⟨a, b, c, e, h1, h2, h3, h4, h5, h6⟩ := P.ex
  exact ⟨a, b, c, e, h1, h2, h3, h4, h5, by omega⟩
theorem lstAt_app {h : Hq} {p : Nat} {l : List D} (e : lstAt h p = some l) (t : List Cell) : lstAt (h ++ t) p = some l := by
  have hl := lstAt_lt e
  have e' := lstAt_some e
  unfold lstAt
  rw [List.getElem?_append_left hl, e']
theorem PotAt.app {h : Hq} {p : Nat} {n : Int} (P : PotAt h p n) (t : List Cell) : PotAt (h ++ t) p n := by
  obtain ⟨a, b, c, e, r⟩ := P.ex
  exact ⟨a, b, c, lstAt_app e t, r⟩
theorem lstAt_set {h : Hq} {p : Nat} {l : List D} (hp : p < h.length) : lstAt (h.set p (.lst l)) p = some l := by
  unfold lstAt
  rw [List.getElem?_set_self hp]
theorem take_ok {h : Hq} {p : Nat} {n many : Int} (P : PotAt h p n) (hn : n < 1000000) (hm : 0 < many) (hb : many < 2 ^ 8000) :
    ∃ r h', S__law_take [.ref p, .int many] h = .ok (.int r) h' ∧ 0 ≤ r ∧ r < many ∧ PotAt h' p (n + 1) ∧ Step p h h' := by
  obtain ⟨a, b, c, e, a0, a1, b0, b1, c0, c1⟩ := P.ex
  have hp := lstAt_lt e
  have hd1 : divOk many = true := divOk_of hm hb
  by_cases ha : 0 < a
  · refine ⟨a % many, h.set p (.lst [.int (a / many), .int b, .int c]), ?_, Int.emod_nonneg _ (by omega), Int.emod_lt_of_pos _ hm, ⟨a / many, b, c, lstAt_set hp, ?_, ?_, b0, b1, c0, by omega⟩, Step.set _ _ _⟩
    · simp [c_bind, c_into, c_then, v_K, v_V, v_vR, v_Op, v_Un, v_bOf, v_isB, v_isBx, v_bAnd, v_bOr, v_bNot, v_eAnd, v_eOr, v_eNot, v_eIf, v_aNil, v_aCons, v_Tup, v_Lst, v_Dct, v_Call, v_CallK, v_Bi, v_Isi, v_Cut, v_oNone, v_oSome, v_vO, v_End, v_Seq, v_If, v_Ret, v_Expr, v_Set, v_Par, v_Raise, v_For, v_Put, v_fnx, v_frt, v_fex, v_of, v_add, v_sub, v_neg, v_rel, v_abs, v_lenT, v_lenS, v_max, v_min, v_intB, v_intI, v_gcd, v_cutT, v_listT, v_backT, v_eqI, v_eqS, List.replicate, small, atI, ixN, S__law_take, v_ixL e, v_vPut e, v_mod hm, v_div hd1, ha]
    · exact Int.ediv_nonneg a0 (by omega)
    · exact Int.lt_of_le_of_lt (Int.ediv_le_self _ a0) a1
  · have a00 : a = 0 := by omega
    subst a00
    have e2 : lstAt (h.set p (.lst [.int 0, .int b, .int (c + 1)])) p = some [.int 0, .int b, .int (c + 1)] := lstAt_set hp
    have q1 := Int.emod_nonneg ((b + 104729 * (c + 1)) ^ 3) (b := 2305843009213693921) (by decide)
    have q2 := Int.emod_lt_of_pos ((b + 104729 * (c + 1)) ^ 3) (b := 2305843009213693921) (by decide)
    have w1 : (b + 104729 * (c + 1)).natAbs.log2 < 10000 := l64 (by omega) (by omega)
    have w2 : ((b + 104729 * (c + 1)) ^ 3 % 2305843009213693921 + b % 65537 + 31 * (c + 1)).natAbs.log2 < 10000 := l64 (by omega) (by omega)
    have w3 : mulOk 104729 (c + 1) = true := mulOk_of (l64 (by decide) (by decide)) (l64 (by omega) (by omega))
    have w4 : mulOk 31 (c + 1) = true := mulOk_of (l64 (by decide) (by decide)) (l64 (by omega) (by omega))
    refine ⟨_, h.set p (.lst [.int 0, .int b, .int (c + 1)]), ?_, Int.emod_nonneg (((b + 104729 * (c + 1)) ^ 3 % 2305843009213693921 + b % 65537 + 31 * (c + 1)) ^ 5 % 2305843009213693907 / 1024) (by omega), Int.emod_lt_of_pos _ hm, ⟨0, b, c + 1, e2, by omega, by decide, b0, b1, by omega, by omega⟩, Step.set _ _ _⟩
    simp [c_bind, c_into, c_then, v_K, v_V, v_vR, v_Op, v_Un, v_bOf, v_isB, v_isBx, v_bAnd, v_bOr, v_bNot, v_eAnd, v_eOr, v_eNot, v_eIf, v_aNil, v_aCons, v_Tup, v_Lst, v_Dct, v_Call, v_CallK, v_Bi, v_Isi, v_Cut, v_oNone, v_oSome, v_vO, v_End, v_Seq, v_If, v_Ret, v_Expr, v_Set, v_Par, v_Raise, v_For, v_Put, v_fnx, v_frt, v_fex, v_of, v_add, v_sub, v_neg, v_rel, v_abs, v_lenT, v_lenS, v_max, v_min, v_intB, v_intI, v_gcd, v_cutT, v_listT, v_backT, v_eqI, v_eqS, List.replicate, small, atI, ixN, S__law_take, v_ixL e, v_vPut e, v_ixL e2, v_mod, hm, v_div, divOk_of, hd1, v_mul w3, v_mul w4, v_pow, w1, w2]
theorem v_pow10 {j : Int} {h : Hq} (e0 : 0 ≤ j) (e1 : j ≤ 1000) : dPow (.int 10) (.int j) h = .ok (.int (10 ^ j.toNat)) h := v_pow e0 e1 (by decide)
theorem great_ok {h : Hq} {p : Nat} {n many : Int} (P : PotAt h p n) (hn : n < 999990) (hm : 0 < many) (hb : many < 2 ^ 8000) :
    ∃ r h', S__law_great [.ref p, .int many] h = .ok (.int r) h' ∧ 0 ≤ r ∧ r < many ∧ PotAt h' p (n + 3) ∧ Step p h h' := by
  by_cases hs : many < 1000000000000
  · obtain ⟨r, h1, e, r0, r1, P1, S1⟩ := take_ok P (by omega) hm hb
    exact ⟨r, h1, by simp [c_bind, c_into, c_then, v_K, v_V, v_vR, v_Op, v_Un, v_bOf, v_isB, v_isBx, v_bAnd, v_bOr, v_bNot, v_eAnd, v_eOr, v_eNot, v_eIf, v_aNil, v_aCons, v_Tup, v_Lst, v_Dct, v_Call, v_CallK, v_Bi, v_Isi, v_Cut, v_oNone, v_oSome, v_vO, v_End, v_Seq, v_If, v_Ret, v_Expr, v_Set, v_Par, v_Raise, v_For, v_Put, v_fnx, v_frt, v_fex, v_of, v_add, v_sub, v_neg, v_rel, v_abs, v_lenT, v_lenS, v_max, v_min, v_intB, v_intI, v_gcd, v_cutT, v_listT, v_backT, v_eqI, v_eqS, List.replicate, small, atI, ixN, S__law_great, v_pow10, hs, e], r0, r1, P1.mono (by omega), S1⟩
  · obtain ⟨x, h1, e1, x0, x1, P1, S1⟩ := take_ok (many := 1000000000000) P (by omega) (by decide) (by decide)
    obtain ⟨y, h2, e2, y0, y1, P2, S2⟩ := take_ok (many := 1000000000000) P1 (by omega) (by decide) (by decide)
    obtain ⟨z, h3, e3, z0, z1, P3, S3⟩ := take_ok (many := 1000000000000) P2 (by omega) (by decide) (by decide)
    have m1 : mulOk x 1000000000000000000000000 = true := mulOk_of (l64 (by omega) (by omega)) (by decide)
    have m2 : mulOk y 1000000000000 = true := mulOk_of (l64 (by omega) (by omega)) (by decide)
    refine ⟨(x * 1000000000000000000000000 + y * 1000000000000 + z) % many, h3, ?_, Int.emod_nonneg _ (by omega), Int.emod_lt_of_pos _ hm, P3.mono (by omega), (S1.trans S2).trans S3⟩
    simp [c_bind, c_into, c_then, v_K, v_V, v_vR, v_Op, v_Un, v_bOf, v_isB, v_isBx, v_bAnd, v_bOr, v_bNot, v_eAnd, v_eOr, v_eNot, v_eIf, v_aNil, v_aCons, v_Tup, v_Lst, v_Dct, v_Call, v_CallK, v_Bi, v_Isi, v_Cut, v_oNone, v_oSome, v_vO, v_End, v_Seq, v_If, v_Ret, v_Expr, v_Set, v_Par, v_Raise, v_For, v_Put, v_fnx, v_frt, v_fex, v_of, v_add, v_sub, v_neg, v_rel, v_abs, v_lenT, v_lenS, v_max, v_min, v_intB, v_intI, v_gcd, v_cutT, v_listT, v_backT, v_eqI, v_eqS, List.replicate, small, atI, ixN, S__law_great, v_pow10, hs, e1, e2, e3, v_mul m1, v_mul m2, v_mod hm]
/-! ### the cell's pot -/
theorem pot_ok {h : Hq} {ns : List Int} {k : Nat} (hk : k < 100) : ∃ l, S__law_pot [.scr ns, .int k] h = .ok (.ref h.length) (h ++ [.lst l]) ∧ PotAt (h ++ [.lst l]) h.length 0 := by
  have key : ∀ c : Int, 0 ≤ c → c < 10 ^ 600 → ∀ x : Int, 0 ≤ x → x < 2 ^ 61 → PotAt (h ++ [.lst [D.int (c * (if 1000000000000000000 ≤ c then 1 else 0)), D.int x, D.int 0]]) h.length 0 := by
    intro c c0 c1 x x0 x1
    refine ⟨⟨c * (if 1000000000000000000 ≤ c then 1 else 0), x, 0, by unfold lstAt; simp, ?_, ?_, x0, x1, by decide, by decide⟩⟩
    · split <;> omega
    · have : (10 : Int) ^ 600 < 2 ^ 2000 := by decide
      split <;> omega
  have m1 : mulOk 7919 k = true := mulOk_of (by decide) (l64 (by omega) (by omega))
  by_cases hl : (k : Int) < ns.length
  · have hl' : k < ns.length := by omega
    have ix : atI ns (k : Int) = some ns[k] := by unfold atI ixN; simp [hl']
    obtain ⟨M, hM⟩ : ∃ M : Int, M = 10 ^ 600 := ⟨_, rfl⟩
    obtain ⟨c, hc⟩ : ∃ c : Int, c = (if ns[k] < 0 then -ns[k] else ns[k]) % M := ⟨_, rfl⟩
    have M0 : 0 < M := by rw [hM]; decide
    have c0 : 0 ≤ c := by rw [hc]; exact Int.emod_nonneg _ (by omega)
    have c1 : c < 10 ^ 600 := by rw [← hM, hc]; exact Int.emod_lt_of_pos _ M0
    have dm : ∀ h, dMod (.int (if ns[k] < 0 then -ns[k] else ns[k])) (.int M) h = .ok (.int c) h := fun h => by rw [hc]; exact v_mod M0
    have dp : ∀ h, dPow (.int 1000000000000000000000000000000000000000000000000000000000000) (.int 10) h = .ok (.int M) h := fun h => by rw [hM]; exact (v_pow (by decide) (by decide) (by decide)).trans (by congr 2)
    have mk : mulOk c (if 1000000000000000000 ≤ c then 1 else 0) = true := by
      have e : (10 : Int) ^ 600 < 2 ^ 2000 := by decide
      refine mulOk_of (Nat.lt_of_lt_of_le (lgI (k := 2000) (by omega) (by omega) (by decide)) (by decide)) ?_
      split <;> decide
    have q0 := Int.emod_nonneg c (b := 2147483629) (by decide)
    have q1 := Int.emod_lt_of_pos c (b := 2147483629) (by decide)
    have pw : (c % 2147483629 + 7919 * k + 1).natAbs.log2 < 10000 := l64 (by omega) (by omega)
    refine ⟨_, ?_, key c c0 c1 ((c % 2147483629 + 7919 * k + 1) ^ 5 % 2305843009213693951) (Int.emod_nonneg _ (by decide)) (Int.lt_of_lt_of_le (Int.emod_lt_of_pos _ (by decide)) (by decide))⟩
    simp [c_bind, c_into, c_then, v_K, v_V, v_vR, v_Op, v_Un, v_bOf, v_isB, v_isBx, v_bAnd, v_bOr, v_bNot, v_eAnd, v_eOr, v_eNot, v_eIf, v_aNil, v_aCons, v_Tup, v_Lst, v_Dct, v_Call, v_CallK, v_Bi, v_Isi, v_Cut, v_oNone, v_oSome, v_vO, v_End, v_Seq, v_If, v_Ret, v_Expr, v_Set, v_Par, v_Raise, v_For, v_Put, v_fnx, v_frt, v_fex, v_of, v_add, v_sub, v_neg, v_rel, v_abs, v_lenT, v_lenS, v_max, v_min, v_intB, v_intI, v_gcd, v_cutT, v_listT, v_backT, v_eqI, v_eqS, List.replicate, small, atI, ixN, S__law_pot, v_pow10, hl', v_ixS ix, dp, dm, v_mul m1, v_mul mk, v_pow, pw, v_mod]
  · have hl' : ¬ k < ns.length := by omega
    have mk : mulOk 0 0 = true := by decide
    have pw : (7919 * (k : Int) + 1).natAbs.log2 < 10000 := l64 (by omega) (by omega)
    refine ⟨_, ?_, key 0 (by decide) (by decide) ((7919 * k + 1) ^ 5 % 2305843009213693951) (Int.emod_nonneg _ (by decide)) (Int.lt_of_lt_of_le (Int.emod_lt_of_pos _ (by decide)) (by decide))⟩
    simp [c_bind, c_into, c_then, v_K, v_V, v_vR, v_Op, v_Un, v_bOf, v_isB, v_isBx, v_bAnd, v_bOr, v_bNot, v_eAnd, v_eOr, v_eNot, v_eIf, v_aNil, v_aCons, v_Tup, v_Lst, v_Dct, v_Call, v_CallK, v_Bi, v_Isi, v_Cut, v_oNone, v_oSome, v_vO, v_End, v_Seq, v_If, v_Ret, v_Expr, v_Set, v_Par, v_Raise, v_For, v_Put, v_fnx, v_frt, v_fex, v_of, v_add, v_sub, v_neg, v_rel, v_abs, v_lenT, v_lenS, v_max, v_min, v_intB, v_intI, v_gcd, v_cutT, v_listT, v_backT, v_eqI, v_eqS, List.replicate, small, atI, ixN, S__law_pot, v_pow10, hl', v_mul m1, v_mul mk, v_pow, pw, v_mod]
/-! ### lowest terms -/
def gI (o u : Int) : Int := ((Nat.gcd o.natAbs u.natAbs : Nat) : Int)
theorem gI_pos {o u : Int} (h : u ≠ 0) : 0 < gI o u := by
  unfold gI
  have : 0 < Nat.gcd o.natAbs u.natAbs := Nat.gcd_pos_of_pos_right _ (by omega)
  omega
theorem gI_le {o u : Int} (h : 0 < u) : gI o u ≤ u := by
  unfold gI
  have := Nat.gcd_le_right o.natAbs (show 0 < u.natAbs by omega)
  omega
theorem euclid {s : Hq} {x y : Option D} : ∀ (n : Nat) (a b : Nat), b ≤ n → whileN (bOf (eOp (dEqs true) (eV 3) (eK (.int 0)))) (sSeq (sPar 2 3 (aCons (eV 3) (aCons (eOp dMod (eV 2) (eV 3)) (aNil)))) (sEnd)) (n + 1) [x, y, some (.int a), some (.int b)] s = some (.nx [x, y, some (.int (Nat.gcd a b : Nat)), some (.int 0)] s)
  | n, a, 0, _ => by
    unfold whileN
    have e : bOf (eOp (dEqs true) (eV 3) (eK (.int 0))) [x, y, some (.int a), some (.int (0 : Nat))] s = .ok false s := by simp [c_bind, c_into, c_then, v_K, v_V, v_vR, v_Op, v_Un, v_bOf, v_isB, v_isBx, v_bAnd, v_bOr, v_bNot, v_eAnd, v_eOr, v_eNot, v_eIf, v_aNil, v_aCons, v_Tup, v_Lst, v_Dct, v_Call, v_CallK, v_Bi, v_Isi, v_Cut, v_oNone, v_oSome, v_vO, v_End, v_Seq, v_If, v_Ret, v_Expr, v_Set, v_Par, v_Raise, v_For, v_Put, v_fnx, v_frt, v_fex, v_of, v_add, v_sub, v_neg, v_rel, v_abs, v_lenT, v_lenS, v_max, v_min, v_intB, v_intI, v_gcd, v_cutT, v_listT, v_backT, v_eqI, v_eqS, List.replicate, small, atI, ixN]
    rw [e]
    simp
  | 0, a, b + 1, h => by omega
  | n + 1, a, b + 1, h => by
    unfold whileN
    have hb : (0 : Int) < ((b + 1 : Nat) : Int) := by omega
    have e : bOf (eOp (dEqs true) (eV 3) (eK (.int 0))) [x, y, some (.int a), some (.int ((b + 1 : Nat) : Int))] s = .ok true s := by
      have : ¬ ((b : Int) + 1 = 0) := by omega
      simp [c_bind, c_into, c_then, v_K, v_V, v_vR, v_Op, v_Un, v_bOf, v_isB, v_isBx, v_bAnd, v_bOr, v_bNot, v_eAnd, v_eOr, v_eNot, v_eIf, v_aNil, v_aCons, v_Tup, v_Lst, v_Dct, v_Call, v_CallK, v_Bi, v_Isi, v_Cut, v_oNone, v_oSome, v_vO, v_End, v_Seq, v_If, v_Ret, v_Expr, v_Set, v_Par, v_Raise, v_For, v_Put, v_fnx, v_frt, v_fex, v_of, v_add, v_sub, v_neg, v_rel, v_abs, v_lenT, v_lenS, v_max, v_min, v_intB, v_intI, v_gcd, v_cutT, v_listT, v_backT, v_eqI, v_eqS, List.replicate, small, atI, ixN, this]
    have e2 : (sSeq (sPar 2 3 (aCons (eV 3) (aCons (eOp dMod (eV 2) (eV 3)) (aNil)))) (sEnd)) [x, y, some (.int a), some (.int ((b + 1 : Nat) : Int))] s = .nx [x, y, some (.int ((b + 1 : Nat) : Int)), some (.int ((a % (b + 1) : Nat) : Int))] s := by
      have hb' : (0 : Int) < (b : Int) + 1 := by omega
      simp [c_bind, c_into, c_then, v_K, v_V, v_vR, v_Op, v_Un, v_bOf, v_isB, v_isBx, v_bAnd, v_bOr, v_bNot, v_eAnd, v_eOr, v_eNot, v_eIf, v_aNil, v_aCons, v_Tup, v_Lst, v_Dct, v_Call, v_CallK, v_Bi, v_Isi, v_Cut, v_oNone, v_oSome, v_vO, v_End, v_Seq, v_If, v_Ret, v_Expr, v_Set, v_Par, v_Raise, v_For, v_Put, v_fnx, v_frt, v_fex, v_of, v_add, v_sub, v_neg, v_rel, v_abs, v_lenT, v_lenS, v_max, v_min, v_intB, v_intI, v_gcd, v_cutT, v_listT, v_backT, v_eqI, v_eqS, List.replicate, small, atI, ixN, v_mod hb']
    rw [e]
    dsimp only
    rw [e2]
    dsimp only
    rw [euclid n (b + 1) (a % (b + 1)) (by have := Nat.mod_lt a (show 0 < b + 1 by omega); omega)]
    have : Nat.gcd (b + 1) (a % (b + 1)) = Nat.gcd a (b + 1) := by
      rw [Nat.gcd_comm a (b + 1), Nat.gcd_rec (b + 1) a, Nat.gcd_comm]
    rw [this]
theorem lowL_ok {h : Hq} {o u : Int} (hu : 0 < u) (hb : u < 2 ^ 8000) : S__law_lowest [.int o, .int u] h = .ok (.tup [.int (o / gI o u), .int (u / gI o u)]) h := by
  have hd : divOk (gI o u) = true := divOk_of (gI_pos (by omega)) (Int.lt_of_le_of_lt (gI_le hu) hb)
  have ew : sWhile (bOf (eOp (dEqs true) (eV 3) (eK (.int 0)))) (sSeq (sPar 2 3 (aCons (eV 3) (aCons (eOp dMod (eV 2) (eV 3)) (aNil)))) (sEnd)) [some (.int o), some (.int u), some (.int (if o < 0 then -o else o)), some (.int u)] h = .nx [some (.int o), some (.int u), some (.int (gI o u)), some (.int 0)] h := by
    have := euclid (s := h) (x := some (.int o)) (y := some (.int u)) u.natAbs o.natAbs u.natAbs (Nat.le_refl _)
    have e1 : ((o.natAbs : Nat) : Int) = if o < 0 then -o else o := by split <;> omega
    have e2 : ((u.natAbs : Nat) : Int) = u := by omega
    rw [e1, e2] at this
    exact sWhile_eq this
  unfold S__law_lowest
  simp [c_bind, c_into, c_then, v_K, v_V, v_vR, v_Op, v_Un, v_bOf, v_isB, v_isBx, v_bAnd, v_bOr, v_bNot, v_eAnd, v_eOr, v_eNot, v_eIf, v_aNil, v_aCons, v_Tup, v_Lst, v_Dct, v_Call, v_CallK, v_Bi, v_Isi, v_Cut, v_oNone, v_oSome, v_vO, v_End, v_Seq, v_If, v_Ret, v_Expr, v_Set, v_Par, v_Raise, v_For, v_Put, v_fnx, v_frt, v_fex, v_of, v_add, v_sub, v_neg, v_rel, v_abs, v_lenT, v_lenS, v_max, v_min, v_intB, v_intI, v_gcd, v_cutT, v_listT, v_backT, v_eqI, v_eqS, List.replicate, small, atI, ixN, ew, v_div hd]
theorem lowP_ok {h : Hq} {o u : Int} (hu : 0 < u) (hb : u < 2 ^ 8000) : S_lowest [.int o, .int u] h = .ok (.tup [.int (o / gI o u), .int (u / gI o u)]) h := by
  have hd : divOk (gI o u) = true := divOk_of (gI_pos (by omega)) (Int.lt_of_le_of_lt (gI_le hu) hb)
  have hu' : ¬ u < 0 := by omega
  unfold S_lowest
  unfold gI at hd ⊢
  simp [c_bind, c_into, c_then, v_K, v_V, v_vR, v_Op, v_Un, v_bOf, v_isB, v_isBx, v_bAnd, v_bOr, v_bNot, v_eAnd, v_eOr, v_eNot, v_eIf, v_aNil, v_aCons, v_Tup, v_Lst, v_Dct, v_Call, v_CallK, v_Bi, v_Isi, v_Cut, v_oNone, v_oSome, v_vO, v_End, v_Seq, v_If, v_Ret, v_Expr, v_Set, v_Par, v_Raise, v_For, v_Put, v_fnx, v_frt, v_fex, v_of, v_add, v_sub, v_neg, v_rel, v_abs, v_lenT, v_lenS, v_max, v_min, v_intB, v_intI, v_gcd, v_cutT, v_listT, v_backT, v_eqI, v_eqS, List.replicate, small, atI, ixN, hu', v_div hd]
theorem lowN_ok {h : Hq} {o u : Int} (hu : u < 0) (hb : -u < 2 ^ 8000) : S_lowest [.int o, .int u] h = .ok (.tup [.int (-o / gI (-o) (-u)), .int (-u / gI (-o) (-u))]) h := by
  have hd : divOk (gI (-o) (-u)) = true := divOk_of (gI_pos (by omega)) (Int.lt_of_le_of_lt (gI_le (by omega)) hb)
  unfold S_lowest
  unfold gI at hd ⊢
  simp only [Int.natAbs_neg] at hd ⊢
  simp [c_bind, c_into, c_then, v_K, v_V, v_vR, v_Op, v_Un, v_bOf, v_isB, v_isBx, v_bAnd, v_bOr, v_bNot, v_eAnd, v_eOr, v_eNot, v_eIf, v_aNil, v_aCons, v_Tup, v_Lst, v_Dct, v_Call, v_CallK, v_Bi, v_Isi, v_Cut, v_oNone, v_oSome, v_vO, v_End, v_Seq, v_If, v_Ret, v_Expr, v_Set, v_Par, v_Raise, v_For, v_Put, v_fnx, v_frt, v_fex, v_of, v_add, v_sub, v_neg, v_rel, v_abs, v_lenT, v_lenS, v_max, v_min, v_intB, v_intI, v_gcd, v_cutT, v_listT, v_backT, v_eqI, v_eqS, List.replicate, small, atI, ixN, hu, v_div hd]
/-! ### what is a fraction -/
def isI : D → Bool
  | .int _ => true
  | _ => false
theorem ty_ref {h : Hq} {m : Nat} {n : String} (e : tyD h (.ref m) = some n) : n = "list" ∨ n = "dict" := by
  simp only [tyD] at e
  split at e
  · cases e; exact .inl rfl
  · cases e; exact .inr rfl
  · cases e
theorem ty_cases {h : Hq} {d : D} {n : String} (e : tyD h d = some n) : n = "NoneType" ∨ n = "bool" ∨ n = "int" ∨ n = "str" ∨ n = "tuple" ∨ n = "list" ∨ n = "dict" := by
  cases d with
  | ref m => rcases ty_ref e with rfl | rfl <;> simp
  | opq => cases e
  | adr a => cases e
  | ty s => cases e
  | _ => cases e; simp
theorem isi_int {h : Hq} {d : D} {n : String} (e : tyD h d = some n) : gIsi "int" d h = .ok (.bl (n == "int" || n == "bool")) h := by
  unfold gIsi
  rw [e]
  rcases ty_cases e with rfl | rfl | rfl | rfl | rfl | rfl | rfl <;> rfl
theorem isi_bool {h : Hq} {d : D} {n : String} (e : tyD h d = some n) : gIsi "bool" d h = .ok (.bl (n == "bool")) h := by
  unfold gIsi
  rw [e]
  rcases ty_cases e with rfl | rfl | rfl | rfl | rfl | rfl | rfl <;> rfl
theorem isi_tup {h : Hq} {d : D} {n : String} (e : tyD h d = some n) : gIsi "tuple" d h = .ok (.bl (n == "tuple")) h := by
  unfold gIsi
  rw [e]
  rcases ty_cases e with rfl | rfl | rfl | rfl | rfl | rfl | rfl <;> rfl
theorem isI_ty {h : Hq} {d : D} {n : String} (e : tyD h d = some n) : isI d = (n == "int") := by
  cases d with
  | ref m => rcases ty_ref e with rfl | rfl <;> rfl
  | opq => cases e
  | adr a => cases e
  | ty s => cases e
  | _ => cases e; rfl
theorem whole_ok {h : Hq} {d : D} {n : String} (e : tyD h d = some n) : S_is_whole [d] h = .ok (.bl (isI d)) h ∧ S__law_whole [d] h = .ok (.bl (isI d)) h := by
  have e1 := isi_int e
  have e2 := isi_bool e
  rw [isI_ty e]
  rcases ty_cases e with rfl | rfl | rfl | rfl | rfl | rfl | rfl <;>
    exact ⟨by simp [c_bind, c_into, c_then, v_K, v_V, v_vR, v_Op, v_Un, v_bOf, v_isB, v_isBx, v_bAnd, v_bOr, v_bNot, v_eAnd, v_eOr, v_eNot, v_eIf, v_aNil, v_aCons, v_Tup, v_Lst, v_Dct, v_Call, v_CallK, v_Bi, v_Isi, v_Cut, v_oNone, v_oSome, v_vO, v_End, v_Seq, v_If, v_Ret, v_Expr, v_Set, v_Par, v_Raise, v_For, v_Put, v_fnx, v_frt, v_fex, v_of, v_add, v_sub, v_neg, v_rel, v_abs, v_lenT, v_lenS, v_max, v_min, v_intB, v_intI, v_gcd, v_cutT, v_listT, v_backT, v_eqI, v_eqS, List.replicate, small, atI, ixN, S_is_whole, e1, e2], by simp [c_bind, c_into, c_then, v_K, v_V, v_vR, v_Op, v_Un, v_bOf, v_isB, v_isBx, v_bAnd, v_bOr, v_bNot, v_eAnd, v_eOr, v_eNot, v_eIf, v_aNil, v_aCons, v_Tup, v_Lst, v_Dct, v_Call, v_CallK, v_Bi, v_Isi, v_Cut, v_oNone, v_oSome, v_vO, v_End, v_Seq, v_If, v_Ret, v_Expr, v_Set, v_Par, v_Raise, v_For, v_Put, v_fnx, v_frt, v_fex, v_of, v_add, v_sub, v_neg, v_rel, v_abs, v_lenT, v_lenS, v_max, v_min, v_intB, v_intI, v_gcd, v_cutT, v_listT, v_backT, v_eqI, v_eqS, List.replicate, small, atI, ixN, S__law_whole, e1, e2]⟩
/-- a fraction -/
def isF : D → Bool
  | .tup [.int o, .int u] => decide (1 ≤ u) && decide (gI o u = 1)
  | _ => false
/-- what is asked of is known -/
def Kn (h : Hq) (d : D) : Prop := (∃ n, tyD h d = some n) ∧ ∀ l, d = .tup l → ∀ x ∈ l, ∃ n, tyD h x = some n
theorem v_eqT2 {h : Hq} {i j k l : Int} : dEqs false (.tup [.int i, .int j]) (.tup [.int k, .int l]) h = .ok (.bl (i == k && j == l)) h := by
  unfold dEqs eqQ dEqP
  simp [toPy, opts, SeqAt.shaped, PyData.eqv, PyData.eqvAll, PyData.canLay0, PyData.canLayAll0, PyData.depth, PyData.depthAll]
theorem low_same {o u : Int} (hu : 0 < u) : (o / gI o u == o && u / gI o u == u) = decide (gI o u = 1) := by
  have g0 := gI_pos (o := o) (u := u) (by omega)
  by_cases h1 : gI o u = 1
  · rw [h1]; simp
  · have h2 : ¬ u / gI o u = u := fun e => by
      have := Int.ediv_lt_of_lt_mul g0 (show u < u * gI o u by
        have : u * 2 ≤ u * gI o u := Int.mul_le_mul_of_nonneg_left (by omega) (by omega)
        omega)
      omega
    simp [h1, h2]
theorem isfr_ok {h : Hq} {d : D} (k : Kn h d) (b : ∀ o u, d = .tup [.int o, .int u] → u < 2 ^ 8000) : S_is_fraction [d] h = .ok (.bl (isF d)) h ∧ S__law_is_fraction [d] h = .ok (.bl (isF d)) h := by
  obtain ⟨⟨n, e⟩, kl⟩ := k
  have e1 := isi_tup e
  have other : n ≠ "tuple" → isF d = false → S_is_fraction [d] h = .ok (.bl (isF d)) h ∧ S__law_is_fraction [d] h = .ok (.bl (isF d)) h := by
    intro hn hf
    have hn' : (n == "tuple") = false := by simpa using hn
    rw [hn'] at e1
    rw [hf]
    exact ⟨by simp [c_bind, c_into, c_then, v_K, v_V, v_vR, v_Op, v_Un, v_bOf, v_isB, v_isBx, v_bAnd, v_bOr, v_bNot, v_eAnd, v_eOr, v_eNot, v_eIf, v_aNil, v_aCons, v_Tup, v_Lst, v_Dct, v_Call, v_CallK, v_Bi, v_Isi, v_Cut, v_oNone, v_oSome, v_vO, v_End, v_Seq, v_If, v_Ret, v_Expr, v_Set, v_Par, v_Raise, v_For, v_Put, v_fnx, v_frt, v_fex, v_of, v_add, v_sub, v_neg, v_rel, v_abs, v_lenT, v_lenS, v_max, v_min, v_intB, v_intI, v_gcd, v_cutT, v_listT, v_backT, v_eqI, v_eqS, List.replicate, small, atI, ixN, S_is_fraction, e1], by simp [c_bind, c_into, c_then, v_K, v_V, v_vR, v_Op, v_Un, v_bOf, v_isB, v_isBx, v_bAnd, v_bOr, v_bNot, v_eAnd, v_eOr, v_eNot, v_eIf, v_aNil, v_aCons, v_Tup, v_Lst, v_Dct, v_Call, v_CallK, v_Bi, v_Isi, v_Cut, v_oNone, v_oSome, v_vO, v_End, v_Seq, v_If, v_Ret, v_Expr, v_Set, v_Par, v_Raise, v_For, v_Put, v_fnx, v_frt, v_fex, v_of, v_add, v_sub, v_neg, v_rel, v_abs, v_lenT, v_lenS, v_max, v_min, v_intB, v_intI, v_gcd, v_cutT, v_listT, v_backT, v_eqI, v_eqS, List.replicate, small, atI, ixN, S__law_is_fraction, e1]⟩
  cases d with
  | tup l =>
    cases e
    have e1' : gIsi "tuple" (.tup l) h = .ok (.bl true) h := e1
    match l, kl, b, e1' with
    | [], _, _, e1' => exact ⟨by simp [c_bind, c_into, c_then, v_K, v_V, v_vR, v_Op, v_Un, v_bOf, v_isB, v_isBx, v_bAnd, v_bOr, v_bNot, v_eAnd, v_eOr, v_eNot, v_eIf, v_aNil, v_aCons, v_Tup, v_Lst, v_Dct, v_Call, v_CallK, v_Bi, v_Isi, v_Cut, v_oNone, v_oSome, v_vO, v_End, v_Seq, v_If, v_Ret, v_Expr, v_Set, v_Par, v_Raise, v_For, v_Put, v_fnx, v_frt, v_fex, v_of, v_add, v_sub, v_neg, v_rel, v_abs, v_lenT, v_lenS, v_max, v_min, v_intB, v_intI, v_gcd, v_cutT, v_listT, v_backT, v_eqI, v_eqS, List.replicate, small, atI, ixN, S_is_fraction, e1', isF], by simp [c_bind, c_into, c_then, v_K, v_V, v_vR, v_Op, v_Un, v_bOf, v_isB, v_isBx, v_bAnd, v_bOr, v_bNot, v_eAnd, v_eOr, v_eNot, v_eIf, v_aNil, v_aCons, v_Tup, v_Lst, v_Dct, v_Call, v_CallK, v_Bi, v_Isi, v_Cut, v_oNone, v_oSome, v_vO, v_End, v_Seq, v_If, v_Ret, v_Expr, v_Set, v_Par, v_Raise, v_For, v_Put, v_fnx, v_frt, v_fex, v_of, v_add, v_sub, v_neg, v_rel, v_abs, v_lenT, v_lenS, v_max, v_min, v_intB, v_intI, v_gcd, v_cutT, v_listT, v_backT, v_eqI, v_eqS, List.replicate, small, atI, ixN, S__law_is_fraction, e1', isF]⟩
    | [x], _, _, e1' => exact ⟨by simp [c_bind, c_into, c_then, v_K, v_V, v_vR, v_Op, v_Un, v_bOf, v_isB, v_isBx, v_bAnd, v_bOr, v_bNot, v_eAnd, v_eOr, v_eNot, v_eIf, v_aNil, v_aCons, v_Tup, v_Lst, v_Dct, v_Call, v_CallK, v_Bi, v_Isi, v_Cut, v_oNone, v_oSome, v_vO, v_End, v_Seq, v_If, v_Ret, v_Expr, v_Set, v_Par, v_Raise, v_For, v_Put, v_fnx, v_frt, v_fex, v_of, v_add, v_sub, v_neg, v_rel, v_abs, v_lenT, v_lenS, v_max, v_min, v_intB, v_intI, v_gcd, v_cutT, v_listT, v_backT, v_eqI, v_eqS, List.replicate, small, atI, ixN, S_is_fraction, e1', isF], by simp [c_bind, c_into, c_then, v_K, v_V, v_vR, v_Op, v_Un, v_bOf, v_isB, v_isBx, v_bAnd, v_bOr, v_bNot, v_eAnd, v_eOr, v_eNot, v_eIf, v_aNil, v_aCons, v_Tup, v_Lst, v_Dct, v_Call, v_CallK, v_Bi, v_Isi, v_Cut, v_oNone, v_oSome, v_vO, v_End, v_Seq, v_If, v_Ret, v_Expr, v_Set, v_Par, v_Raise, v_For, v_Put, v_fnx, v_frt, v_fex, v_of, v_add, v_sub, v_neg, v_rel, v_abs, v_lenT, v_lenS, v_max, v_min, v_intB, v_intI, v_gcd, v_cutT, v_listT, v_backT, v_eqI, v_eqS, List.replicate, small, atI, ixN, S__law_is_fraction, e1', isF]⟩
    | x :: y :: z :: r, _, _, e1' =>
      have hl : ¬ ((r.length : Int) + 1 + 1 + 1 = 2) := by omega
      exact ⟨by simp [c_bind, c_into, c_then, v_K, v_V, v_vR, v_Op, v_Un, v_bOf, v_isB, v_isBx, v_bAnd, v_bOr, v_bNot, v_eAnd, v_eOr, v_eNot, v_eIf, v_aNil, v_aCons, v_Tup, v_Lst, v_Dct, v_Call, v_CallK, v_Bi, v_Isi, v_Cut, v_oNone, v_oSome, v_vO, v_End, v_Seq, v_If, v_Ret, v_Expr, v_Set, v_Par, v_Raise, v_For, v_Put, v_fnx, v_frt, v_fex, v_of, v_add, v_sub, v_neg, v_rel, v_abs, v_lenT, v_lenS, v_max, v_min, v_intB, v_intI, v_gcd, v_cutT, v_listT, v_backT, v_eqI, v_eqS, List.replicate, small, atI, ixN, S_is_fraction, e1', isF, hl], by simp [c_bind, c_into, c_then, v_K, v_V, v_vR, v_Op, v_Un, v_bOf, v_isB, v_isBx, v_bAnd, v_bOr, v_bNot, v_eAnd, v_eOr, v_eNot, v_eIf, v_aNil, v_aCons, v_Tup, v_Lst, v_Dct, v_Call, v_CallK, v_Bi, v_Isi, v_Cut, v_oNone, v_oSome, v_vO, v_End, v_Seq, v_If, v_Ret, v_Expr, v_Set, v_Par, v_Raise, v_For, v_Put, v_fnx, v_frt, v_fex, v_of, v_add, v_sub, v_neg, v_rel, v_abs, v_lenT, v_lenS, v_max, v_min, v_intB, v_intI, v_gcd, v_cutT, v_listT, v_backT, v_eqI, v_eqS, List.replicate, small, atI, ixN, S__law_is_fraction, e1', isF, hl]⟩
    | [x, y], kl, b, e1' =>
      obtain ⟨nx, ex⟩ := kl _ rfl x (by simp)
      obtain ⟨ny, ey⟩ := kl _ rfl y (by simp)
      obtain ⟨w1, w2⟩ := whole_ok ex
      obtain ⟨w3, w4⟩ := whole_ok ey
      have v0 : dIx (.tup [x, y]) (.int 0) h = .ok x h := v_ixT (by simp [atI, ixN])
      have v1 : dIx (.tup [x, y]) (.int 1) h = .ok y h := v_ixT (by simp [atI, ixN])
      by_cases hx : isI x = true
      · by_cases hy : isI y = true
        · obtain ⟨o, rfl⟩ : ∃ o, x = .int o := by cases x <;> first | exact ⟨_, rfl⟩ | cases hx
          obtain ⟨u, rfl⟩ : ∃ u, y = .int u := by cases y <;> first | exact ⟨_, rfl⟩ | cases hy
          have hb := b o u rfl
          by_cases hu : 1 ≤ u
          · have hl := lowL_ok (h := h) (o := o) (show 0 < u by omega) hb
            have hs := low_same (o := o) (show 0 < u by omega)
            have hu' : 0 < u := by omega
            have hs' : (o / gI o u == o && u / gI o u == u) = decide (Nat.gcd o.natAbs u.natAbs = 1) := by rw [hs]; unfold gI; congr 1; simp; omega
            refine ⟨?_, ?_⟩
            · simp [c_bind, c_into, c_then, v_K, v_V, v_vR, v_Op, v_Un, v_bOf, v_isB, v_isBx, v_bAnd, v_bOr, v_bNot, v_eAnd, v_eOr, v_eNot, v_eIf, v_aNil, v_aCons, v_Tup, v_Lst, v_Dct, v_Call, v_CallK, v_Bi, v_Isi, v_Cut, v_oNone, v_oSome, v_vO, v_End, v_Seq, v_If, v_Ret, v_Expr, v_Set, v_Par, v_Raise, v_For, v_Put, v_fnx, v_frt, v_fex, v_of, v_add, v_sub, v_neg, v_rel, v_abs, v_lenT, v_lenS, v_max, v_min, v_intB, v_intI, v_gcd, v_cutT, v_listT, v_backT, v_eqI, v_eqS, List.replicate, small, atI, ixN, S_is_fraction, e1', isF, w1, w3, isI, hu, gI, v_SetT, tgT, setAll]
              exact Bool.eq_iff_iff.mpr ⟨fun e => decide_eq_true (eq_of_beq e), fun e => beq_iff_eq.mpr (of_decide_eq_true e)⟩
            · simp [c_bind, c_into, c_then, v_K, v_V, v_vR, v_Op, v_Un, v_bOf, v_isB, v_isBx, v_bAnd, v_bOr, v_bNot, v_eAnd, v_eOr, v_eNot, v_eIf, v_aNil, v_aCons, v_Tup, v_Lst, v_Dct, v_Call, v_CallK, v_Bi, v_Isi, v_Cut, v_oNone, v_oSome, v_vO, v_End, v_Seq, v_If, v_Ret, v_Expr, v_Set, v_Par, v_Raise, v_For, v_Put, v_fnx, v_frt, v_fex, v_of, v_add, v_sub, v_neg, v_rel, v_abs, v_lenT, v_lenS, v_max, v_min, v_intB, v_intI, v_gcd, v_cutT, v_listT, v_backT, v_eqI, v_eqS, List.replicate, small, atI, ixN, S__law_is_fraction, e1', isF, w2, w4, isI, hu, hu', v0, v1, hl, v_eqT2, hs]
          · have hu' : ¬ 0 < u := by omega
            refine ⟨?_, ?_⟩
            · simp [c_bind, c_into, c_then, v_K, v_V, v_vR, v_Op, v_Un, v_bOf, v_isB, v_isBx, v_bAnd, v_bOr, v_bNot, v_eAnd, v_eOr, v_eNot, v_eIf, v_aNil, v_aCons, v_Tup, v_Lst, v_Dct, v_Call, v_CallK, v_Bi, v_Isi, v_Cut, v_oNone, v_oSome, v_vO, v_End, v_Seq, v_If, v_Ret, v_Expr, v_Set, v_Par, v_Raise, v_For, v_Put, v_fnx, v_frt, v_fex, v_of, v_add, v_sub, v_neg, v_rel, v_abs, v_lenT, v_lenS, v_max, v_min, v_intB, v_intI, v_gcd, v_cutT, v_listT, v_backT, v_eqI, v_eqS, List.replicate, small, atI, ixN, S_is_fraction, e1', isF, w1, w3, isI, hu, v_SetT, tgT, setAll]
            · simp [c_bind, c_into, c_then, v_K, v_V, v_vR, v_Op, v_Un, v_bOf, v_isB, v_isBx, v_bAnd, v_bOr, v_bNot, v_eAnd, v_eOr, v_eNot, v_eIf, v_aNil, v_aCons, v_Tup, v_Lst, v_Dct, v_Call, v_CallK, v_Bi, v_Isi, v_Cut, v_oNone, v_oSome, v_vO, v_End, v_Seq, v_If, v_Ret, v_Expr, v_Set, v_Par, v_Raise, v_For, v_Put, v_fnx, v_frt, v_fex, v_of, v_add, v_sub, v_neg, v_rel, v_abs, v_lenT, v_lenS, v_max, v_min, v_intB, v_intI, v_gcd, v_cutT, v_listT, v_backT, v_eqI, v_eqS, List.replicate, small, atI, ixN, S__law_is_fraction, e1', isF, w2, w4, isI, hu, hu', v0, v1]
        · have hy' : isI y = false := by simpa using hy
          have hf : isF (.tup [x, y]) = false := by
            cases x <;> first | rfl | (cases y <;> first | rfl | cases hy')
          rw [hf]
          exact ⟨by simp [c_bind, c_into, c_then, v_K, v_V, v_vR, v_Op, v_Un, v_bOf, v_isB, v_isBx, v_bAnd, v_bOr, v_bNot, v_eAnd, v_eOr, v_eNot, v_eIf, v_aNil, v_aCons, v_Tup, v_Lst, v_Dct, v_Call, v_CallK, v_Bi, v_Isi, v_Cut, v_oNone, v_oSome, v_vO, v_End, v_Seq, v_If, v_Ret, v_Expr, v_Set, v_Par, v_Raise, v_For, v_Put, v_fnx, v_frt, v_fex, v_of, v_add, v_sub, v_neg, v_rel, v_abs, v_lenT, v_lenS, v_max, v_min, v_intB, v_intI, v_gcd, v_cutT, v_listT, v_backT, v_eqI, v_eqS, List.replicate, small, atI, ixN, S_is_fraction, e1', w1, w3, hx, hy', v_SetT, tgT, setAll], by simp [c_bind, c_into, c_then, v_K, v_V, v_vR, v_Op, v_Un, v_bOf, v_isB, v_isBx, v_bAnd, v_bOr, v_bNot, v_eAnd, v_eOr, v_eNot, v_eIf, v_aNil, v_aCons, v_Tup, v_Lst, v_Dct, v_Call, v_CallK, v_Bi, v_Isi, v_Cut, v_oNone, v_oSome, v_vO, v_End, v_Seq, v_If, v_Ret, v_Expr, v_Set, v_Par, v_Raise, v_For, v_Put, v_fnx, v_frt, v_fex, v_of, v_add, v_sub, v_neg, v_rel, v_abs, v_lenT, v_lenS, v_max, v_min, v_intB, v_intI, v_gcd, v_cutT, v_listT, v_backT, v_eqI, v_eqS, List.replicate, small, atI, ixN, S__law_is_fraction, e1', w2, w4, hx, hy', v0, v1]⟩
      · have hx' : isI x = false := by simpa using hx
        have hf : isF (.tup [x, y]) = false := by cases x <;> first | rfl | cases hx'
        rw [hf]
        exact ⟨by simp [c_bind, c_into, c_then, v_K, v_V, v_vR, v_Op, v_Un, v_bOf, v_isB, v_isBx, v_bAnd, v_bOr, v_bNot, v_eAnd, v_eOr, v_eNot, v_eIf, v_aNil, v_aCons, v_Tup, v_Lst, v_Dct, v_Call, v_CallK, v_Bi, v_Isi, v_Cut, v_oNone, v_oSome, v_vO, v_End, v_Seq, v_If, v_Ret, v_Expr, v_Set, v_Par, v_Raise, v_For, v_Put, v_fnx, v_frt, v_fex, v_of, v_add, v_sub, v_neg, v_rel, v_abs, v_lenT, v_lenS, v_max, v_min, v_intB, v_intI, v_gcd, v_cutT, v_listT, v_backT, v_eqI, v_eqS, List.replicate, small, atI, ixN, S_is_fraction, e1', w1, w3, hx', v_SetT, tgT, setAll], by simp [c_bind, c_into, c_then, v_K, v_V, v_vR, v_Op, v_Un, v_bOf, v_isB, v_isBx, v_bAnd, v_bOr, v_bNot, v_eAnd, v_eOr, v_eNot, v_eIf, v_aNil, v_aCons, v_Tup, v_Lst, v_Dct, v_Call, v_CallK, v_Bi, v_Isi, v_Cut, v_oNone, v_oSome, v_vO, v_End, v_Seq, v_If, v_Ret, v_Expr, v_Set, v_Par, v_Raise, v_For, v_Put, v_fnx, v_frt, v_fex, v_of, v_add, v_sub, v_neg, v_rel, v_abs, v_lenT, v_lenS, v_max, v_min, v_intB, v_intI, v_gcd, v_cutT, v_listT, v_backT, v_eqI, v_eqS, List.replicate, small, atI, ixN, S__law_is_fraction, e1', w2, w4, hx', v0, v1]⟩
  | ref m =>
    refine other ?_ rfl
    rcases ty_ref e with rfl | rfl <;> decide
  | opq => cases e
  | adr a => cases e
  | ty s => cases e
  | _ => cases e; exact other (by decide) rfl
theorem seq_nx {f g : Ss} {fr fr1 : Fr} {h h1 : Hq} (e : f fr h = .nx fr1 h1) : sSeq f g fr h = g fr1 h1 := by unfold sSeq; rw [e]; rfl
theorem seq_rt {f g : Ss} {fr : Fr} {d : D} {h h1 : Hq} (e : f fr h = .rt d h1) : sSeq f g fr h = .rt d h1 := by unfold sSeq; rw [e]; rfl
theorem Step.lst {p q : Nat} {h h' : Hq} {l : List D} (S : Step p h h') (n : q ≠ p) (e : lstAt h q = some l) : lstAt h' q = some l := by
  have e' := lstAt_some e
  have := S.old q n (lstAt_lt e)
  unfold lstAt
  rw [this, e']
theorem Step.get {p q : Nat} {h h' : Hq} {c : Cell} (S : Step p h h') (n : q ≠ p) (e : h[q]? = some c) : h'[q]? = some c := by
  rw [S.old q n (List.getElem?_eq_some_iff.mp e).1, e]
theorem PotAt.lt {h : Hq} {p : Nat} {n : Int} (P : PotAt h p n) : p < h.length := by
  obtain ⟨a, b, c, e, _⟩ := P.ex
  exact lstAt_lt e
theorem lst_new (h : Hq) (l : List D) : lstAt (h ++ [.lst l]) h.length = some l := by unfold lstAt; simp
theorem div_in {o g B : Int} (hg : 0 < g) (a : -B < o) (b : o < B) : -B < o / g ∧ o / g < B := by
  by_cases h : 0 ≤ o
  · have h1 := Int.ediv_nonneg h (show 0 ≤ g by omega)
    have h2 := Int.ediv_le_self g h
    omega
  · have h1 : o ≤ o / g := by
      refine Int.le_ediv_of_mul_le hg ?_
      have := Int.mul_le_mul_of_nonpos_left (a := o) (b := g) (c := 1) (by omega) (by omega)
      omega
    have h2 := Int.ediv_neg_of_neg_of_pos (show o < 0 by omega) hg
    omega
structure Sh (q : PyData) (k w : Nat) : Prop where
  sh : q.showable = true
  hd : q.hasDict = false
  dp : q.depth ≤ k
  ls : q.leavesShort 2000 = true
  wt : q.weight ≤ w
theorem fits_of {q : PyData} (h1 : q.showable = true) (h2 : q.hasDict = false ∨ noLst q = true) (h3 : q.depth ≤ 60) (h4 : q.leavesShort 2000 = true) (h5 : q.weight ≤ 8000) : shows q = true := by
  have h6 := PyData.shown_le 2000 (by decide) q h4
  have h7 : q.shown.length ≤ 16777216 := by
    have : (2000 + 2) * q.weight ≤ (2000 + 2) * 8000 := Nat.mul_le_mul_left _ h5
    omega
  unfold shows small
  rcases h2 with h2 | h2 <;> simp [h1, h2, h3, h7]
theorem Sh.fits {q : PyData} {k w : Nat} (s : Sh q k w) (hk : k ≤ 60) (hw : w ≤ 8000) : shows q = true := fits_of s.sh (.inl s.hd) (Nat.le_trans s.dp hk) s.ls (Nat.le_trans s.wt hw)
theorem lg300 {i : Int} (a : -(2 ^ 300) < i) (b : i < 2 ^ 300) : i.natAbs.log2 < 300 := lgI (k := 300) a b (by decide)
theorem Sh.int {i : Int} (a : -(2 ^ 300) < i) (b : i < 2 ^ 300) : Sh (.int i) 0 301 := by
  have h1 := lg300 a b
  refine ⟨decide_eq_true (by omega), rfl, Nat.le_refl _, decide_eq_true ?_, ?_⟩
  · exact Nat.le_trans (PyProof.Rows.int_text_len_1921 (by omega)) (by decide)
  · show (if i == 0 then 0 else i.natAbs.log2 + 1) ≤ 301
    split <;> omega
theorem cps_lt (s : String) : (Str.ofString s).cps.toList.all (fun c => decide (c < 16 ^ 8)) = true := by
  rw [Str.ofString_eq_toList]
  simp only [List.all_eq_true, decide_eq_true_eq]
  intro c hc
  obtain ⟨x, _, rfl⟩ := List.mem_map.mp hc
  have := x.valid
  have h2 : x.toNat < 0x110000 := by
    rcases this with q | q
    · exact Nat.lt_of_lt_of_le q (by decide)
    · exact q.2
  omega
theorem Sh.text {i : Int} (a : -(2 ^ 300) < i) (b : i < 2 ^ 300) : Sh (.str (toString i)) 0 1921 := by
  have h1 := lg300 a b
  exact ⟨rfl, rfl, Nat.le_refl _, cps_lt _, PyProof.Rows.int_text_len_1921 (by omega)⟩
theorem seq_sh {k w : Nat} : ∀ {ps : List PyData}, (∀ q ∈ ps, Sh q k w) → PyData.showableAll ps = true ∧ PyData.hasDictAll ps = false ∧ PyData.depthAll ps ≤ k ∧ PyData.leavesShortAll 2000 ps = true ∧ PyData.weightAll ps ≤ ps.length * (w + 1)
  | [], _ => ⟨rfl, rfl, Nat.zero_le _, rfl, by simp [PyData.weightAll]⟩
  | q :: ps, h => by
    obtain ⟨a1, a2, a3, a4, a5⟩ := h q (by simp)
    obtain ⟨b1, b2, b3, b4, b5⟩ := seq_sh (ps := ps) fun r hr => h r (by simp [hr])
    refine ⟨by simp [PyData.showableAll, a1, b1], by simp [PyData.hasDictAll, a2, b2], ?_, by simp [PyData.leavesShortAll, a4, b4], ?_⟩
    · show max q.depth (PyData.depthAll ps) ≤ k
      omega
    · show q.weight + 1 + PyData.weightAll ps ≤ (ps.length + 1) * (w + 1)
      rw [Nat.add_mul]
      omega
theorem Sh.tup {k w : Nat} {ps : List PyData} (h : ∀ q ∈ ps, Sh q k w) : Sh (.tuple ps) (k + 1) (ps.length * (w + 1)) := by
  obtain ⟨a1, a2, a3, a4, a5⟩ := seq_sh h
  exact ⟨a1, a2, Nat.add_le_add_right a3 1, a4, a5⟩
theorem Sh.lst {k w : Nat} {ps : List PyData} (h : ∀ q ∈ ps, Sh q k w) : Sh (.list ps) (k + 1) (ps.length * (w + 1)) := by
  obtain ⟨a1, a2, a3, a4, a5⟩ := seq_sh h
  exact ⟨a1, a2, Nat.add_le_add_right a3 1, a4, a5⟩
theorem Sh.more {q : PyData} {k w k' w' : Nat} (s : Sh q k w) (hk : k ≤ k') (hw : w ≤ w') : Sh q k' w' := ⟨s.sh, s.hd, Nat.le_trans s.dp hk, s.ls, Nat.le_trans s.wt hw⟩
theorem opts_int {h : Hq} {n : Nat} : ∀ l : List Int, opts (toPyR h (n + 1)) (l.map D.int) = some (l.map PyData.int)
  | [] => rfl
  | i :: l => by
    have ih := opts_int (h := h) (n := n) l
    simp only [List.map_cons, opts, ih]
    rfl
theorem ints_sh {l : List Int} (h : ∀ i ∈ l, -(2 ^ 300) < i ∧ i < 2 ^ 300) : ∀ q ∈ l.map PyData.int, Sh q 0 301 := by
  intro q hq
  obtain ⟨i, hi, rfl⟩ := List.mem_map.mp hq
  exact Sh.int (h i hi).1 (h i hi).2
theorem turns_list {get : Nat → Hq → Option D} {fin : Nat → Hq → Bool} {t : Tg} {b : Ss} {h : Hq} {l : List D} {I : Fr → Prop} (hget : ∀ i, get i h = l[i]?) (hfin : fin l.length h = true)
    (hb : ∀ d ∈ l, ∀ fr, I fr → ∃ fr1 fr2, t d fr = some fr1 ∧ b fr1 h = .nx fr2 h ∧ I fr2) : ∀ (k i : Nat) (fr : Fr), i + k = l.length → I fr → ∃ fr', turns get fin t b k i fr h = .nx fr' h ∧ I fr'
  | 0, i, fr, hk, hI => by
    have : i = l.length := by omega
    subst this
    exact ⟨fr, by unfold turns; rw [if_pos hfin], hI⟩
  | k + 1, i, fr, hk, hI => by
    have hi : i < l.length := by omega
    obtain ⟨fr1, fr2, e1, e2, hI2⟩ := hb l[i] (List.getElem_mem hi) fr hI
    obtain ⟨fr', e3, hI3⟩ := turns_list hget hfin hb k (i + 1) fr2 (by omega) hI2
    refine ⟨fr', ?_, hI3⟩
    unfold turns
    rw [hget, List.getElem?_eq_getElem hi]
    simp only [e1, e2]
    exact e3
theorem turns_range {n j : Nat} {b : Ss} {I : Nat → Fr → Hq → Prop} {get : Nat → Hq → Option D} {fin : Nat → Hq → Bool} (hget : ∀ i h, i < n → get i h = some (.int i)) (hfin : ∀ h, fin n h = true)
    (hb : ∀ i fr h, i < n → I i fr h → ∃ fr2 h2, b (fr.set j (some (.int i))) h = .nx fr2 h2 ∧ I (i + 1) fr2 h2) : ∀ (k i : Nat) (fr : Fr) (h : Hq), i + k = n → I i fr h → ∃ fr' h', turns get fin (tgN j) b k i fr h = .nx fr' h' ∧ I n fr' h'
  | 0, i, fr, h, hk, hI => by
    have : i = n := by omega
    subst this
    exact ⟨fr, h, by unfold turns; rw [if_pos (hfin h)], hI⟩
  | k + 1, i, fr, h, hk, hI => by
    have hi : i < n := by omega
    obtain ⟨fr2, h2, e2, hI2⟩ := hb i fr h hi hI
    obtain ⟨fr', h', e3, hI3⟩ := turns_range hget hfin hb k (i + 1) fr2 h2 (by omega) hI2
    refine ⟨fr', h', ?_, hI3⟩
    unfold turns
    rw [hget i h hi]
    simp only [tgN, e2]
    exact e3
theorem repr_ok {h : Hq} {d : D} {q : PyData} (e : toPyR h 60 d = some q) (s : shows q = true) : gRepr [d] h = .ok (.str q.shown) h := by
  unfold gRepr
  simp only [e, s, if_true]
theorem repr_bl {h : Hq} (b : Bool) : gRepr [.bl b] h = .ok (.str (PyData.bool b).shown) h := repr_ok rfl (by cases b <;> decide +kernel)
theorem picks_list {h1 : Hq} {m0 j : Nat} {l : List D} {f : D → D} {e : Sx} {fr : Fr} (hl : lstAt h1 m0 = some l) (he : ∀ d ∈ l, ∀ h, e (fr.set j (some d)) h = .ok (f d) h) (hs : l.length ≤ 1000) :
    ∀ (k i : Nat) (acc : List D), i + k = l.length → acc.length = i → picks h1.length (srcC m0 l.length).get (srcC m0 l.length).fin (tgN j) cYes e fr k i (h1 ++ [.lst acc]) = .ok (.ref h1.length) (h1 ++ [.lst (acc ++ (l.drop i).map f)])
  | 0, i, acc, hk, ha => by
    have hi : i = l.length := by omega
    subst hi
    unfold picks
    have : (srcC m0 l.length).fin l.length (h1 ++ [.lst acc]) = true := by simp [srcC, lstAt_app hl]
    rw [if_pos this]
    simp
  | k + 1, i, acc, hk, ha => by
    have hi : i < l.length := by omega
    unfold picks
    have g : (srcC m0 l.length).get i (h1 ++ [.lst acc]) = some l[i] := by simp [srcC, lstAt_app hl, hi]
    have s : small (acc.length + 1) = true := decide_eq_true (by omega)
    rw [g]
    simp only [tgN, cYes, he l[i] (List.getElem_mem hi), lst_new, s, if_true]
    have st : (h1 ++ [Cell.lst acc]).set h1.length (.lst (acc ++ [f l[i]])) = h1 ++ [.lst (acc ++ [f l[i]])] := by simp [List.set_append]
    rw [st]
    have ih := picks_list hl he hs k (i + 1) (acc ++ [f l[i]]) (by omega) (by simp [ha])
    try simp only [tgN] at ih
    rw [ih]
    congr 4
    rw [List.append_assoc]
    congr 1
    rw [List.drop_eq_getElem_cons hi]
    rfl
end MI
end

section
set_option Elab.async false
set_option linter.all false
set_option autoImplicit false
set_option maxRecDepth 100000
set_option exponentiation.threshold 20000
set_option maxHeartbeats 4000000
/-! fractions as pairs: sizes, lowest terms, order, and what the defs about them are worth -/
open PySem L2
namespace MI
/-! ### sizes -/
def Bd (B : Nat) (x : Int) : Prop := x.natAbs < 2 ^ B
theorem Bd.mono {A B : Nat} {x : Int} (h : Bd A x) (hab : A ≤ B) : Bd B x := Nat.lt_of_lt_of_le h (Nat.pow_le_pow_right (by decide) hab)
theorem Bd.mul {A B : Nat} {x y : Int} (h : Bd A x) (k : Bd B y) : Bd (A + B) (x * y) := by
  unfold Bd at *
  rw [Int.natAbs_mul, Nat.pow_add]
  exact Nat.mul_lt_mul'' h k
theorem Bd.add {A : Nat} {x y : Int} (h : Bd A x) (k : Bd A y) : Bd (A + 1) (x + y) := by
  unfold Bd at *
  have := Int.natAbs_add_le x y
  rw [Nat.pow_succ]
  omega
theorem Bd.neg {A : Nat} {x : Int} (h : Bd A x) : Bd A (-x) := by
  unfold Bd at *
  rwa [Int.natAbs_neg]
theorem Bd.sub {A : Nat} {x y : Int} (h : Bd A x) (k : Bd A y) : Bd (A + 1) (x - y) := by
  rw [Int.sub_eq_add_neg]
  exact h.add k.neg
theorem Bd.of {B : Nat} {x : Int} (a : -(2 ^ B) < x) (b : x < 2 ^ B) : Bd B x := by
  unfold Bd
  have : ((2 ^ B : Nat) : Int) = (2 ^ B : Int) := by push_cast; rfl
  omega
theorem Bd.lt {B : Nat} {x : Int} (h : Bd B x) : x < 2 ^ B := by
  unfold Bd at h
  have : ((2 ^ B : Nat) : Int) = (2 ^ B : Int) := by push_cast; rfl
  omega
theorem Bd.gt {B : Nat} {x : Int} (h : Bd B x) : -(2 ^ B) < x := by
  unfold Bd at h
  have : ((2 ^ B : Nat) : Int) = (2 ^ B : Int) := by push_cast; rfl
  omega
theorem Bd.lg {B : Nat} {x : Int} (h : Bd B x) (hb : B < 400000) : x.natAbs.log2 < 400000 := by
  unfold Bd at h
  by_cases h0 : x.natAbs = 0
  · rw [h0]; decide
  · exact Nat.lt_trans ((Nat.log2_lt h0).mpr h) hb
theorem Bd.mk {A B : Nat} {x y : Int} (h : Bd A x) (k : Bd B y) (ha : A < 400000 := by decide) (hb : B < 400000 := by decide) : mulOk x y = true := mulOk_of (h.lg ha) (k.lg hb)
theorem Bd.dv {B : Nat} {j : Int} (h : Bd B j) (h0 : 0 < j) (hb : B ≤ 8000 := by decide) : divOk j = true := by
  unfold divOk Bd at *
  have := (Nat.log2_lt (show j.natAbs ≠ 0 by omega)).mpr h
  have h1 : j.natAbs.log2 < 9000 := by omega
  simp [h0, h1]
theorem Bd.div {B : Nat} {x g : Int} (h : Bd B x) : Bd B (x / g) := by
  unfold Bd at *
  exact Nat.lt_of_le_of_lt (Int.natAbs_ediv_le_natAbs x g) h
theorem Bd.one : Bd 1 1 := by unfold Bd; decide
/-! ### lowest terms -/
abbrev Qp := Int × Int
/-- a fraction as it lies -/
abbrev dq (q : Qp) : D := .tup [.int q.1, .int q.2]
def lowQ (x y : Int) : Qp := (x / gI x y, y / gI x y)
structure Fq (B : Nat) (q : Qp) : Prop where
  pos : 1 ≤ q.2
  low : gI q.1 q.2 = 1
  b1 : Bd B q.1
  b2 : Bd B q.2
theorem Fq.mono {A B : Nat} {q : Qp} (f : Fq A q) (h : A ≤ B) : Fq B q := ⟨f.pos, f.low, f.b1.mono h, f.b2.mono h⟩
theorem gI_dvd1 (x y : Int) : gI x y ∣ x := by
  unfold gI
  exact Int.ofNat_dvd_left.mpr (Nat.gcd_dvd_left _ _)
theorem gI_dvd2 (x y : Int) : gI x y ∣ y := by
  unfold gI
  exact Int.ofNat_dvd_left.mpr (Nat.gcd_dvd_right _ _)
theorem lowQ_x {x y : Int} : gI x y * (lowQ x y).1 = x := Int.mul_ediv_cancel' (gI_dvd1 x y)
theorem lowQ_y {x y : Int} : gI x y * (lowQ x y).2 = y := Int.mul_ediv_cancel' (gI_dvd2 x y)
theorem lowQ_pos {x y : Int} (h : 0 < y) : 0 < (lowQ x y).2 := by
  have g := gI_pos (o := x) (u := y) (by omega)
  have e := lowQ_y (x := x) (y := y)
  by_cases q : 0 < (lowQ x y).2
  · exact q
  · have := Int.mul_nonpos_of_nonneg_of_nonpos (a := gI x y) (b := (lowQ x y).2) (by omega) (by omega)
    omega
theorem lowQ_low {x y : Int} (h : 0 < y) : gI (lowQ x y).1 (lowQ x y).2 = 1 := by
  have g : 0 < Nat.gcd x.natAbs y.natAbs := Nat.gcd_pos_of_pos_right _ (by omega)
  have gp := gI_pos (o := x) (u := y) (by omega)
  have e1 : (x / gI x y).natAbs = x.natAbs / Nat.gcd x.natAbs y.natAbs := by
    rw [Int.natAbs_ediv_of_dvd (gI_dvd1 x y)]; rfl
  have e2 : (y / gI x y).natAbs = y.natAbs / Nat.gcd x.natAbs y.natAbs := by
    rw [Int.natAbs_ediv_of_dvd (gI_dvd2 x y)]; rfl
  show ((Nat.gcd (x / gI x y).natAbs (y / gI x y).natAbs : Nat) : Int) = 1
  rw [e1, e2, Nat.gcd_div_gcd_div_gcd_of_pos_right (by omega)]
  rfl
theorem lowQ_ok {B : Nat} {x y : Int} (h : 0 < y) (a : Bd B x) (b : Bd B y) : Fq B (lowQ x y) := ⟨lowQ_pos h, lowQ_low h, a.div, b.div⟩
theorem lowQ_cross {x y : Int} (h : 0 < y) : (lowQ x y).1 * y = x * (lowQ x y).2 := by
  have e1 := lowQ_x (x := x) (y := y)
  have e2 := lowQ_y (x := x) (y := y)
  generalize lowQ x y = q at *
  generalize gI x y = g at *
  subst e1 e2
  grind
/-- two in lowest terms of one worth are one -/
theorem Fq.eq {a b c d : Int} (hb : 0 < b) (hd : 0 < d) (g1 : gI a b = 1) (g2 : gI c d = 1) (e : a * d = c * b) : a = c ∧ b = d := by
  unfold gI at g1 g2
  have c1 : Nat.Coprime b.natAbs a.natAbs := by unfold Nat.Coprime; rw [Nat.gcd_comm]; omega
  have c2 : Nat.Coprime d.natAbs c.natAbs := by unfold Nat.Coprime; rw [Nat.gcd_comm]; omega
  have en : a.natAbs * d.natAbs = c.natAbs * b.natAbs := by rw [← Int.natAbs_mul, ← Int.natAbs_mul, e]
  have d1 : b.natAbs ∣ d.natAbs := c1.dvd_of_dvd_mul_left (by rw [en]; exact Nat.dvd_mul_left _ _)
  have d2 : d.natAbs ∣ b.natAbs := c2.dvd_of_dvd_mul_left (by rw [← en]; exact Nat.dvd_mul_left _ _)
  have e1 := Nat.dvd_antisymm d1 d2
  have e2 : b = d := by omega
  subst e2
  exact ⟨Int.eq_of_mul_eq_mul_right (by omega) e, rfl⟩
theorem lowQ_eq {x y z w : Int} (h1 : 0 < y) (h2 : 0 < w) (e : x * w = z * y) : lowQ x y = lowQ z w := by
  have a := lowQ_cross (x := x) h1
  have b := lowQ_cross (x := z) h2
  have p1 := lowQ_pos (x := x) h1
  have p2 := lowQ_pos (x := z) h2
  have q : (lowQ x y).1 * (lowQ z w).2 = (lowQ z w).1 * (lowQ x y).2 := by
    have yw : y * w ≠ 0 := Int.mul_ne_zero (by omega) (by omega)
    refine Int.eq_of_mul_eq_mul_right yw ?_
    generalize (lowQ x y).1 = p at *
    generalize (lowQ x y).2 = r at *
    generalize (lowQ z w).1 = s at *
    generalize (lowQ z w).2 = t at *
    grind
  have := Fq.eq p1 p2 (lowQ_low h1) (lowQ_low h2) q
  exact Prod.ext this.1 this.2
theorem lowQ_self {q : Qp} (h : gI q.1 q.2 = 1) : lowQ q.1 q.2 = q := by
  unfold lowQ
  rw [h]
  simp
/-! ### order -/
def qlt (a b : Qp) : Prop := a.1 * b.2 < b.1 * a.2
instance (a b : Qp) : Decidable (qlt a b) := inferInstanceAs (Decidable (_ < _))
section
variable {h : Hq} {a b c d : Int}
theorem qx0 {x y : D} : dIx (.tup [x, y]) (.int 0) h = .ok x h := v_ixT rfl
theorem qx1 {x y : D} : dIx (.tup [x, y]) (.int 1) h = .ok y h := v_ixT rfl
theorem less_ok {A : Nat} (ha : Bd A a) (hb : Bd A b) (hc : Bd A c) (hd : Bd A d) (hA : A < 400000 := by decide) : S__law_less [.tup [.int a, .int b], .tup [.int c, .int d]] h = .ok (.bl (decide (a * d < c * b))) h := by
  simp [c_bind, c_into, c_then, v_K, v_V, v_vR, v_Op, v_Un, v_bOf, v_isB, v_isBx, v_bAnd, v_bOr, v_bNot, v_eAnd, v_eOr, v_eNot, v_eIf, v_aNil, v_aCons, v_Tup, v_Lst, v_Dct, v_Call, v_CallK, v_Bi, v_Isi, v_Cut, v_oNone, v_oSome, v_vO, v_End, v_Seq, v_If, v_Ret, v_Expr, v_Set, v_Par, v_Raise, v_For, v_Put, v_fnx, v_frt, v_fex, v_of, v_add, v_sub, v_neg, v_rel, v_abs, v_lenT, v_lenS, v_max, v_min, v_intB, v_intI, v_gcd, v_cutT, v_listT, v_backT, v_eqI, v_eqS, List.replicate, small, atI, ixN, S__law_less, qx0, qx1, v_mul (ha.mk hd hA hA), v_mul (hc.mk hb hA hA)]
theorem below_ok {A : Nat} (ha : Bd A a) (hb : Bd A b) (hc : Bd A c) (hd : Bd A d) (hA : A < 400000 := by decide) : S_below [.tup [.int a, .int b], .tup [.int c, .int d]] h = .ok (.bl (decide (a * d < c * b))) h := by
  simp [c_bind, c_into, c_then, v_K, v_V, v_vR, v_Op, v_Un, v_bOf, v_isB, v_isBx, v_bAnd, v_bOr, v_bNot, v_eAnd, v_eOr, v_eNot, v_eIf, v_aNil, v_aCons, v_Tup, v_Lst, v_Dct, v_Call, v_CallK, v_Bi, v_Isi, v_Cut, v_oNone, v_oSome, v_vO, v_End, v_Seq, v_If, v_Ret, v_Expr, v_Set, v_Par, v_Raise, v_For, v_Put, v_fnx, v_frt, v_fex, v_of, v_add, v_sub, v_neg, v_rel, v_abs, v_lenT, v_lenS, v_max, v_min, v_intB, v_intI, v_gcd, v_cutT, v_listT, v_backT, v_eqI, v_eqS, List.replicate, small, atI, ixN, S_below, qx0, qx1, v_mul (ha.mk hd hA hA), v_mul (hc.mk hb hA hA)]
theorem v_eqT2b {i j k l : Int} {n : Bool} : dEqs n (.tup [.int i, .int j]) (.tup [.int k, .int l]) h = .ok (.bl ((i == k && j == l) != n)) h := by
  unfold dEqs eqQ dEqP
  simp [toPy, opts, SeqAt.shaped, PyData.eqv, PyData.eqvAll, PyData.canLay0, PyData.canLayAll0, PyData.depth, PyData.depthAll]
theorem kn_int2 : Kn h (.tup [.int a, .int b]) := ⟨⟨_, rfl⟩, fun l e x hx => by
  cases e
  simp at hx
  rcases hx with rfl | rfl <;> exact ⟨_, rfl⟩⟩
theorem isq_ok {B : Nat} (f : Fq B (a, b)) (hB : B ≤ 8000 := by decide) : S_is_fraction [.tup [.int a, .int b]] h = .ok (.bl true) h := by
  have hb : b < 2 ^ 8000 := (f.b2.mono hB).lt
  have h1 : 1 ≤ b := f.pos
  have h2 : gI a b = 1 := f.low
  rw [(isfr_ok kn_int2 (fun o u e => by cases e; exact hb)).1]
  simp [isF, h1, h2]
theorem lawfr_ok {B : Nat} (f : Fq B (a, b)) (hB : B ≤ 8000 := by decide) : S__law_is_fraction [.tup [.int a, .int b]] h = .ok (.bl true) h := by
  have hb : b < 2 ^ 8000 := (f.b2.mono hB).lt
  have h1 : 1 ≤ b := f.pos
  have h2 : gI a b = 1 := f.low
  rw [(isfr_ok kn_int2 (fun o u e => by cases e; exact hb)).2]
  simp [isF, h1, h2]
theorem low_ok {B : Nat} (hb : 0 < b) (b2 : Bd B b) (hB : B ≤ 8000 := by decide) : S__law_lowest [.int a, .int b] h = .ok (dq (lowQ a b)) h := lowL_ok hb (b2.mono hB).lt
theorem lowp_ok {B : Nat} (hb : 0 < b) (b2 : Bd B b) (hB : B ≤ 8000 := by decide) : S_lowest [.int a, .int b] h = .ok (dq (lowQ a b)) h := lowP_ok hb (b2.mono hB).lt
/-- within what is reckoned with -/
def mom (q : Qp) : Prop := 0 ≤ q.1 ∧ q.1 ≤ 1000000 * q.2
instance (q : Qp) : Decidable (mom q) := inferInstanceAs (Decidable (_ ∧ _))
theorem v_chain {p q : Int → Int → Bool} {x y z : Sx} {fr : Fr} : eChain p q x y z fr h = (x fr h).bind fun u h1 => (y fr h1).bind fun v h2 => match u, v with
    | .int i, .int j => if p i j = true then (z fr h2).bind fun w h3 => dRel q (.int j) w h3 else .ok (.bl false) h2
    | _, _ => .no := rfl
theorem ismom_ok {B : Nat} (f : Fq B (a, b)) (hB : B ≤ 8000 := by decide) : S_is_moment [.tup [.int a, .int b]] h = .ok (.bl (decide (mom (a, b)))) h := by
  have m : mulOk 1000000 b = true := Bd.mk (A := 30) (B := 8000) (by unfold Bd; decide) (f.b2.mono hB)
  have h1 : 1 ≤ b := f.pos
  have h2 : Nat.gcd a.natAbs b.natAbs = 1 := by have := f.low; unfold gI at this; exact Int.ofNat.inj this
  have i1 : ∀ l, gIsi "tuple" (.tup l) h = .ok (.bl true) h := fun l => rfl
  have i2 : ∀ j, gIsi "int" (.int j) h = .ok (.bl true) h := fun j => rfl
  have i3 : ∀ j c, dIsN false (.int j) (.bl c) h = .ok (.bl false) h := fun j c => rfl
  by_cases h0 : 0 ≤ a
  · simp [c_bind, c_into, c_then, v_K, v_V, v_vR, v_Op, v_Un, v_bOf, v_isB, v_isBx, v_bAnd, v_bOr, v_bNot, v_eAnd, v_eOr, v_eNot, v_eIf, v_aNil, v_aCons, v_Tup, v_Lst, v_Dct, v_Call, v_CallK, v_Bi, v_Isi, v_Cut, v_oNone, v_oSome, v_vO, v_End, v_Seq, v_If, v_Ret, v_Expr, v_Set, v_Par, v_Raise, v_For, v_Put, v_fnx, v_frt, v_fex, v_of, v_add, v_sub, v_neg, v_rel, v_abs, v_lenT, v_lenS, v_max, v_min, v_intB, v_intI, v_gcd, v_cutT, v_listT, v_backT, v_eqI, v_eqS, List.replicate, small, atI, ixN, S_is_moment, i1, i2, i3, v_SetT, tgT, setAll, v_chain, v_mul m, h1, h2, h0, mom]
    by_cases h3 : a ≤ 1000000 * b <;> simp [h3] <;> rfl
  · simp [c_bind, c_into, c_then, v_K, v_V, v_vR, v_Op, v_Un, v_bOf, v_isB, v_isBx, v_bAnd, v_bOr, v_bNot, v_eAnd, v_eOr, v_eNot, v_eIf, v_aNil, v_aCons, v_Tup, v_Lst, v_Dct, v_Call, v_CallK, v_Bi, v_Isi, v_Cut, v_oNone, v_oSome, v_vO, v_End, v_Seq, v_If, v_Ret, v_Expr, v_Set, v_Par, v_Raise, v_For, v_Put, v_fnx, v_frt, v_fex, v_of, v_add, v_sub, v_neg, v_rel, v_abs, v_lenT, v_lenS, v_max, v_min, v_intB, v_intI, v_gcd, v_cutT, v_listT, v_backT, v_eqI, v_eqS, List.replicate, small, atI, ixN, S_is_moment, i1, i2, i3, v_SetT, tgT, setAll, v_chain, v_mul m, h1, h2, h0, mom]
theorem needmom_ok {B : Nat} (f : Fq B (a, b)) (hm : mom (a, b)) (hB : B ≤ 8000 := by decide) : S_need_moment [.tup [.int a, .int b]] h = .ok .non h := by
  have e := ismom_ok (h := h) f hB
  rw [decide_eq_true hm] at e
  simp [c_bind, c_into, c_then, v_K, v_V, v_vR, v_Op, v_Un, v_bOf, v_isB, v_isBx, v_bAnd, v_bOr, v_bNot, v_eAnd, v_eOr, v_eNot, v_eIf, v_aNil, v_aCons, v_Tup, v_Lst, v_Dct, v_Call, v_CallK, v_Bi, v_Isi, v_Cut, v_oNone, v_oSome, v_vO, v_End, v_Seq, v_If, v_Ret, v_Expr, v_Set, v_Par, v_Raise, v_For, v_Put, v_fnx, v_frt, v_fex, v_of, v_add, v_sub, v_neg, v_rel, v_abs, v_lenT, v_lenS, v_max, v_min, v_intB, v_intI, v_gcd, v_cutT, v_listT, v_backT, v_eqI, v_eqS, List.replicate, small, atI, ixN, S_need_moment, e]
end
end MI
end

section
set_option Elab.async false
set_option linter.all false
set_option autoImplicit false
set_option maxRecDepth 100000
set_option exponentiation.threshold 20000
set_option maxHeartbeats 4000000
/-! draws: great numbers, fractions, moments, spells, lines (as the laws from the sixteenth on make them) -/
open PySem L2
namespace MI
theorem PotAt.put {h : Hq} {p q : Nat} {n : Int} (P : PotAt h p n) (hq : q ≠ p) (c : Cell) : PotAt (h.set q c) p n := by
  obtain ⟨a, b, d, e, r⟩ := P.ex
  refine ⟨a, b, d, ?_, r⟩
  have e' := lstAt_some e
  unfold lstAt
  rw [List.getElem?_set_ne hq, e']
theorem Step.putNew {p q : Nat} {h h' : Hq} (S : Step p h h') (hq : h.length ≤ q) (c : Cell) : Step p h (h'.set q c) :=
  ⟨by simpa using S.len, fun r hr hl => by rw [List.getElem?_set_ne (by omega)]; exact S.old r hr hl⟩
theorem Step.appR {p : Nat} {h h' : Hq} (S : Step p h h') (t : List Cell) : Step p h (h' ++ t) := S.trans (Step.app p h' t)
/-- the part of a step that begins with new cells -/
theorem Step.cut {p : Nat} {h h' : Hq} {t : List Cell} (S : Step p (h ++ t) h') : Step p h h' := (Step.app p h t).trans S
theorem great2_ok {h : Hq} {p : Nat} {n many : Int} (P : PotAt h p n) (hn : n < 999990) (hm : 0 < many) (hb : many < 2 ^ 8000) :
    ∃ r h', S__law_great_2 [.ref p, .int many] h = .ok (.int r) h' ∧ 0 ≤ r ∧ r < many ∧ PotAt h' p (n + 3) ∧ Step p h h' := by
  by_cases hs : many < 1000000000000
  · obtain ⟨r, h1, e, r0, r1, P1, S1⟩ := take_ok P (by omega) hm hb
    exact ⟨r, h1, by simp [c_bind, c_into, c_then, v_K, v_V, v_vR, v_Op, v_Un, v_bOf, v_isB, v_isBx, v_bAnd, v_bOr, v_bNot, v_eAnd, v_eOr, v_eNot, v_eIf, v_aNil, v_aCons, v_Tup, v_Lst, v_Dct, v_Call, v_CallK, v_Bi, v_Isi, v_Cut, v_oNone, v_oSome, v_vO, v_End, v_Seq, v_If, v_Ret, v_Expr, v_Set, v_Par, v_Raise, v_For, v_Put, v_fnx, v_frt, v_fex, v_of, v_add, v_sub, v_neg, v_rel, v_abs, v_lenT, v_lenS, v_max, v_min, v_intB, v_intI, v_gcd, v_cutT, v_listT, v_backT, v_eqI, v_eqS, List.replicate, small, atI, ixN, S__law_great_2, v_pow10, hs, e], r0, r1, P1.mono (by omega), S1⟩
  · have hp := P.lt
    have nq : h.length ≠ p := by omega
    obtain ⟨x, h1, e1, x0, x1, P1, S1⟩ := take_ok (many := 1000000000000) (P.app [.lst []]) (by omega) (by decide) (by decide)
    have l1 : lstAt h1 h.length = some [] := S1.lst nq (lst_new h [])
    have z1 := lstAt_lt l1
    obtain ⟨y, h2, e2, y0, y1, P2, S2⟩ := take_ok (many := 1000000000000) (P1.put nq (.lst [.int x])) (by omega) (by decide) (by decide)
    have l2 : lstAt h2 h.length = some [.int x] := S2.lst nq (lstAt_set z1)
    have z2 := lstAt_lt l2
    obtain ⟨z, h3, e3, z0, z1', P3, S3⟩ := take_ok (many := 1000000000000) (P2.put nq (.lst [.int x, .int y])) (by omega) (by decide) (by decide)
    have l3 : lstAt h3 h.length = some [.int x, .int y] := S3.lst nq (lstAt_set z2)
    have z3 := lstAt_lt l3
    have l4 : lstAt (h3.set h.length (.lst [.int x, .int y, .int z])) h.length = some [.int x, .int y, .int z] := lstAt_set z3
    have m1 : mulOk x 1000000000000000000000000 = true := mulOk_of (l64 (by omega) (by omega)) (by decide)
    have m2 : mulOk y 1000000000000 = true := mulOk_of (l64 (by omega) (by omega)) (by decide)
    refine ⟨(x * 1000000000000000000000000 + y * 1000000000000 + z) % many, h3.set h.length (.lst [.int x, .int y, .int z]), ?_, Int.emod_nonneg _ (by omega), Int.emod_lt_of_pos _ hm, (P3.put nq _).mono (by omega), ?_⟩
    · have i0 : dIx (.ref h.length) (.int 0) (h3.set h.length (.lst [.int x, .int y, .int z])) = .ok (.int x) _ := v_ixL l4 rfl
      have i1 : dIx (.ref h.length) (.int 1) (h3.set h.length (.lst [.int x, .int y, .int z])) = .ok (.int y) _ := v_ixL l4 rfl
      have i2 : dIx (.ref h.length) (.int 2) (h3.set h.length (.lst [.int x, .int y, .int z])) = .ok (.int z) _ := v_ixL l4 rfl
      simp [c_bind, c_into, c_then, v_K, v_V, v_vR, v_Op, v_Un, v_bOf, v_isB, v_isBx, v_bAnd, v_bOr, v_bNot, v_eAnd, v_eOr, v_eNot, v_eIf, v_aNil, v_aCons, v_Tup, v_Lst, v_Dct, v_Call, v_CallK, v_Bi, v_Isi, v_Cut, v_oNone, v_oSome, v_vO, v_End, v_Seq, v_If, v_Ret, v_Expr, v_Set, v_Par, v_Raise, v_For, v_Put, v_fnx, v_frt, v_fex, v_of, v_add, v_sub, v_neg, v_rel, v_abs, v_lenT, v_lenS, v_max, v_min, v_intB, v_intI, v_gcd, v_cutT, v_listT, v_backT, v_eqI, v_eqS, List.replicate, small, atI, ixN, S__law_great_2, v_pow10, hs, eComp, iRange, iR, picks, cYes, tgN, wipeF, l1, l2, l3, e1, e2, e3, i0, i1, i2, v_mul m1, v_mul m2, v_mod hm]
    · have A := (S1.cut.putNew (Nat.le_refl _) (.lst [.int x])).trans S2
      have B := (A.putNew (Nat.le_refl _) (.lst [.int x, .int y])).trans S3
      exact B.putNew (Nat.le_refl _) _
end MI
end

section
set_option Elab.async false
set_option linter.all false
set_option autoImplicit false
set_option maxRecDepth 100000
set_option exponentiation.threshold 20000
set_option maxHeartbeats 4000000
/-! what is wanted of a worth, walked from the front: W of expressions, Z of statements -/
open PySem L2
namespace MI
section
variable {α β : Type}
def W (r : Rs α) (Φ : Rs α → Prop) : Prop := Φ r
def Z (s : SR) (Ψ : SR → Prop) : Prop := Ψ s
/-- by a truth: what is to come stays shut till it is known -/
def BrW {γ : Type} (c : Bool) (A B : Hq → Rs γ) (h : Hq) (Φ : Rs γ → Prop) : Prop := match c with
  | true => W (A h) Φ
  | false => W (B h) Φ
def BrZ (c : Bool) (A B : Hq → SR) (h : Hq) (Ψ : SR → Prop) : Prop := match c with
  | true => Z (A h) Ψ
  | false => Z (B h) Ψ
theorem W_congr {r r' : Rs α} {Φ : Rs α → Prop} (h : r = r') : W r Φ = W r' Φ := by rw [h]
theorem Z_congr {s s' : SR} {Ψ : SR → Prop} (h : s = s') : Z s Ψ = Z s' Ψ := by rw [h]
section
variable {γ : Type} {c : Bool} {A B : Hq → Rs γ} {h : Hq} {Φ : Rs γ → Prop} {A' B' : Hq → SR} {Ψ : SR → Prop} {p : Prop} [Decidable p]
theorem brw_t : BrW true A B h Φ = W (A h) Φ := rfl
theorem brw_f : BrW false A B h Φ = W (B h) Φ := rfl
theorem brz_t : BrZ true A' B' h Ψ = Z (A' h) Ψ := rfl
theorem brz_f : BrZ false A' B' h Ψ = Z (B' h) Ψ := rfl
theorem brw (h1 : c = true → W (A h) Φ) (h2 : c = false → W (B h) Φ) : BrW c A B h Φ := by
  cases c
  · exact h2 rfl
  · exact h1 rfl
theorem brz (h1 : c = true → Z (A' h) Ψ) (h2 : c = false → Z (B' h) Ψ) : BrZ c A' B' h Ψ := by
  cases c
  · exact h2 rfl
  · exact h1 rfl
theorem brwP (h1 : p → W (A h) Φ) (h2 : ¬ p → W (B h) Φ) : BrW (decide p) A B h Φ := brw (fun e => h1 (of_decide_eq_true e)) fun e => h2 (of_decide_eq_false e)
theorem brzP (h1 : p → Z (A' h) Ψ) (h2 : ¬ p → Z (B' h) Ψ) : BrZ (decide p) A' B' h Ψ := brz (fun e => h1 (of_decide_eq_true e)) fun e => h2 (of_decide_eq_false e)
end
/-! ### what comes next -/
def kB (f : α → Hq → Rs β) (Φ : Rs β → Prop) : Rs α → Prop
  | .ok a h => W (f a h) Φ
  | .exc x h => Φ (.exc x h)
  | .no => Φ .no
def kI (f : α → Hq → SR) (Ψ : SR → Prop) : Rs α → Prop
  | .ok a h => Z (f a h) Ψ
  | .exc x h => Ψ (.exc x h)
  | .no => Ψ .no
def kT (g : Ss) (Ψ : SR → Prop) : SR → Prop
  | .nx fr h => Z (g fr h) Ψ
  | .rt d h => Ψ (.rt d h)
  | .bk fr h => Ψ (.bk fr h)
  | .ct fr h => Ψ (.ct fr h)
  | .exc x h => Ψ (.exc x h)
  | .no => Ψ .no
def kF (Φ : Rs D → Prop) (s : SR) : Prop := Φ (fin s)
theorem w_bind {r : Rs α} {f : α → Hq → Rs β} {Φ : Rs β → Prop} : W (r.bind f) Φ = W r (kB f Φ) := by cases r <;> rfl
theorem z_into {r : Rs α} {f : α → Hq → SR} {Ψ : SR → Prop} : Z (r.into f) Ψ = W r (kI f Ψ) := by cases r <;> rfl
theorem z_then {s : SR} {g : Ss} {Ψ : SR → Prop} : Z (s.then g) Ψ = Z s (kT g Ψ) := by cases s <;> rfl
end
section
variable {α β : Type} {g : D → D → Hq → Rs D} {a b c f : Sx} {t u : Sb} {p q : Ss} {as bs : Sa} {lo hi : So} {fr : Fr} {h : Hq} {d e x y : D} {ds es : List D} {i j : Int} {n m k : Nat} {Φ : Rs D → Prop} {Θ : Rs Bool → Prop} {Ξ : Rs (List D) → Prop} {Ψ : SR → Prop}
theorem w_ok {v : α} {Φ : Rs α → Prop} : W (.ok v h) Φ = Φ (.ok v h) := rfl
theorem kB_ok {v : α} {f : α → Hq → Rs β} {Φ : Rs β → Prop} : kB f Φ (.ok v h) = W (f v h) Φ := rfl
theorem kI_ok {v : α} {f : α → Hq → SR} : kI f Ψ (.ok v h) = Z (f v h) Ψ := rfl
/-! expressions -/
theorem w_K : W (eK d fr h) Φ = Φ (.ok d h) := rfl
theorem w_V : W (eV n fr h) Φ = W (vR fr[n]? h) Φ := by rw [v_V]
theorem w_vR : W (vR (some (some d)) h) Φ = Φ (.ok d h) := rfl
def kO1 (g : D → D → Hq → Rs D) (b : Sx) (fr : Fr) (Φ : Rs D → Prop) : Rs D → Prop := kB (fun x h1 => (b fr h1).bind fun y h2 => g x y h2) Φ
def kO2 (g : D → D → Hq → Rs D) (x : D) (Φ : Rs D → Prop) : Rs D → Prop := kB (fun y h2 => g x y h2) Φ
theorem w_Op : W (eOp g a b fr h) Φ = W (a fr h) (kO1 g b fr Φ) := w_bind
theorem kO1_ok : kO1 g b fr Φ (.ok x h) = W (b fr h) (kO2 g x Φ) := w_bind
theorem kO2_ok : kO2 g x Φ (.ok y h) = W (g x y h) Φ := rfl
theorem w_Un {g : D → Hq → Rs D} : W (eUn g a fr h) Φ = W (a fr h) (kB g Φ) := w_bind
def kBl (Θ : Rs Bool → Prop) : Rs D → Prop := fun r => Θ (isB r)
theorem w_bOf : W (bOf a fr h) Θ = W (a fr h) (kBl Θ) := rfl
theorem w_isB {r : Rs D} : W (isB r) Θ = W r (kBl Θ) := rfl
theorem kBl_ok {c : Bool} : kBl Θ (.ok (.bl c) h) = Θ (.ok c h) := rfl
theorem kBl_exc {x : Xn} : kBl Θ (.exc x h) = Θ (.exc x h) := rfl
def kIf {γ : Type} (A B : Hq → Rs γ) (Φ : Rs γ → Prop) : Rs Bool → Prop
  | .ok c h => BrW c A B h Φ
  | .exc x h => Φ (.exc x h)
  | .no => Φ .no
theorem w_ifB {γ : Type} {r : Rs Bool} {A B : Hq → Rs γ} {Φ : Rs γ → Prop} : W (r.bind fun c h1 => if c = true then A h1 else B h1) Φ = W r (kIf A B Φ) := by
  cases r with
  | ok c h => cases c <;> rfl
  | exc x h => rfl
  | no => rfl
theorem kIf_ok {γ : Type} {A B : Hq → Rs γ} {Φ : Rs γ → Prop} {c : Bool} : kIf A B Φ (.ok c h) = BrW c A B h Φ := rfl
theorem kIf_exc {γ : Type} {A B : Hq → Rs γ} {Φ : Rs γ → Prop} {x : Xn} : kIf A B Φ (.exc x h) = Φ (.exc x h) := rfl
def okB (c : Bool) : Hq → Rs Bool := fun h => .ok c h
def okD (d : D) : Hq → Rs D := fun h => .ok d h
theorem w_okB {c : Bool} : W (okB c h) Θ = Θ (.ok c h) := rfl
theorem w_okD : W (okD d h) Φ = Φ (.ok d h) := rfl
theorem w_bAnd : W (bAnd t u fr h) Θ = W (t fr h) (kIf (u fr) (okB false) Θ) := w_ifB
theorem w_bOr : W (bOr t u fr h) Θ = W (t fr h) (kIf (okB true) (u fr) Θ) := w_ifB
def kNot (Θ : Rs Bool → Prop) : Rs Bool → Prop := kB (fun c h1 => .ok (!c) h1) Θ
theorem w_bNot : W (bNot t fr h) Θ = W (t fr h) (kNot Θ) := w_bind
theorem kNot_ok {c : Bool} : kNot Θ (.ok c h) = Θ (.ok (!c) h) := rfl
theorem kNot_exc {x : Xn} : kNot Θ (.exc x h) = Θ (.exc x h) := rfl
theorem w_eAnd : W (eAnd a b fr h) Φ = W (a fr h) (kBl (kIf (b fr) (okD (.bl false)) Φ)) := w_ifB
theorem w_eOr : W (eOr a b fr h) Φ = W (a fr h) (kBl (kIf (okD (.bl true)) (b fr) Φ)) := w_ifB
def kNotV (Φ : Rs D → Prop) : Rs Bool → Prop := kB (fun c h1 => .ok (.bl (!c)) h1) Φ
theorem w_eNot : W (eNot a fr h) Φ = W (a fr h) (kBl (kNotV Φ)) := w_bind
theorem kNotV_ok {c : Bool} : kNotV Φ (.ok c h) = Φ (.ok (.bl (!c)) h) := rfl
theorem w_eIf : W (eIf t a b fr h) Φ = W (t fr h) (kIf (a fr) (b fr) Φ) := w_ifB
theorem wipeF_nil : wipeF fr [] = fr := rfl
theorem wipeF_cons {vs : List Nat} : wipeF fr (n :: vs) = (wipeF fr vs).set n none := rfl
theorem w_Yes : W (cYes fr h) Θ = Θ (.ok true h) := rfl
theorem w_aNil : W (aNil fr h) Ξ = Ξ (.ok [] h) := rfl
def kA1 (as : Sa) (fr : Fr) (Ξ : Rs (List D) → Prop) : Rs D → Prop := kB (fun x h1 => (as fr h1).bind fun xs h2 => .ok (x :: xs) h2) Ξ
def kA2 (x : D) (Ξ : Rs (List D) → Prop) : Rs (List D) → Prop := kB (fun xs h2 => .ok (x :: xs) h2) Ξ
theorem w_aCons : W (aCons a as fr h) Ξ = W (a fr h) (kA1 as fr Ξ) := w_bind
theorem kA1_ok : kA1 as fr Ξ (.ok x h) = W (as fr h) (kA2 x Ξ) := w_bind
theorem kA2_ok : kA2 x Ξ (.ok ds h) = Ξ (.ok (x :: ds) h) := rfl
theorem kA1_exc {z : Xn} : kA1 as fr Ξ (.exc z h) = Ξ (.exc z h) := rfl
theorem kA2_exc {z : Xn} : kA2 x Ξ (.exc z h) = Ξ (.exc z h) := rfl
def mkT (ds : List D) (h : Hq) : Rs D := if small ds.length = true then .ok (.tup ds) h else .no
def mkL (ds : List D) (h : Hq) : Rs D := if small ds.length = true then .ok (.ref h.length) (h ++ [.lst ds]) else .no
theorem w_Tup : W (eTup as fr h) Φ = W (as fr h) (kB mkT Φ) := w_bind
theorem w_Lst : W (eLst as fr h) Φ = W (as fr h) (kB mkL Φ) := w_bind
theorem w_mkT (e : small ds.length = true) : W (mkT ds h) Φ = Φ (.ok (.tup ds) h) := by unfold mkT W; rw [if_pos e]
theorem w_mkL (e : small ds.length = true) : W (mkL ds h) Φ = Φ (.ok (.ref h.length) (h ++ [.lst ds])) := by unfold mkL W; rw [if_pos e]
theorem w_Dct : W (eDct0 fr h) Φ = Φ (.ok (.ref h.length) (h ++ [.dct []])) := rfl
def goS (n : Nat) (sem : Sf) (ds : List D) (h : Hq) : Rs D := if ds.length = n then sem ds h else .no
theorem w_Call {sem : Sf} : W (eCall n sem as fr h) Φ = W (as fr h) (kB (goS n sem) Φ) := w_bind
theorem w_goS {sem : Sf} (e : ds.length = n) : W (goS n sem ds h) Φ = W (sem ds h) Φ := by unfold goS; rw [if_pos e]
theorem w_Bi {g : List D → Hq → Rs D} : W (eBi g as fr h) Φ = W (as fr h) (kB g Φ) := w_bind
theorem w_Isi {T : String} : W (eIsi T a fr h) Φ = W (a fr h) (kB (gIsi T) Φ) := w_bind
def kC1 (lo hi : So) (fr : Fr) (Φ : Rs D → Prop) : Rs D → Prop := kB (fun x h1 => (lo fr h1).bind fun l h2 => (hi fr h2).bind fun u h3 => dCut x l u h3) Φ
def kC2 (x : D) (hi : So) (fr : Fr) (Φ : Rs D → Prop) : Rs (Option Int) → Prop := kB (fun l h2 => (hi fr h2).bind fun u h3 => dCut x l u h3) Φ
def kC3 (x : D) (l : Option Int) (Φ : Rs D → Prop) : Rs (Option Int) → Prop := kB (fun u h3 => dCut x l u h3) Φ
theorem w_Cut : W (eCut a lo hi fr h) Φ = W (a fr h) (kC1 lo hi fr Φ) := w_bind
theorem kC1_ok : kC1 lo hi fr Φ (.ok x h) = W (lo fr h) (kC2 x hi fr Φ) := w_bind
theorem kC2_ok {l : Option Int} : kC2 x hi fr Φ (.ok l h) = W (hi fr h) (kC3 x l Φ) := w_bind
theorem kC3_ok {l r : Option Int} : kC3 x l Φ (.ok r h) = W (dCut x l r h) Φ := rfl
variable {Ω : Rs (Option Int) → Prop}
theorem w_oNone : W (oNone fr h) Ω = Ω (.ok none h) := rfl
theorem w_oSome : W (oSome a fr h) Ω = W (a fr h) (kB vO Ω) := by rw [v_oSome]; exact w_bind
theorem w_vO : W (vO (.int i) h) Ω = Ω (.ok (some i) h) := rfl
def kCh1 (p q : Int → Int → Bool) (b c : Sx) (fr : Fr) (Φ : Rs D → Prop) : Rs D → Prop := kB (fun x h1 => (b fr h1).bind fun y h2 => match x, y with
  | .int i, .int j => if p i j = true then (c fr h2).bind fun z h3 => dRel q (.int j) z h3 else .ok (.bl false) h2
  | _, _ => .no) Φ
def kCh2 (p q : Int → Int → Bool) (x : D) (c : Sx) (fr : Fr) (Φ : Rs D → Prop) : Rs D → Prop := kB (fun y h2 => match x, y with
  | .int i, .int j => if p i j = true then (c fr h2).bind fun z h3 => dRel q (.int j) z h3 else .ok (.bl false) h2
  | _, _ => .no) Φ
def kCh3 (q : Int → Int → Bool) (j : Int) (Φ : Rs D → Prop) : Rs D → Prop := kB (fun z h3 => dRel q (.int j) z h3) Φ
theorem w_Chain {p q : Int → Int → Bool} : W (eChain p q a b c fr h) Φ = W (a fr h) (kCh1 p q b c fr Φ) := w_bind
theorem kCh1_ok {p q : Int → Int → Bool} : kCh1 p q b c fr Φ (.ok x h) = W (b fr h) (kCh2 p q x c fr Φ) := w_bind
def chA (q : Int → Int → Bool) (j : Int) (c : Sx) (fr : Fr) (h : Hq) : Rs D := (c fr h).bind fun z h3 => dRel q (.int j) z h3
theorem w_chA {q : Int → Int → Bool} : W (chA q j c fr h) Φ = W (c fr h) (kCh3 q j Φ) := w_bind
theorem kCh2_ok {p q : Int → Int → Bool} : kCh2 p q (.int i) c fr Φ (.ok (.int j) h) = BrW (p i j) (chA q j c fr) (okD (.bl false)) h Φ := by
  show W (if p i j = true then (c fr h).bind _ else .ok (.bl false) h) Φ = _
  cases hp : p i j with
  | true => rw [if_pos rfl]; rfl
  | false => rw [if_neg Bool.false_ne_true]; rfl
theorem kCh3_ok {q : Int → Int → Bool} : kCh3 q j Φ (.ok (.int i) h) = Φ (.ok (.bl (q j i)) h) := rfl
theorem w_bTru : W (bTru a fr h) Θ = W (a fr h) (kB truD Θ) := w_bind
theorem w_truL {l : List D} (e : lstAt h n = some l) : W (truD (.ref n) h) Θ = Θ (.ok (!l.isEmpty) h) := by
  unfold truD W
  simp only [e]
def augF (fr : Fr) (i : Nat) (g : Int → Int → Int) (x : Int) (Ψ : SR → Prop) : Rs D → Prop := kI (fun d h1 => match d with
    | .int y => .nx (fr.set i (some (.int (g x y)))) h1
    | _ => .no) Ψ
theorem z_Aug {g : Int → Int → Int} (e : fr[n]? = some (some (.int i))) : Z (sAug n g a fr h) Ψ = W (a fr h) (augF fr n g i Ψ) := by
  unfold sAug
  rw [e]
  exact z_into
theorem augF_ok {g : Int → Int → Int} : augF fr n g i Ψ (.ok (.int j) h) = Ψ (.nx (fr.set n (some (.int (g i j)))) h) := rfl
def putF (fo fi : Sx) (fr : Fr) (Ψ : SR → Prop) : Rs D → Prop := kI (fun d h1 => (fo fr h1).into fun o h2 => (fi fr h2).into fun k h3 => vPut d o k fr h3) Ψ
def putG (fi : Sx) (fr : Fr) (d : D) (Ψ : SR → Prop) : Rs D → Prop := kI (fun o h2 => (fi fr h2).into fun k h3 => vPut d o k fr h3) Ψ
def putH (fr : Fr) (d o : D) (Ψ : SR → Prop) : Rs D → Prop := kI (fun k h3 => vPut d o k fr h3) Ψ
theorem z_Put : Z (sPut a b c fr h) Ψ = W (a fr h) (putF b c fr Ψ) := by rw [v_Put]; exact z_into
theorem putF_ok : putF b c fr Ψ (.ok d h) = W (b fr h) (putG c fr d Ψ) := z_into
theorem putG_ok : putG c fr d Ψ (.ok x h) = W (c fr h) (putH fr d x Ψ) := z_into
theorem putH_ok {l : List D} {k : Nat} (e : lstAt h m = some l) (e2 : ixN l.length j = some k) : putH fr d (.ref m) Ψ (.ok (.int j) h) = Ψ (.nx fr (h.set m (.lst (l.set k d)))) := by
  show Z (vPut d (.ref m) (.int j) fr h) Ψ = _
  rw [v_vPut e e2]; rfl
theorem w_isNn {neg : Bool} : W (dIsN neg .non .non h) Φ = Φ (.ok (.bl (!neg)) h) := by cases neg <;> rfl
theorem w_isNt {neg : Bool} {l : List D} : W (dIsN neg (.tup l) .non h) Φ = Φ (.ok (.bl neg) h) := by cases neg <;> rfl
/-! methods -/
def apF (f : Sx) (fr : Fr) (o : D) (h1 : Hq) : Rs D := match o with
  | .ref n => match lstAt h1 n with
    | some _ => (f fr h1).bind fun d h2 => match lstAt h2 n with
      | some l => if small (l.length + 1) = true then .ok .non (h2.set n (.lst (l ++ [d]))) else .no
      | none => .no
    | none => .no
  | _ => .no
def apG (n : Nat) (d : D) (h2 : Hq) : Rs D := match lstAt h2 n with
      | some l => if small (l.length + 1) = true then .ok .non (h2.set n (.lst (l ++ [d]))) else .no
      | none => .no
theorem w_App : W (eApp a b fr h) Φ = W (a fr h) (kB (apF b fr) Φ) := w_bind
theorem w_apF {l : List D} (e : lstAt h n = some l) : W (apF b fr (.ref n) h) Φ = W (b fr h) (kB (apG n) Φ) := by
  unfold apF
  simp only [e]
  exact w_bind
theorem w_apG {l : List D} (e : lstAt h n = some l) (s : small (l.length + 1) = true) : W (apG n d h) Φ = Φ (.ok .non (h.set n (.lst (l ++ [d])))) := by
  unfold apG W
  simp only [e, s, if_true]
def insF (fi fe : Sx) (fr : Fr) (o : D) (h1 : Hq) : Rs D := match o with
  | .ref n => match lstAt h1 n with
    | some _ => (fi fr h1).bind fun k h2 => (fe fr h2).bind fun d h3 => match k with
      | .int j => match lstAt h3 n with
        | some l => if 0 ≤ j ∧ j < 2 ^ 63 ∧ small (l.length + 1) = true then .ok .non (h3.set n (.lst (l.take j.toNat ++ [d] ++ l.drop j.toNat))) else .no
        | none => .no
      | _ => .no
    | none => .no
  | _ => .no
def insH (n : Nat) (k d : D) (h3 : Hq) : Rs D := match k with
      | .int j => match lstAt h3 n with
        | some l => if 0 ≤ j ∧ j < 2 ^ 63 ∧ small (l.length + 1) = true then .ok .non (h3.set n (.lst (l.take j.toNat ++ [d] ++ l.drop j.toNat))) else .no
        | none => .no
      | _ => .no
def insG (fe : Sx) (fr : Fr) (n : Nat) (k : D) (h2 : Hq) : Rs D := (fe fr h2).bind (insH n k)
theorem w_Ins {c : Sx} : W (eIns a b c fr h) Φ = W (a fr h) (kB (insF b c fr) Φ) := w_bind
theorem w_insF {l : List D} (e : lstAt h n = some l) : W (insF b c fr (.ref n) h) Φ = W (b fr h) (kB (insG c fr n) Φ) := by
  unfold insF
  simp only [e]
  exact w_bind
theorem w_insG : W (insG b fr n x h) Φ = W (b fr h) (kB (insH n x) Φ) := w_bind
theorem w_insH {l : List D} (e : lstAt h n = some l) (j0 : 0 ≤ j) (j1 : j < 2 ^ 63) (s : small (l.length + 1) = true) : W (insH n (.int j) d h) Φ = Φ (.ok .non (h.set n (.lst (l.take j.toNat ++ [d] ++ l.drop j.toNat)))) := by
  unfold insH W
  simp only [e]
  rw [if_pos ⟨j0, j1, s⟩]
/-! statements -/
theorem z_nx : Z (.nx fr h) Ψ = Ψ (.nx fr h) := rfl
theorem z_End : Z (sEnd fr h) Ψ = Ψ (.nx fr h) := rfl
theorem z_Dead : Z (sDead fr h) Ψ = Ψ .no := rfl
theorem z_Seq : Z (sSeq p q fr h) Ψ = Z (p fr h) (kT q Ψ) := z_then
theorem kT_nx : kT q Ψ (.nx fr h) = Z (q fr h) Ψ := rfl
theorem kT_rt : kT q Ψ (.rt d h) = Ψ (.rt d h) := rfl
theorem kT_bk : kT q Ψ (.bk fr h) = Ψ (.bk fr h) := rfl
theorem kT_ct : kT q Ψ (.ct fr h) = Ψ (.ct fr h) := rfl
theorem kT_exc {x : Xn} : kT q Ψ (.exc x h) = Ψ (.exc x h) := rfl
def kIfS (A B : Hq → SR) (Ψ : SR → Prop) : Rs Bool → Prop
  | .ok c h => BrZ c A B h Ψ
  | .exc x h => Ψ (.exc x h)
  | .no => Ψ .no
theorem z_If : Z (sIf t p q fr h) Ψ = W (t fr h) (kIfS (p fr) (q fr) Ψ) := by
  show Z ((t fr h).into _) Ψ = _
  cases t fr h with
  | ok c h1 => cases c <;> rfl
  | exc x h1 => rfl
  | no => rfl
theorem kIfS_ok {A B : Hq → SR} {c : Bool} : kIfS A B Ψ (.ok c h) = BrZ c A B h Ψ := rfl
theorem kIfS_exc {A B : Hq → SR} {x : Xn} : kIfS A B Ψ (.exc x h) = Ψ (.exc x h) := rfl
def kRet (Ψ : SR → Prop) : Rs D → Prop
  | .ok d h => Ψ (.rt d h)
  | .exc x h => Ψ (.exc x h)
  | .no => Ψ .no
theorem z_Ret : Z (sRet a fr h) Ψ = W (a fr h) (kRet Ψ) := by
  show Z ((a fr h).into _) Ψ = _
  cases a fr h <;> rfl
theorem kRet_ok : kRet Ψ (.ok d h) = Ψ (.rt d h) := rfl
theorem kRet_exc {x : Xn} : kRet Ψ (.exc x h) = Ψ (.exc x h) := rfl
def kNx (fr : Fr) (Ψ : SR → Prop) : Rs D → Prop
  | .ok _ h => Ψ (.nx fr h)
  | .exc x h => Ψ (.exc x h)
  | .no => Ψ .no
theorem z_Expr : Z (sExpr a fr h) Ψ = W (a fr h) (kNx fr Ψ) := by
  show Z ((a fr h).into _) Ψ = _
  cases a fr h <;> rfl
theorem kNx_ok : kNx fr Ψ (.ok d h) = Ψ (.nx fr h) := rfl
theorem kNx_exc {x : Xn} : kNx fr Ψ (.exc x h) = Ψ (.exc x h) := rfl
def tgO (fr : Option Fr) (h : Hq) : SR := match fr with
  | some fr' => .nx fr' h
  | none => .no
def kAs (t : Tg) (fr : Fr) (Ψ : SR → Prop) : Rs D → Prop
  | .ok d h => Z (tgO (t d fr) h) Ψ
  | .exc x h => Ψ (.exc x h)
  | .no => Ψ .no
theorem z_Asg {t : Tg} : Z (sAsg a t fr h) Ψ = W (a fr h) (kAs t fr Ψ) := by
  show Z ((a fr h).into _) Ψ = _
  cases a fr h <;> rfl
theorem kAs_ok {t : Tg} : kAs t fr Ψ (.ok d h) = Z (tgO (t d fr) h) Ψ := rfl
theorem kAs_exc {t : Tg} {x : Xn} : kAs t fr Ψ (.exc x h) = Ψ (.exc x h) := rfl
theorem z_tgO {fr' : Fr} : Z (tgO (some fr') h) Ψ = Ψ (.nx fr' h) := rfl
theorem t_N : tgN n d fr = some (fr.set n (some d)) := rfl
theorem t_T {is : List Nat} : tgT is (.tup ds) fr = setAll is ds fr := rfl
theorem t_nil : setAll [] [] fr = some fr := rfl
theorem t_cons {is : List Nat} : setAll (n :: is) (d :: ds) fr = setAll is ds (fr.set n (some d)) := rfl
theorem t_G {ts : List Tg} : tgG ts (.tup ds) fr = setAllT ts ds fr := rfl
theorem t_gnil : setAllT [] [] fr = some fr := rfl
theorem t_gcons {t : Tg} {ts : List Tg} : setAllT (t :: ts) (d :: ds) fr = (t d fr).bind fun fr1 => setAllT ts ds fr1 := rfl
theorem t_bind {f : Fr → Option Fr} : (some fr).bind f = f fr := rfl
def kPar (i j : Nat) (fr : Fr) (Ψ : SR → Prop) : Rs (List D) → Prop := kI (fun ds h1 => match ds with
  | [d, e] => .nx ((fr.set i (some d)).set j (some e)) h1
  | _ => .no) Ψ
theorem z_Par : Z (sPar n m as fr h) Ψ = W (as fr h) (kPar n m fr Ψ) := z_into
theorem kPar_ok : kPar n m fr Ψ (.ok [d, e] h) = Ψ (.nx ((fr.set n (some d)).set m (some e)) h) := rfl
theorem z_Raise {x : Str} : Z (sRaise x fr h) Ψ = Ψ (.exc { cls := x } h) := rfl
theorem z_Break : Z (sBreak fr h) Ψ = Ψ (.bk fr h) := rfl
theorem z_Cont : Z (sCont fr h) Ψ = Ψ (.ct fr h) := rfl
def kSrc (t : Tg) (b : Ss) (fr : Fr) (Ψ : SR → Prop) : Rs Src → Prop := kI (fun S h1 => turns S.get S.fin t b S.n 0 fr h1) Ψ
theorem z_For {src : Si} {t : Tg} : Z (sFor t src p fr h) Ψ = W (src fr h) (kSrc t p fr Ψ) := z_into
theorem kSrc_ok {t : Tg} {S : Src} : kSrc t p fr Ψ (.ok S h) = Z (turns S.get S.fin t p S.n 0 fr h) Ψ := rfl
variable {Sg : Rs Src → Prop}
def rgF (ds : List D) (h1 : Hq) : Rs Src := match ds with
  | [.int j] => iR 0 j h1
  | _ => .no
theorem w_Range : W (iRange as fr h) Sg = W (as fr h) (kB rgF Sg) := w_bind
theorem w_rgF : W (rgF [.int i] h) Sg = W (iR 0 i h) Sg := rfl
def sqF (d : D) (h1 : Hq) : Rs Src := match d with
  | .tup l => .ok (srcT l) h1
  | .ref m => match lstAt h1 m with
    | some l => .ok (srcC m l.length) h1
    | none => .no
  | _ => .no
theorem w_SeqI : W (iSeq a fr h) Sg = W (a fr h) (kB sqF Sg) := w_bind
theorem w_sqT {l : List D} : W (sqF (.tup l) h) Sg = Sg (.ok (srcT l) h) := rfl
theorem w_sqL {l : List D} (e : lstAt h n = some l) : W (sqF (.ref n) h) Sg = Sg (.ok (srcC n l.length) h) := by
  unfold sqF W
  simp only [e]
def zpF (ds : List D) (h1 : Hq) : Rs Src := match ds with
  | [.tup l, .tup m] => .ok (srcZ l m) h1
  | [.ref a, .ref b] => match lstAt h1 a, lstAt h1 b with
    | some l, some m => .ok (srcZL a b (min l.length m.length)) h1
    | _, _ => .no
  | _ => .no
theorem w_Zip : W (iZip2 as fr h) Sg = W (as fr h) (kB zpF Sg) := w_bind
theorem w_zpT {l r : List D} : W (zpF [.tup l, .tup r] h) Sg = Sg (.ok (srcZ l r) h) := rfl
theorem w_zpL {l r : List D} (e : lstAt h n = some l) (e2 : lstAt h m = some r) : W (zpF [.ref n, .ref m] h) Sg = Sg (.ok (srcZL n m (min l.length r.length)) h) := by
  unfold zpF W
  simp only [e, e2]
def kCo (own : List Nat) (t : Tg) (c : Sb) (e : Sx) (fr : Fr) (Φ : Rs D → Prop) : Rs Src → Prop := kB (fun S h1 => picks h1.length S.get S.fin t c e (wipeF fr own) S.n 0 (h1 ++ [.lst []])) Φ
theorem w_Comp {src : Si} {own : List Nat} {t : Tg} {c : Sb} : W (eComp src own t c a fr h) Φ = W (src fr h) (kCo own t c a fr Φ) := w_bind
theorem kCo_ok {own : List Nat} {t : Tg} {c : Sb} {S : Src} : kCo own t c a fr Φ (.ok S h) = W (picks h.length S.get S.fin t c a (wipeF fr own) S.n 0 (h ++ [.lst []])) Φ := rfl
/-! defs -/
theorem w_of (e : ds.length = n) : W (ofBody n k p ds h) Φ = Z (p (ds.map some ++ List.replicate k none) h) (kF Φ) := by
  rw [v_of e]; rfl
theorem kF_rt : kF Φ (.rt d h) = Φ (.ok d h) := rfl
theorem kF_nx : kF Φ (.nx fr h) = Φ (.ok .non h) := rfl
theorem kF_exc {x : Xn} : kF Φ (.exc x h) = Φ (.exc x h) := rfl
/-! operations -/
theorem w_add : W (dAdd (.int i) (.int j) h) Φ = Φ (.ok (.int (i + j)) h) := rfl
theorem w_sub : W (dSub (.int i) (.int j) h) Φ = Φ (.ok (.int (i - j)) h) := rfl
theorem w_mul (e : mulOk i j = true) : W (dMul (.int i) (.int j) h) Φ = Φ (.ok (.int (i * j)) h) := by unfold W; rw [v_mul e]
theorem w_div (e : divOk j = true) : W (dDiv (.int i) (.int j) h) Φ = Φ (.ok (.int (i / j)) h) := by unfold W; rw [v_div e]
theorem w_mod (e : 0 < j) : W (dMod (.int i) (.int j) h) Φ = Φ (.ok (.int (i % j)) h) := by unfold W; rw [v_mod e]
theorem w_pow10 (e0 : 0 ≤ j) (e1 : j ≤ 1000) : W (dPow (.int 10) (.int j) h) Φ = Φ (.ok (.int (10 ^ j.toNat)) h) := by unfold W; rw [v_pow10 e0 e1]
theorem w_neg : W (dNeg (.int i) h) Φ = Φ (.ok (.int (-i)) h) := rfl
theorem w_rel {f : Int → Int → Bool} : W (dRel f (.int i) (.int j) h) Φ = Φ (.ok (.bl (f i j)) h) := rfl
theorem w_lt : W (dLt (.int i) (.int j) h) Φ = Φ (.ok (.bl (decide (i < j))) h) := rfl
theorem w_le : W (dLe (.int i) (.int j) h) Φ = Φ (.ok (.bl (decide (i ≤ j))) h) := rfl
theorem w_gt : W (dGt (.int i) (.int j) h) Φ = Φ (.ok (.bl (decide (j < i))) h) := rfl
theorem w_ge : W (dGe (.int i) (.int j) h) Φ = Φ (.ok (.bl (decide (j ≤ i))) h) := rfl
theorem w_ixT {l : List D} (e : atI l i = some d) : W (dIx (.tup l) (.int i) h) Φ = Φ (.ok d h) := by unfold W; rw [v_ixT e]
theorem w_ixL {l : List D} (e0 : lstAt h m = some l) (e : atI l i = some d) : W (dIx (.ref m) (.int i) h) Φ = Φ (.ok d h) := by unfold W; rw [v_ixL e0 e]
theorem atI0 {r : List D} : atI (d :: r) 0 = some d := by
  unfold atI ixN
  simp
theorem atI1 {r : List D} : atI (x :: d :: r) 1 = some d := by
  unfold atI ixN
  simp
  rw [if_pos (by omega)]
  rfl
theorem atI2 {r : List D} : atI (x :: y :: d :: r) 2 = some d := by
  unfold atI ixN
  simp
  rw [if_pos (by omega)]
  rfl
theorem atI3 {z : D} {r : List D} : atI (x :: y :: z :: d :: r) 3 = some d := by
  unfold atI ixN
  simp
  rw [if_pos (by omega)]
  rfl
theorem w_ix0 {r : List D} : W (dIx (.tup (d :: r)) (.int 0) h) Φ = Φ (.ok d h) := w_ixT atI0
theorem w_ix1 {r : List D} : W (dIx (.tup (x :: d :: r)) (.int 1) h) Φ = Φ (.ok d h) := w_ixT atI1
theorem w_ix2 {r : List D} : W (dIx (.tup (x :: y :: d :: r)) (.int 2) h) Φ = Φ (.ok d h) := w_ixT atI2
theorem w_ix3 {z : D} {r : List D} : W (dIx (.tup (x :: y :: z :: d :: r)) (.int 3) h) Φ = Φ (.ok d h) := w_ixT atI3
theorem w_eqI {b : Bool} : W (dEqs b (.int i) (.int j) h) Φ = Φ (.ok (.bl ((i == j) != b)) h) := by unfold W; rw [v_eqI]
theorem w_eqS {x y : Str} {b : Bool} : W (dEqs b (.str x) (.str y) h) Φ = Φ (.ok (.bl (decide (x = y) != b)) h) := by unfold W; rw [v_eqS]
theorem w_eqT2 {o u : Int} {b : Bool} : W (dEqs b (.tup [.int i, .int j]) (.tup [.int o, .int u]) h) Φ = Φ (.ok (.bl ((i == o && j == u) != b)) h) := by unfold W; rw [v_eqT2b]
theorem w_abs : W (gAbs [.int i] h) Φ = Φ (.ok (.int (if i < 0 then -i else i)) h) := rfl
theorem w_lenT {l : List D} : W (gLen [.tup l] h) Φ = Φ (.ok (.int l.length) h) := rfl
theorem w_lenS {l : List Int} : W (gLen [.scr l] h) Φ = Φ (.ok (.int l.length) h) := rfl
theorem w_lenL {l : List D} (e : lstAt h m = some l) : W (gLen [.ref m] h) Φ = Φ (.ok (.int l.length) h) := by unfold W; rw [v_lenL e]
theorem w_max : W (gMax [.int i, .int j] h) Φ = Φ (.ok (.int (if j > i then j else i)) h) := rfl
theorem w_min : W (gMin [.int i, .int j] h) Φ = Φ (.ok (.int (if j < i then j else i)) h) := rfl
theorem w_intB {c : Bool} : W (gInt [.bl c] h) Φ = Φ (.ok (.int (if c then 1 else 0)) h) := rfl
theorem w_intT : W (gInt [.bl true] h) Φ = Φ (.ok (.int 1) h) := rfl
theorem w_intF : W (gInt [.bl false] h) Φ = Φ (.ok (.int 0) h) := rfl
theorem w_isBool {c : Bool} : W (gIsi "bool" (.bl c) h) Φ = Φ (.ok (.bl true) h) := by cases c <;> rfl
theorem w_isTup {l : List D} : W (gIsi "tuple" (.tup l) h) Φ = Φ (.ok (.bl true) h) := rfl
theorem w_tupT {l : List D} : W (gTuple [.tup l] h) Φ = Φ (.ok (.tup l) h) := rfl
theorem w_tupL {l : List D} (e : lstAt h m = some l) : W (gTuple [.ref m] h) Φ = Φ (.ok (.tup l) h) := by
  unfold W gTuple
  simp only [e]
theorem w_listT {l : List D} : W (gList [.tup l] h) Φ = Φ (.ok (.ref h.length) (h ++ [.lst l])) := rfl
theorem w_listL {l : List D} (e : lstAt h m = some l) : W (gList [.ref m] h) Φ = Φ (.ok (.ref h.length) (h ++ [.lst l])) := by
  unfold W gList
  simp only [e]
theorem w_cutT {l : List D} {lo hi : Option Int} : W (dCut (.tup l) lo hi h) Φ = Φ (.ok (.tup (cutD l lo hi)) h) := rfl
theorem w_cutL {l : List D} {lo hi : Option Int} (e : lstAt h m = some l) : W (dCut (.ref m) lo hi h) Φ = Φ (.ok (.ref h.length) (h ++ [.lst (cutD l lo hi)])) := by unfold W; rw [v_cutL e]
theorem w_addT {l r : List D} (e : small (l.length + r.length) = true) : W (dAdd (.tup l) (.tup r) h) Φ = Φ (.ok (.tup (l ++ r)) h) := by unfold W; rw [v_addT e]
theorem w_addL {l r : List D} (e1 : lstAt h m = some l) (e2 : lstAt h n = some r) (e : small (l.length + r.length) = true) : W (dAdd (.ref m) (.ref n) h) Φ = Φ (.ok (.ref h.length) (h ++ [.lst (l ++ r)])) := by unfold W; rw [v_addL e1 e2 e]
theorem w_rep {l : List D} (e1 : lstAt h m = some l) (e2 : 0 ≤ i ∧ i < 1000000 ∧ small (l.length * i.toNat) = true) : W (dMul (.ref m) (.int i) h) Φ = Φ (.ok (.ref h.length) (h ++ [.lst (List.replicate i.toNat l).flatten])) := by unfold W; rw [v_rep e1 e2]
theorem w_all {l : List D} {bs : List Bool} (e : lstAt h m = some l) (e2 : bls l = some bs) : W (gAll [.ref m] h) Φ = Φ (.ok (.bl (bs.all id)) h) := by
  unfold W gAll
  simp only [e, e2]
end
/-- from what is wanted to what is so -/
theorem W.intro {r : Rs D} {P : D → Hq → Prop} (w : W r fun s => ∃ d h, s = .ok d h ∧ P d h) : ∃ d h, r = .ok d h ∧ P d h := w
theorem W.of {α : Type} {r s : Rs α} {Φ : Rs α → Prop} (e : r = s) (k : Φ s) : W r Φ := by rw [e]; exact k
theorem atI_in {l : List D} {i : Int} (h0 : 0 ≤ i) (h1 : i < l.length) : ∃ d, atI l i = some d ∧ d ∈ l := by
  have hj : i.toNat < l.length := by omega
  refine ⟨l[i.toNat], ?_, List.getElem_mem hj⟩
  unfold atI ixN
  have h3 : ¬ i < 0 := by omega
  simp [h0, h3, h1, hj]
/-- an item of a list that is known, at a place that isn't -/
theorem w_ixP {h : Hq} {m : Nat} {l : List D} {i : Int} {Φ : Rs D → Prop} (P : D → Prop) (e0 : lstAt h m = some l) (h0 : 0 ≤ i) (h1 : i < l.length) (hP : ∀ d ∈ l, P d) (k : ∀ d, P d → Φ (.ok d h)) : W (dIx (.ref m) (.int i) h) Φ := by
  obtain ⟨d, e, hd⟩ := atI_in h0 h1
  exact W.of (v_ixL e0 e) (k d (hP d hd))
section
variable {a b f : Sx} {as : Sa} {fr : Fr} {h : Hq} {m : Nat} {l ds dds xs r : List D} {Φ : Rs D → Prop} {Ξ : Rs (List D) → Prop}
theorem w_aStar : W (aStar a as fr h) Ξ = W (a fr h) (kB (stF as fr) Ξ) := w_bind
def kSt (l : List D) (Ξ : Rs (List D) → Prop) : Rs (List D) → Prop := kB (fun xs h2 => .ok (l ++ xs) h2) Ξ
theorem w_stT : W (stF as fr (.tup l) h) Ξ = W (as fr h) (kSt l Ξ) := w_bind
theorem kSt_ok : kSt l Ξ (.ok xs h) = Ξ (.ok (l ++ xs) h) := rfl
theorem w_stL (e : lstAt h m = some l) : W (stF as fr (.ref m) h) Ξ = W (as fr h) (kSt l Ξ) := by
  unfold stF
  simp only [e]
  exact w_bind
def kDf (dds : List D) (Ξ : Rs (List D) → Prop) : Rs (List D) → Prop := kB (fun ds h1 => .ok (ds ++ dds) h1) Ξ
theorem w_aDef : W (aDef as dds fr h) Ξ = W (as fr h) (kDf dds Ξ) := w_bind
theorem kDf_ok : kDf dds Ξ (.ok ds h) = Ξ (.ok (ds ++ dds) h) := rfl
theorem w_Cnt : W (eCnt a b fr h) Φ = W (a fr h) (kB (cntF b fr) Φ) := w_bind
theorem w_cntF (e : lstAt h m = some l) : W (cntF b fr (.ref m) h) Φ = W (b fr h) (kB (cntG m) Φ) := by
  unfold cntF
  simp only [e]
  exact w_bind
theorem w_Ext : W (eExt a b fr h) Φ = W (a fr h) (kB (extF b fr) Φ) := w_bind
theorem w_extF (e : lstAt h m = some l) : W (extF b fr (.ref m) h) Φ = W (b fr h) (kB (extG m) Φ) := by
  unfold extF
  simp only [e]
  exact w_bind
theorem w_extG (e : lstAt h m = some l) (hs : small (l.length + r.length) = true) : W (extG m (.tup r) h) Φ = Φ (.ok .non (h.set m (.lst (l ++ r)))) := by
  unfold W extG
  simp only [e]
  rw [if_pos hs]
theorem w_isBB {c d neg : Bool} : W (dIsN neg (.bl c) (.bl d) h) Φ = Φ (.ok (.bl ((c == d) != neg)) h) := rfl
theorem w_isIB {i : Int} {d neg : Bool} : W (dIsN neg (.int i) (.bl d) h) Φ = Φ (.ok (.bl neg) h) := rfl
end
end MI
end

section
set_option Elab.async false
set_option linter.all false
set_option autoImplicit false
set_option maxRecDepth 100000
set_option exponentiation.threshold 20000
set_option maxHeartbeats 4000000
open PySem L2
namespace MI
section
variable {h : Hq} {p : Nat} {n many : Int} {Φ : Rs D → Prop}
theorem take_w (P : PotAt h p n) (hn : n < 1000000) (hm : 0 < many) (hb : many < 2 ^ 8000) (k : ∀ r h1, 0 ≤ r → r < many → PotAt h1 p (n + 1) → Step p h h1 → Φ (.ok (.int r) h1)) : W (S__law_take [.ref p, .int many] h) Φ := by
  obtain ⟨r, h1, e, r0, r1, P1, S1⟩ := take_ok P hn hm hb
  exact W.of e (k r h1 r0 r1 P1 S1)
theorem great_w (P : PotAt h p n) (hn : n < 999990) (hm : 0 < many) (hb : many < 2 ^ 8000) (k : ∀ r h1, 0 ≤ r → r < many → PotAt h1 p (n + 3) → Step p h h1 → Φ (.ok (.int r) h1)) : W (S__law_great [.ref p, .int many] h) Φ := by
  obtain ⟨r, h1, e, r0, r1, P1, S1⟩ := great_ok P hn hm hb
  exact W.of e (k r h1 r0 r1 P1 S1)
theorem great2_w (P : PotAt h p n) (hn : n < 999990) (hm : 0 < many) (hb : many < 2 ^ 8000) (k : ∀ r h1, 0 ≤ r → r < many → PotAt h1 p (n + 3) → Step p h h1 → Φ (.ok (.int r) h1)) : W (S__law_great_2 [.ref p, .int many] h) Φ := by
  obtain ⟨r, h1, e, r0, r1, P1, S1⟩ := great2_ok P hn hm hb
  exact W.of e (k r h1 r0 r1 P1 S1)
theorem low_w {a b : Int} {B : Nat} (hb : 0 < b) (b2 : Bd B b) (hB : B ≤ 8000) (k : Φ (.ok (dq (lowQ a b)) h)) : W (S__law_lowest [.int a, .int b] h) Φ := W.of (low_ok hb b2 hB) k
def intIn (lo hi : Int) (d : D) : Prop := ∃ i, d = .int i ∧ lo ≤ i ∧ i ≤ hi
theorem fraction2_w (P : PotAt h p n) (hn : n < 999900) (k : ∀ q h1, Fq 150 q → PotAt h1 p (n + 10) → Step p h h1 → Φ (.ok (dq q) h1)) : W (S__law_fraction_2 [.ref p] h) Φ := by
  unfold S__law_fraction_2
  simp only [↓w_ok, ↓kB_ok, ↓kI_ok, ↓w_K, ↓w_V, ↓w_vR, ↓w_Op, ↓kO1_ok, ↓kO2_ok, ↓w_Un, ↓w_bOf, ↓w_isB, ↓kBl_ok, ↓kBl_exc, ↓kIf_ok, ↓kIf_exc, ↓w_okB, ↓w_okD, ↓w_bAnd, ↓w_bOr, ↓w_bNot, ↓kNot_ok, ↓kNot_exc, ↓w_eAnd, ↓w_eOr, ↓w_eNot, ↓kNotV_ok, ↓w_eIf, ↓w_aNil, ↓w_aCons, ↓kA1_ok, ↓kA2_ok, ↓kA1_exc, ↓kA2_exc, ↓w_Tup, ↓w_Lst, ↓w_mkT, ↓w_mkL, ↓w_Dct, ↓w_Call, ↓w_goS, ↓w_Bi, ↓w_Isi, ↓w_Cut, ↓kC1_ok, ↓kC2_ok, ↓kC3_ok, ↓w_oNone, ↓w_oSome, ↓w_vO, ↓w_Chain, ↓kCh1_ok, ↓kCh2_ok, ↓kCh3_ok, ↓w_chA, ↓w_App, ↓w_Ins, ↓w_insG, ↓z_nx, ↓z_End, ↓z_Seq, ↓kT_nx, ↓kT_rt, ↓kT_bk, ↓kT_ct, ↓kT_exc, ↓z_If, ↓kIfS_ok, ↓kIfS_exc, ↓z_Ret, ↓kRet_ok, ↓kRet_exc, ↓z_Expr, ↓kNx_ok, ↓kNx_exc, ↓z_Asg, ↓kAs_ok, ↓kAs_exc, ↓z_tgO, t_N, t_T, t_nil, t_cons, t_G, t_gnil, t_gcons, t_bind, ↓z_Par, ↓kPar_ok, ↓z_Raise, ↓z_Break, ↓z_Cont, ↓z_For, ↓kSrc_ok, ↓w_Range, ↓w_rgF, ↓w_SeqI, ↓w_sqT, ↓w_Zip, ↓w_zpT, ↓w_Comp, ↓kCo_ok, ↓w_of, ↓kF_rt, ↓kF_nx, ↓kF_exc, ↓w_add, ↓w_sub, ↓w_pow10, ↓w_neg, ↓w_lt, ↓w_le, ↓w_gt, ↓w_ge, ↓w_ix0, ↓w_ix1, ↓w_ix2, ↓w_ix3, ↓w_eqI, ↓w_eqS, ↓w_eqT2, ↓w_abs, ↓w_lenT, ↓w_lenS, ↓w_max, ↓w_min, ↓w_intT, ↓w_intF, ↓w_isBool, ↓w_isTup, ↓w_tupT, ↓w_listT, ↓w_cutT, ↓brw_t, ↓brw_f, ↓brz_t, ↓brz_f, List.getElem?_cons_zero, List.getElem?_cons_succ, List.set_cons_zero, List.set_cons_succ, List.length_cons, List.length_nil, List.map_cons, List.map_nil, List.replicate, List.cons_append, List.nil_append, small, Nat.reduceAdd, Nat.reduceLeDiff, Nat.reduceEqDiff, Int.cast_ofNat_Int, Int.reduceBEq, BEq.rfl, ↓w_Yes, ↓w_bTru, ↓augF_ok, ↓z_Put, ↓putF_ok, ↓putG_ok, ↓w_isNn, ↓w_isNt, wipeF_nil, wipeF_cons, Int.reduceLE, Int.reduceLT, Int.reduceToNat, Int.reducePow, Int.reduceNeg, Int.reduceSub, Int.reduceAdd, Int.reduceMul, decide_true, decide_false, Bool.not_true, Bool.not_false, Bool.bne_false, Bool.bne_true, ↓w_aStar, ↓w_stT, ↓kSt_ok, ↓w_aDef, ↓kDf_ok, ↓w_Cnt, ↓w_Ext, ↓w_isBB, ↓w_isIB]
  refine take_w P (by omega) (by decide) (by decide) fun i h1 i0 i1 P1 S1 => ?_
  simp only [↓w_ok, ↓kB_ok, ↓kI_ok, ↓w_K, ↓w_V, ↓w_vR, ↓w_Op, ↓kO1_ok, ↓kO2_ok, ↓w_Un, ↓w_bOf, ↓w_isB, ↓kBl_ok, ↓kBl_exc, ↓kIf_ok, ↓kIf_exc, ↓w_okB, ↓w_okD, ↓w_bAnd, ↓w_bOr, ↓w_bNot, ↓kNot_ok, ↓kNot_exc, ↓w_eAnd, ↓w_eOr, ↓w_eNot, ↓kNotV_ok, ↓w_eIf, ↓w_aNil, ↓w_aCons, ↓kA1_ok, ↓kA2_ok, ↓kA1_exc, ↓kA2_exc, ↓w_Tup, ↓w_Lst, ↓w_mkT, ↓w_mkL, ↓w_Dct, ↓w_Call, ↓w_goS, ↓w_Bi, ↓w_Isi, ↓w_Cut, ↓kC1_ok, ↓kC2_ok, ↓kC3_ok, ↓w_oNone, ↓w_oSome, ↓w_vO, ↓w_Chain, ↓kCh1_ok, ↓kCh2_ok, ↓kCh3_ok, ↓w_chA, ↓w_App, ↓w_Ins, ↓w_insG, ↓z_nx, ↓z_End, ↓z_Seq, ↓kT_nx, ↓kT_rt, ↓kT_bk, ↓kT_ct, ↓kT_exc, ↓z_If, ↓kIfS_ok, ↓kIfS_exc, ↓z_Ret, ↓kRet_ok, ↓kRet_exc, ↓z_Expr, ↓kNx_ok, ↓kNx_exc, ↓z_Asg, ↓kAs_ok, ↓kAs_exc, ↓z_tgO, t_N, t_T, t_nil, t_cons, t_G, t_gnil, t_gcons, t_bind, ↓z_Par, ↓kPar_ok, ↓z_Raise, ↓z_Break, ↓z_Cont, ↓z_For, ↓kSrc_ok, ↓w_Range, ↓w_rgF, ↓w_SeqI, ↓w_sqT, ↓w_Zip, ↓w_zpT, ↓w_Comp, ↓kCo_ok, ↓w_of, ↓kF_rt, ↓kF_nx, ↓kF_exc, ↓w_add, ↓w_sub, ↓w_pow10, ↓w_neg, ↓w_lt, ↓w_le, ↓w_gt, ↓w_ge, ↓w_ix0, ↓w_ix1, ↓w_ix2, ↓w_ix3, ↓w_eqI, ↓w_eqS, ↓w_eqT2, ↓w_abs, ↓w_lenT, ↓w_lenS, ↓w_max, ↓w_min, ↓w_intT, ↓w_intF, ↓w_isBool, ↓w_isTup, ↓w_tupT, ↓w_listT, ↓w_cutT, ↓brw_t, ↓brw_f, ↓brz_t, ↓brz_f, List.getElem?_cons_zero, List.getElem?_cons_succ, List.set_cons_zero, List.set_cons_succ, List.length_cons, List.length_nil, List.map_cons, List.map_nil, List.replicate, List.cons_append, List.nil_append, small, Nat.reduceAdd, Nat.reduceLeDiff, Nat.reduceEqDiff, Int.cast_ofNat_Int, Int.reduceBEq, BEq.rfl, ↓w_Yes, ↓w_bTru, ↓augF_ok, ↓z_Put, ↓putF_ok, ↓putG_ok, ↓w_isNn, ↓w_isNt, wipeF_nil, wipeF_cons, Int.reduceLE, Int.reduceLT, Int.reduceToNat, Int.reducePow, Int.reduceNeg, Int.reduceSub, Int.reduceAdd, Int.reduceMul, decide_true, decide_false, Bool.not_true, Bool.not_false, Bool.bne_false, Bool.bne_true, ↓w_aStar, ↓w_stT, ↓kSt_ok, ↓w_aDef, ↓kDf_ok, ↓w_Cnt, ↓w_Ext, ↓w_isBB, ↓w_isIB]
  refine w_ixP (intIn 6 (10 ^ 30)) (lst_new _ _) i0 (by simpa using i1) (by simp [intIn]) ?_
  rintro _ ⟨top, rfl, t0, t1⟩
  have m2 : mulOk 2 top = true := Bd.mk (A := 3) (B := 120) (Bd.of (by decide) (by decide)) (Bd.of (by omega) (by omega))
  simp only [↓w_ok, ↓kB_ok, ↓kI_ok, ↓w_K, ↓w_V, ↓w_vR, ↓w_Op, ↓kO1_ok, ↓kO2_ok, ↓w_Un, ↓w_bOf, ↓w_isB, ↓kBl_ok, ↓kBl_exc, ↓kIf_ok, ↓kIf_exc, ↓w_okB, ↓w_okD, ↓w_bAnd, ↓w_bOr, ↓w_bNot, ↓kNot_ok, ↓kNot_exc, ↓w_eAnd, ↓w_eOr, ↓w_eNot, ↓kNotV_ok, ↓w_eIf, ↓w_aNil, ↓w_aCons, ↓kA1_ok, ↓kA2_ok, ↓kA1_exc, ↓kA2_exc, ↓w_Tup, ↓w_Lst, ↓w_mkT, ↓w_mkL, ↓w_Dct, ↓w_Call, ↓w_goS, ↓w_Bi, ↓w_Isi, ↓w_Cut, ↓kC1_ok, ↓kC2_ok, ↓kC3_ok, ↓w_oNone, ↓w_oSome, ↓w_vO, ↓w_Chain, ↓kCh1_ok, ↓kCh2_ok, ↓kCh3_ok, ↓w_chA, ↓w_App, ↓w_Ins, ↓w_insG, ↓z_nx, ↓z_End, ↓z_Seq, ↓kT_nx, ↓kT_rt, ↓kT_bk, ↓kT_ct, ↓kT_exc, ↓z_If, ↓kIfS_ok, ↓kIfS_exc, ↓z_Ret, ↓kRet_ok, ↓kRet_exc, ↓z_Expr, ↓kNx_ok, ↓kNx_exc, ↓z_Asg, ↓kAs_ok, ↓kAs_exc, ↓z_tgO, t_N, t_T, t_nil, t_cons, t_G, t_gnil, t_gcons, t_bind, ↓z_Par, ↓kPar_ok, ↓z_Raise, ↓z_Break, ↓z_Cont, ↓z_For, ↓kSrc_ok, ↓w_Range, ↓w_rgF, ↓w_SeqI, ↓w_sqT, ↓w_Zip, ↓w_zpT, ↓w_Comp, ↓kCo_ok, ↓w_of, ↓kF_rt, ↓kF_nx, ↓kF_exc, ↓w_add, ↓w_sub, ↓w_pow10, ↓w_neg, ↓w_lt, ↓w_le, ↓w_gt, ↓w_ge, ↓w_ix0, ↓w_ix1, ↓w_ix2, ↓w_ix3, ↓w_eqI, ↓w_eqS, ↓w_eqT2, ↓w_abs, ↓w_lenT, ↓w_lenS, ↓w_max, ↓w_min, ↓w_intT, ↓w_intF, ↓w_isBool, ↓w_isTup, ↓w_tupT, ↓w_listT, ↓w_cutT, ↓brw_t, ↓brw_f, ↓brz_t, ↓brz_f, List.getElem?_cons_zero, List.getElem?_cons_succ, List.set_cons_zero, List.set_cons_succ, List.length_cons, List.length_nil, List.map_cons, List.map_nil, List.replicate, List.cons_append, List.nil_append, small, Nat.reduceAdd, Nat.reduceLeDiff, Nat.reduceEqDiff, Int.cast_ofNat_Int, Int.reduceBEq, BEq.rfl, ↓w_Yes, ↓w_bTru, ↓augF_ok, ↓z_Put, ↓putF_ok, ↓putG_ok, ↓w_isNn, ↓w_isNt, wipeF_nil, wipeF_cons, Int.reduceLE, Int.reduceLT, Int.reduceToNat, Int.reducePow, Int.reduceNeg, Int.reduceSub, Int.reduceAdd, Int.reduceMul, decide_true, decide_false, Bool.not_true, Bool.not_false, Bool.bne_false, Bool.bne_true, ↓w_aStar, ↓w_stT, ↓kSt_ok, ↓w_aDef, ↓kDf_ok, ↓w_Cnt, ↓w_Ext, ↓w_isBB, ↓w_isIB, w_mul m2]
  refine great2_w (P1.app _) (by omega) (by omega) (Int.lt_of_le_of_lt (show 2 * top + 1 ≤ 2 * 10 ^ 30 + 1 by omega) (by decide)) fun x h2 x0 x1 P2 S2 => ?_
  simp only [↓w_ok, ↓kB_ok, ↓kI_ok, ↓w_K, ↓w_V, ↓w_vR, ↓w_Op, ↓kO1_ok, ↓kO2_ok, ↓w_Un, ↓w_bOf, ↓w_isB, ↓kBl_ok, ↓kBl_exc, ↓kIf_ok, ↓kIf_exc, ↓w_okB, ↓w_okD, ↓w_bAnd, ↓w_bOr, ↓w_bNot, ↓kNot_ok, ↓kNot_exc, ↓w_eAnd, ↓w_eOr, ↓w_eNot, ↓kNotV_ok, ↓w_eIf, ↓w_aNil, ↓w_aCons, ↓kA1_ok, ↓kA2_ok, ↓kA1_exc, ↓kA2_exc, ↓w_Tup, ↓w_Lst, ↓w_mkT, ↓w_mkL, ↓w_Dct, ↓w_Call, ↓w_goS, ↓w_Bi, ↓w_Isi, ↓w_Cut, ↓kC1_ok, ↓kC2_ok, ↓kC3_ok, ↓w_oNone, ↓w_oSome, ↓w_vO, ↓w_Chain, ↓kCh1_ok, ↓kCh2_ok, ↓kCh3_ok, ↓w_chA, ↓w_App, ↓w_Ins, ↓w_insG, ↓z_nx, ↓z_End, ↓z_Seq, ↓kT_nx, ↓kT_rt, ↓kT_bk, ↓kT_ct, ↓kT_exc, ↓z_If, ↓kIfS_ok, ↓kIfS_exc, ↓z_Ret, ↓kRet_ok, ↓kRet_exc, ↓z_Expr, ↓kNx_ok, ↓kNx_exc, ↓z_Asg, ↓kAs_ok, ↓kAs_exc, ↓z_tgO, t_N, t_T, t_nil, t_cons, t_G, t_gnil, t_gcons, t_bind, ↓z_Par, ↓kPar_ok, ↓z_Raise, ↓z_Break, ↓z_Cont, ↓z_For, ↓kSrc_ok, ↓w_Range, ↓w_rgF, ↓w_SeqI, ↓w_sqT, ↓w_Zip, ↓w_zpT, ↓w_Comp, ↓kCo_ok, ↓w_of, ↓kF_rt, ↓kF_nx, ↓kF_exc, ↓w_add, ↓w_sub, ↓w_pow10, ↓w_neg, ↓w_lt, ↓w_le, ↓w_gt, ↓w_ge, ↓w_ix0, ↓w_ix1, ↓w_ix2, ↓w_ix3, ↓w_eqI, ↓w_eqS, ↓w_eqT2, ↓w_abs, ↓w_lenT, ↓w_lenS, ↓w_max, ↓w_min, ↓w_intT, ↓w_intF, ↓w_isBool, ↓w_isTup, ↓w_tupT, ↓w_listT, ↓w_cutT, ↓brw_t, ↓brw_f, ↓brz_t, ↓brz_f, List.getElem?_cons_zero, List.getElem?_cons_succ, List.set_cons_zero, List.set_cons_succ, List.length_cons, List.length_nil, List.map_cons, List.map_nil, List.replicate, List.cons_append, List.nil_append, small, Nat.reduceAdd, Nat.reduceLeDiff, Nat.reduceEqDiff, Int.cast_ofNat_Int, Int.reduceBEq, BEq.rfl, ↓w_Yes, ↓w_bTru, ↓augF_ok, ↓z_Put, ↓putF_ok, ↓putG_ok, ↓w_isNn, ↓w_isNt, wipeF_nil, wipeF_cons, Int.reduceLE, Int.reduceLT, Int.reduceToNat, Int.reducePow, Int.reduceNeg, Int.reduceSub, Int.reduceAdd, Int.reduceMul, decide_true, decide_false, Bool.not_true, Bool.not_false, Bool.bne_false, Bool.bne_true, ↓w_aStar, ↓w_stT, ↓kSt_ok, ↓w_aDef, ↓kDf_ok, ↓w_Cnt, ↓w_Ext, ↓w_isBB, ↓w_isIB]
  refine w_ixP (intIn 1 (10 ^ 30)) (lst_new _ _) i0 (by simpa using i1) (by simp [intIn]) ?_
  rintro _ ⟨low, rfl, l0, l1⟩
  simp only [↓w_ok, ↓kB_ok, ↓kI_ok, ↓w_K, ↓w_V, ↓w_vR, ↓w_Op, ↓kO1_ok, ↓kO2_ok, ↓w_Un, ↓w_bOf, ↓w_isB, ↓kBl_ok, ↓kBl_exc, ↓kIf_ok, ↓kIf_exc, ↓w_okB, ↓w_okD, ↓w_bAnd, ↓w_bOr, ↓w_bNot, ↓kNot_ok, ↓kNot_exc, ↓w_eAnd, ↓w_eOr, ↓w_eNot, ↓kNotV_ok, ↓w_eIf, ↓w_aNil, ↓w_aCons, ↓kA1_ok, ↓kA2_ok, ↓kA1_exc, ↓kA2_exc, ↓w_Tup, ↓w_Lst, ↓w_mkT, ↓w_mkL, ↓w_Dct, ↓w_Call, ↓w_goS, ↓w_Bi, ↓w_Isi, ↓w_Cut, ↓kC1_ok, ↓kC2_ok, ↓kC3_ok, ↓w_oNone, ↓w_oSome, ↓w_vO, ↓w_Chain, ↓kCh1_ok, ↓kCh2_ok, ↓kCh3_ok, ↓w_chA, ↓w_App, ↓w_Ins, ↓w_insG, ↓z_nx, ↓z_End, ↓z_Seq, ↓kT_nx, ↓kT_rt, ↓kT_bk, ↓kT_ct, ↓kT_exc, ↓z_If, ↓kIfS_ok, ↓kIfS_exc, ↓z_Ret, ↓kRet_ok, ↓kRet_exc, ↓z_Expr, ↓kNx_ok, ↓kNx_exc, ↓z_Asg, ↓kAs_ok, ↓kAs_exc, ↓z_tgO, t_N, t_T, t_nil, t_cons, t_G, t_gnil, t_gcons, t_bind, ↓z_Par, ↓kPar_ok, ↓z_Raise, ↓z_Break, ↓z_Cont, ↓z_For, ↓kSrc_ok, ↓w_Range, ↓w_rgF, ↓w_SeqI, ↓w_sqT, ↓w_Zip, ↓w_zpT, ↓w_Comp, ↓kCo_ok, ↓w_of, ↓kF_rt, ↓kF_nx, ↓kF_exc, ↓w_add, ↓w_sub, ↓w_pow10, ↓w_neg, ↓w_lt, ↓w_le, ↓w_gt, ↓w_ge, ↓w_ix0, ↓w_ix1, ↓w_ix2, ↓w_ix3, ↓w_eqI, ↓w_eqS, ↓w_eqT2, ↓w_abs, ↓w_lenT, ↓w_lenS, ↓w_max, ↓w_min, ↓w_intT, ↓w_intF, ↓w_isBool, ↓w_isTup, ↓w_tupT, ↓w_listT, ↓w_cutT, ↓brw_t, ↓brw_f, ↓brz_t, ↓brz_f, List.getElem?_cons_zero, List.getElem?_cons_succ, List.set_cons_zero, List.set_cons_succ, List.length_cons, List.length_nil, List.map_cons, List.map_nil, List.replicate, List.cons_append, List.nil_append, small, Nat.reduceAdd, Nat.reduceLeDiff, Nat.reduceEqDiff, Int.cast_ofNat_Int, Int.reduceBEq, BEq.rfl, ↓w_Yes, ↓w_bTru, ↓augF_ok, ↓z_Put, ↓putF_ok, ↓putG_ok, ↓w_isNn, ↓w_isNt, wipeF_nil, wipeF_cons, Int.reduceLE, Int.reduceLT, Int.reduceToNat, Int.reducePow, Int.reduceNeg, Int.reduceSub, Int.reduceAdd, Int.reduceMul, decide_true, decide_false, Bool.not_true, Bool.not_false, Bool.bne_false, Bool.bne_true, ↓w_aStar, ↓w_stT, ↓kSt_ok, ↓w_aDef, ↓kDf_ok, ↓w_Cnt, ↓w_Ext, ↓w_isBB, ↓w_isIB]
  refine great2_w (P2.app _) (by omega) (by omega) (Int.lt_of_le_of_lt l1 (by decide)) fun y h3 y0 y1 P3 S3 => ?_
  simp only [↓w_ok, ↓kB_ok, ↓kI_ok, ↓w_K, ↓w_V, ↓w_vR, ↓w_Op, ↓kO1_ok, ↓kO2_ok, ↓w_Un, ↓w_bOf, ↓w_isB, ↓kBl_ok, ↓kBl_exc, ↓kIf_ok, ↓kIf_exc, ↓w_okB, ↓w_okD, ↓w_bAnd, ↓w_bOr, ↓w_bNot, ↓kNot_ok, ↓kNot_exc, ↓w_eAnd, ↓w_eOr, ↓w_eNot, ↓kNotV_ok, ↓w_eIf, ↓w_aNil, ↓w_aCons, ↓kA1_ok, ↓kA2_ok, ↓kA1_exc, ↓kA2_exc, ↓w_Tup, ↓w_Lst, ↓w_mkT, ↓w_mkL, ↓w_Dct, ↓w_Call, ↓w_goS, ↓w_Bi, ↓w_Isi, ↓w_Cut, ↓kC1_ok, ↓kC2_ok, ↓kC3_ok, ↓w_oNone, ↓w_oSome, ↓w_vO, ↓w_Chain, ↓kCh1_ok, ↓kCh2_ok, ↓kCh3_ok, ↓w_chA, ↓w_App, ↓w_Ins, ↓w_insG, ↓z_nx, ↓z_End, ↓z_Seq, ↓kT_nx, ↓kT_rt, ↓kT_bk, ↓kT_ct, ↓kT_exc, ↓z_If, ↓kIfS_ok, ↓kIfS_exc, ↓z_Ret, ↓kRet_ok, ↓kRet_exc, ↓z_Expr, ↓kNx_ok, ↓kNx_exc, ↓z_Asg, ↓kAs_ok, ↓kAs_exc, ↓z_tgO, t_N, t_T, t_nil, t_cons, t_G, t_gnil, t_gcons, t_bind, ↓z_Par, ↓kPar_ok, ↓z_Raise, ↓z_Break, ↓z_Cont, ↓z_For, ↓kSrc_ok, ↓w_Range, ↓w_rgF, ↓w_SeqI, ↓w_sqT, ↓w_Zip, ↓w_zpT, ↓w_Comp, ↓kCo_ok, ↓w_of, ↓kF_rt, ↓kF_nx, ↓kF_exc, ↓w_add, ↓w_sub, ↓w_pow10, ↓w_neg, ↓w_lt, ↓w_le, ↓w_gt, ↓w_ge, ↓w_ix0, ↓w_ix1, ↓w_ix2, ↓w_ix3, ↓w_eqI, ↓w_eqS, ↓w_eqT2, ↓w_abs, ↓w_lenT, ↓w_lenS, ↓w_max, ↓w_min, ↓w_intT, ↓w_intF, ↓w_isBool, ↓w_isTup, ↓w_tupT, ↓w_listT, ↓w_cutT, ↓brw_t, ↓brw_f, ↓brz_t, ↓brz_f, List.getElem?_cons_zero, List.getElem?_cons_succ, List.set_cons_zero, List.set_cons_succ, List.length_cons, List.length_nil, List.map_cons, List.map_nil, List.replicate, List.cons_append, List.nil_append, small, Nat.reduceAdd, Nat.reduceLeDiff, Nat.reduceEqDiff, Int.cast_ofNat_Int, Int.reduceBEq, BEq.rfl, ↓w_Yes, ↓w_bTru, ↓augF_ok, ↓z_Put, ↓putF_ok, ↓putG_ok, ↓w_isNn, ↓w_isNt, wipeF_nil, wipeF_cons, Int.reduceLE, Int.reduceLT, Int.reduceToNat, Int.reducePow, Int.reduceNeg, Int.reduceSub, Int.reduceAdd, Int.reduceMul, decide_true, decide_false, Bool.not_true, Bool.not_false, Bool.bne_false, Bool.bne_true, ↓w_aStar, ↓w_stT, ↓kSt_ok, ↓w_aDef, ↓kDf_ok, ↓w_Cnt, ↓w_Ext, ↓w_isBB, ↓w_isIB]
  have b1 : Bd 150 (x - top) := Bd.of (by omega) (by omega)
  have b2 : Bd 150 (1 + y) := Bd.of (by omega) (by omega)
  refine low_w (by omega) b2 (by decide) ?_
  simp only [↓w_ok, ↓kB_ok, ↓kI_ok, ↓w_K, ↓w_V, ↓w_vR, ↓w_Op, ↓kO1_ok, ↓kO2_ok, ↓w_Un, ↓w_bOf, ↓w_isB, ↓kBl_ok, ↓kBl_exc, ↓kIf_ok, ↓kIf_exc, ↓w_okB, ↓w_okD, ↓w_bAnd, ↓w_bOr, ↓w_bNot, ↓kNot_ok, ↓kNot_exc, ↓w_eAnd, ↓w_eOr, ↓w_eNot, ↓kNotV_ok, ↓w_eIf, ↓w_aNil, ↓w_aCons, ↓kA1_ok, ↓kA2_ok, ↓kA1_exc, ↓kA2_exc, ↓w_Tup, ↓w_Lst, ↓w_mkT, ↓w_mkL, ↓w_Dct, ↓w_Call, ↓w_goS, ↓w_Bi, ↓w_Isi, ↓w_Cut, ↓kC1_ok, ↓kC2_ok, ↓kC3_ok, ↓w_oNone, ↓w_oSome, ↓w_vO, ↓w_Chain, ↓kCh1_ok, ↓kCh2_ok, ↓kCh3_ok, ↓w_chA, ↓w_App, ↓w_Ins, ↓w_insG, ↓z_nx, ↓z_End, ↓z_Seq, ↓kT_nx, ↓kT_rt, ↓kT_bk, ↓kT_ct, ↓kT_exc, ↓z_If, ↓kIfS_ok, ↓kIfS_exc, ↓z_Ret, ↓kRet_ok, ↓kRet_exc, ↓z_Expr, ↓kNx_ok, ↓kNx_exc, ↓z_Asg, ↓kAs_ok, ↓kAs_exc, ↓z_tgO, t_N, t_T, t_nil, t_cons, t_G, t_gnil, t_gcons, t_bind, ↓z_Par, ↓kPar_ok, ↓z_Raise, ↓z_Break, ↓z_Cont, ↓z_For, ↓kSrc_ok, ↓w_Range, ↓w_rgF, ↓w_SeqI, ↓w_sqT, ↓w_Zip, ↓w_zpT, ↓w_Comp, ↓kCo_ok, ↓w_of, ↓kF_rt, ↓kF_nx, ↓kF_exc, ↓w_add, ↓w_sub, ↓w_pow10, ↓w_neg, ↓w_lt, ↓w_le, ↓w_gt, ↓w_ge, ↓w_ix0, ↓w_ix1, ↓w_ix2, ↓w_ix3, ↓w_eqI, ↓w_eqS, ↓w_eqT2, ↓w_abs, ↓w_lenT, ↓w_lenS, ↓w_max, ↓w_min, ↓w_intT, ↓w_intF, ↓w_isBool, ↓w_isTup, ↓w_tupT, ↓w_listT, ↓w_cutT, ↓brw_t, ↓brw_f, ↓brz_t, ↓brz_f, List.getElem?_cons_zero, List.getElem?_cons_succ, List.set_cons_zero, List.set_cons_succ, List.length_cons, List.length_nil, List.map_cons, List.map_nil, List.replicate, List.cons_append, List.nil_append, small, Nat.reduceAdd, Nat.reduceLeDiff, Nat.reduceEqDiff, Int.cast_ofNat_Int, Int.reduceBEq, BEq.rfl, ↓w_Yes, ↓w_bTru, ↓augF_ok, ↓z_Put, ↓putF_ok, ↓putG_ok, ↓w_isNn, ↓w_isNt, wipeF_nil, wipeF_cons, Int.reduceLE, Int.reduceLT, Int.reduceToNat, Int.reducePow, Int.reduceNeg, Int.reduceSub, Int.reduceAdd, Int.reduceMul, decide_true, decide_false, Bool.not_true, Bool.not_false, Bool.bne_false, Bool.bne_true, ↓w_aStar, ↓w_stT, ↓kSt_ok, ↓w_aDef, ↓kDf_ok, ↓w_Cnt, ↓w_Ext, ↓w_isBB, ↓w_isIB]
  exact k _ _ (lowQ_ok (by omega) b1 b2) (P3.mono (by omega)) (S1.trans (S2.cut.trans S3.cut))
/-- a drawn moment -/
theorem moment2_w {top : Int} (P : PotAt h p n) (hn : n < 999900) (t0 : 1 ≤ top) (t1 : top ≤ 1000000) (k : ∀ q h1, Fq 150 q → 0 ≤ q.1 → q.1 ≤ top * q.2 → PotAt h1 p (n + 10) → Step p h h1 → Φ (.ok (dq q) h1)) : W (S__law_moment_2 [.ref p, .int top] h) Φ := by
  unfold S__law_moment_2
  simp only [↓w_ok, ↓kB_ok, ↓kI_ok, ↓w_K, ↓w_V, ↓w_vR, ↓w_Op, ↓kO1_ok, ↓kO2_ok, ↓w_Un, ↓w_bOf, ↓w_isB, ↓kBl_ok, ↓kBl_exc, ↓kIf_ok, ↓kIf_exc, ↓w_okB, ↓w_okD, ↓w_bAnd, ↓w_bOr, ↓w_bNot, ↓kNot_ok, ↓kNot_exc, ↓w_eAnd, ↓w_eOr, ↓w_eNot, ↓kNotV_ok, ↓w_eIf, ↓w_aNil, ↓w_aCons, ↓kA1_ok, ↓kA2_ok, ↓kA1_exc, ↓kA2_exc, ↓w_Tup, ↓w_Lst, ↓w_mkT, ↓w_mkL, ↓w_Dct, ↓w_Call, ↓w_goS, ↓w_Bi, ↓w_Isi, ↓w_Cut, ↓kC1_ok, ↓kC2_ok, ↓kC3_ok, ↓w_oNone, ↓w_oSome, ↓w_vO, ↓w_Chain, ↓kCh1_ok, ↓kCh2_ok, ↓kCh3_ok, ↓w_chA, ↓w_App, ↓w_Ins, ↓w_insG, ↓z_nx, ↓z_End, ↓z_Seq, ↓kT_nx, ↓kT_rt, ↓kT_bk, ↓kT_ct, ↓kT_exc, ↓z_If, ↓kIfS_ok, ↓kIfS_exc, ↓z_Ret, ↓kRet_ok, ↓kRet_exc, ↓z_Expr, ↓kNx_ok, ↓kNx_exc, ↓z_Asg, ↓kAs_ok, ↓kAs_exc, ↓z_tgO, t_N, t_T, t_nil, t_cons, t_G, t_gnil, t_gcons, t_bind, ↓z_Par, ↓kPar_ok, ↓z_Raise, ↓z_Break, ↓z_Cont, ↓z_For, ↓kSrc_ok, ↓w_Range, ↓w_rgF, ↓w_SeqI, ↓w_sqT, ↓w_Zip, ↓w_zpT, ↓w_Comp, ↓kCo_ok, ↓w_of, ↓kF_rt, ↓kF_nx, ↓kF_exc, ↓w_add, ↓w_sub, ↓w_pow10, ↓w_neg, ↓w_lt, ↓w_le, ↓w_gt, ↓w_ge, ↓w_ix0, ↓w_ix1, ↓w_ix2, ↓w_ix3, ↓w_eqI, ↓w_eqS, ↓w_eqT2, ↓w_abs, ↓w_lenT, ↓w_lenS, ↓w_max, ↓w_min, ↓w_intT, ↓w_intF, ↓w_isBool, ↓w_isTup, ↓w_tupT, ↓w_listT, ↓w_cutT, ↓brw_t, ↓brw_f, ↓brz_t, ↓brz_f, List.getElem?_cons_zero, List.getElem?_cons_succ, List.set_cons_zero, List.set_cons_succ, List.length_cons, List.length_nil, List.map_cons, List.map_nil, List.replicate, List.cons_append, List.nil_append, small, Nat.reduceAdd, Nat.reduceLeDiff, Nat.reduceEqDiff, Int.cast_ofNat_Int, Int.reduceBEq, BEq.rfl, ↓w_Yes, ↓w_bTru, ↓augF_ok, ↓z_Put, ↓putF_ok, ↓putG_ok, ↓w_isNn, ↓w_isNt, wipeF_nil, wipeF_cons, Int.reduceLE, Int.reduceLT, Int.reduceToNat, Int.reducePow, Int.reduceNeg, Int.reduceSub, Int.reduceAdd, Int.reduceMul, decide_true, decide_false, Bool.not_true, Bool.not_false, Bool.bne_false, Bool.bne_true, ↓w_aStar, ↓w_stT, ↓kSt_ok, ↓w_aDef, ↓kDf_ok, ↓w_Cnt, ↓w_Ext, ↓w_isBB, ↓w_isIB]
  refine take_w P (by omega) (by decide) (by decide) fun i h1 i0 i1 P1 S1 => ?_
  simp only [↓w_ok, ↓kB_ok, ↓kI_ok, ↓w_K, ↓w_V, ↓w_vR, ↓w_Op, ↓kO1_ok, ↓kO2_ok, ↓w_Un, ↓w_bOf, ↓w_isB, ↓kBl_ok, ↓kBl_exc, ↓kIf_ok, ↓kIf_exc, ↓w_okB, ↓w_okD, ↓w_bAnd, ↓w_bOr, ↓w_bNot, ↓kNot_ok, ↓kNot_exc, ↓w_eAnd, ↓w_eOr, ↓w_eNot, ↓kNotV_ok, ↓w_eIf, ↓w_aNil, ↓w_aCons, ↓kA1_ok, ↓kA2_ok, ↓kA1_exc, ↓kA2_exc, ↓w_Tup, ↓w_Lst, ↓w_mkT, ↓w_mkL, ↓w_Dct, ↓w_Call, ↓w_goS, ↓w_Bi, ↓w_Isi, ↓w_Cut, ↓kC1_ok, ↓kC2_ok, ↓kC3_ok, ↓w_oNone, ↓w_oSome, ↓w_vO, ↓w_Chain, ↓kCh1_ok, ↓kCh2_ok, ↓kCh3_ok, ↓w_chA, ↓w_App, ↓w_Ins, ↓w_insG, ↓z_nx, ↓z_End, ↓z_Seq, ↓kT_nx, ↓kT_rt, ↓kT_bk, ↓kT_ct, ↓kT_exc, ↓z_If, ↓kIfS_ok, ↓kIfS_exc, ↓z_Ret, ↓kRet_ok, ↓kRet_exc, ↓z_Expr, ↓kNx_ok, ↓kNx_exc, ↓z_Asg, ↓kAs_ok, ↓kAs_exc, ↓z_tgO, t_N, t_T, t_nil, t_cons, t_G, t_gnil, t_gcons, t_bind, ↓z_Par, ↓kPar_ok, ↓z_Raise, ↓z_Break, ↓z_Cont, ↓z_For, ↓kSrc_ok, ↓w_Range, ↓w_rgF, ↓w_SeqI, ↓w_sqT, ↓w_Zip, ↓w_zpT, ↓w_Comp, ↓kCo_ok, ↓w_of, ↓kF_rt, ↓kF_nx, ↓kF_exc, ↓w_add, ↓w_sub, ↓w_pow10, ↓w_neg, ↓w_lt, ↓w_le, ↓w_gt, ↓w_ge, ↓w_ix0, ↓w_ix1, ↓w_ix2, ↓w_ix3, ↓w_eqI, ↓w_eqS, ↓w_eqT2, ↓w_abs, ↓w_lenT, ↓w_lenS, ↓w_max, ↓w_min, ↓w_intT, ↓w_intF, ↓w_isBool, ↓w_isTup, ↓w_tupT, ↓w_listT, ↓w_cutT, ↓brw_t, ↓brw_f, ↓brz_t, ↓brz_f, List.getElem?_cons_zero, List.getElem?_cons_succ, List.set_cons_zero, List.set_cons_succ, List.length_cons, List.length_nil, List.map_cons, List.map_nil, List.replicate, List.cons_append, List.nil_append, small, Nat.reduceAdd, Nat.reduceLeDiff, Nat.reduceEqDiff, Int.cast_ofNat_Int, Int.reduceBEq, BEq.rfl, ↓w_Yes, ↓w_bTru, ↓augF_ok, ↓z_Put, ↓putF_ok, ↓putG_ok, ↓w_isNn, ↓w_isNt, wipeF_nil, wipeF_cons, Int.reduceLE, Int.reduceLT, Int.reduceToNat, Int.reducePow, Int.reduceNeg, Int.reduceSub, Int.reduceAdd, Int.reduceMul, decide_true, decide_false, Bool.not_true, Bool.not_false, Bool.bne_false, Bool.bne_true, ↓w_aStar, ↓w_stT, ↓kSt_ok, ↓w_aDef, ↓kDf_ok, ↓w_Cnt, ↓w_Ext, ↓w_isBB, ↓w_isIB]
  refine brz (fun hc => ?_) fun hc => ?_
  · simp only [↓w_ok, ↓kB_ok, ↓kI_ok, ↓w_K, ↓w_V, ↓w_vR, ↓w_Op, ↓kO1_ok, ↓kO2_ok, ↓w_Un, ↓w_bOf, ↓w_isB, ↓kBl_ok, ↓kBl_exc, ↓kIf_ok, ↓kIf_exc, ↓w_okB, ↓w_okD, ↓w_bAnd, ↓w_bOr, ↓w_bNot, ↓kNot_ok, ↓kNot_exc, ↓w_eAnd, ↓w_eOr, ↓w_eNot, ↓kNotV_ok, ↓w_eIf, ↓w_aNil, ↓w_aCons, ↓kA1_ok, ↓kA2_ok, ↓kA1_exc, ↓kA2_exc, ↓w_Tup, ↓w_Lst, ↓w_mkT, ↓w_mkL, ↓w_Dct, ↓w_Call, ↓w_goS, ↓w_Bi, ↓w_Isi, ↓w_Cut, ↓kC1_ok, ↓kC2_ok, ↓kC3_ok, ↓w_oNone, ↓w_oSome, ↓w_vO, ↓w_Chain, ↓kCh1_ok, ↓kCh2_ok, ↓kCh3_ok, ↓w_chA, ↓w_App, ↓w_Ins, ↓w_insG, ↓z_nx, ↓z_End, ↓z_Seq, ↓kT_nx, ↓kT_rt, ↓kT_bk, ↓kT_ct, ↓kT_exc, ↓z_If, ↓kIfS_ok, ↓kIfS_exc, ↓z_Ret, ↓kRet_ok, ↓kRet_exc, ↓z_Expr, ↓kNx_ok, ↓kNx_exc, ↓z_Asg, ↓kAs_ok, ↓kAs_exc, ↓z_tgO, t_N, t_T, t_nil, t_cons, t_G, t_gnil, t_gcons, t_bind, ↓z_Par, ↓kPar_ok, ↓z_Raise, ↓z_Break, ↓z_Cont, ↓z_For, ↓kSrc_ok, ↓w_Range, ↓w_rgF, ↓w_SeqI, ↓w_sqT, ↓w_Zip, ↓w_zpT, ↓w_Comp, ↓kCo_ok, ↓w_of, ↓kF_rt, ↓kF_nx, ↓kF_exc, ↓w_add, ↓w_sub, ↓w_pow10, ↓w_neg, ↓w_lt, ↓w_le, ↓w_gt, ↓w_ge, ↓w_ix0, ↓w_ix1, ↓w_ix2, ↓w_ix3, ↓w_eqI, ↓w_eqS, ↓w_eqT2, ↓w_abs, ↓w_lenT, ↓w_lenS, ↓w_max, ↓w_min, ↓w_intT, ↓w_intF, ↓w_isBool, ↓w_isTup, ↓w_tupT, ↓w_listT, ↓w_cutT, ↓brw_t, ↓brw_f, ↓brz_t, ↓brz_f, List.getElem?_cons_zero, List.getElem?_cons_succ, List.set_cons_zero, List.set_cons_succ, List.length_cons, List.length_nil, List.map_cons, List.map_nil, List.replicate, List.cons_append, List.nil_append, small, Nat.reduceAdd, Nat.reduceLeDiff, Nat.reduceEqDiff, Int.cast_ofNat_Int, Int.reduceBEq, BEq.rfl, ↓w_Yes, ↓w_bTru, ↓augF_ok, ↓z_Put, ↓putF_ok, ↓putG_ok, ↓w_isNn, ↓w_isNt, wipeF_nil, wipeF_cons, Int.reduceLE, Int.reduceLT, Int.reduceToNat, Int.reducePow, Int.reduceNeg, Int.reduceSub, Int.reduceAdd, Int.reduceMul, decide_true, decide_false, Bool.not_true, Bool.not_false, Bool.bne_false, Bool.bne_true, ↓w_aStar, ↓w_stT, ↓kSt_ok, ↓w_aDef, ↓kDf_ok, ↓w_Cnt, ↓w_Ext, ↓w_isBB, ↓w_isIB]
    refine take_w (P1.app _) (by omega) (by decide) (by decide) fun j h2 j0 j1 P2 S2 => ?_
    simp only [↓w_ok, ↓kB_ok, ↓kI_ok, ↓w_K, ↓w_V, ↓w_vR, ↓w_Op, ↓kO1_ok, ↓kO2_ok, ↓w_Un, ↓w_bOf, ↓w_isB, ↓kBl_ok, ↓kBl_exc, ↓kIf_ok, ↓kIf_exc, ↓w_okB, ↓w_okD, ↓w_bAnd, ↓w_bOr, ↓w_bNot, ↓kNot_ok, ↓kNot_exc, ↓w_eAnd, ↓w_eOr, ↓w_eNot, ↓kNotV_ok, ↓w_eIf, ↓w_aNil, ↓w_aCons, ↓kA1_ok, ↓kA2_ok, ↓kA1_exc, ↓kA2_exc, ↓w_Tup, ↓w_Lst, ↓w_mkT, ↓w_mkL, ↓w_Dct, ↓w_Call, ↓w_goS, ↓w_Bi, ↓w_Isi, ↓w_Cut, ↓kC1_ok, ↓kC2_ok, ↓kC3_ok, ↓w_oNone, ↓w_oSome, ↓w_vO, ↓w_Chain, ↓kCh1_ok, ↓kCh2_ok, ↓kCh3_ok, ↓w_chA, ↓w_App, ↓w_Ins, ↓w_insG, ↓z_nx, ↓z_End, ↓z_Seq, ↓kT_nx, ↓kT_rt, ↓kT_bk, ↓kT_ct, ↓kT_exc, ↓z_If, ↓kIfS_ok, ↓kIfS_exc, ↓z_Ret, ↓kRet_ok, ↓kRet_exc, ↓z_Expr, ↓kNx_ok, ↓kNx_exc, ↓z_Asg, ↓kAs_ok, ↓kAs_exc, ↓z_tgO, t_N, t_T, t_nil, t_cons, t_G, t_gnil, t_gcons, t_bind, ↓z_Par, ↓kPar_ok, ↓z_Raise, ↓z_Break, ↓z_Cont, ↓z_For, ↓kSrc_ok, ↓w_Range, ↓w_rgF, ↓w_SeqI, ↓w_sqT, ↓w_Zip, ↓w_zpT, ↓w_Comp, ↓kCo_ok, ↓w_of, ↓kF_rt, ↓kF_nx, ↓kF_exc, ↓w_add, ↓w_sub, ↓w_pow10, ↓w_neg, ↓w_lt, ↓w_le, ↓w_gt, ↓w_ge, ↓w_ix0, ↓w_ix1, ↓w_ix2, ↓w_ix3, ↓w_eqI, ↓w_eqS, ↓w_eqT2, ↓w_abs, ↓w_lenT, ↓w_lenS, ↓w_max, ↓w_min, ↓w_intT, ↓w_intF, ↓w_isBool, ↓w_isTup, ↓w_tupT, ↓w_listT, ↓w_cutT, ↓brw_t, ↓brw_f, ↓brz_t, ↓brz_f, List.getElem?_cons_zero, List.getElem?_cons_succ, List.set_cons_zero, List.set_cons_succ, List.length_cons, List.length_nil, List.map_cons, List.map_nil, List.replicate, List.cons_append, List.nil_append, small, Nat.reduceAdd, Nat.reduceLeDiff, Nat.reduceEqDiff, Int.cast_ofNat_Int, Int.reduceBEq, BEq.rfl, ↓w_Yes, ↓w_bTru, ↓augF_ok, ↓z_Put, ↓putF_ok, ↓putG_ok, ↓w_isNn, ↓w_isNt, wipeF_nil, wipeF_cons, Int.reduceLE, Int.reduceLT, Int.reduceToNat, Int.reducePow, Int.reduceNeg, Int.reduceSub, Int.reduceAdd, Int.reduceMul, decide_true, decide_false, Bool.not_true, Bool.not_false, Bool.bne_false, Bool.bne_true, ↓w_aStar, ↓w_stT, ↓kSt_ok, ↓w_aDef, ↓kDf_ok, ↓w_Cnt, ↓w_Ext, ↓w_isBB, ↓w_isIB]
    have l2 : lstAt h2 h1.length = some [dq (0, 1), dq (top, 1)] := S2.lst (by have := P1.lt; omega) (lst_new _ _)
    refine w_ixP (fun d => ∃ q : Qp, d = dq q ∧ Fq 150 q ∧ 0 ≤ q.1 ∧ q.1 ≤ top * q.2) l2 j0 (by simpa using j1) ?_ ?_
    · have g : ∀ x : Int, gI x 1 = 1 := fun x => by unfold gI; simp
      have b : Bd 150 top := Bd.of (by omega) (by omega)
      intro d hd
      simp at hd
      rcases hd with rfl | rfl
      · exact ⟨(0, 1), rfl, ⟨by decide, g _, Bd.of (by decide) (by decide), Bd.of (by decide) (by decide)⟩, by simp, by simp; omega⟩
      · exact ⟨(top, 1), rfl, ⟨by simp, g _, b, Bd.one.mono (by decide)⟩, by simp; omega, by simp⟩
    · rintro _ ⟨q, rfl, f, q0, q1⟩
      simp only [↓w_ok, ↓kB_ok, ↓kI_ok, ↓w_K, ↓w_V, ↓w_vR, ↓w_Op, ↓kO1_ok, ↓kO2_ok, ↓w_Un, ↓w_bOf, ↓w_isB, ↓kBl_ok, ↓kBl_exc, ↓kIf_ok, ↓kIf_exc, ↓w_okB, ↓w_okD, ↓w_bAnd, ↓w_bOr, ↓w_bNot, ↓kNot_ok, ↓kNot_exc, ↓w_eAnd, ↓w_eOr, ↓w_eNot, ↓kNotV_ok, ↓w_eIf, ↓w_aNil, ↓w_aCons, ↓kA1_ok, ↓kA2_ok, ↓kA1_exc, ↓kA2_exc, ↓w_Tup, ↓w_Lst, ↓w_mkT, ↓w_mkL, ↓w_Dct, ↓w_Call, ↓w_goS, ↓w_Bi, ↓w_Isi, ↓w_Cut, ↓kC1_ok, ↓kC2_ok, ↓kC3_ok, ↓w_oNone, ↓w_oSome, ↓w_vO, ↓w_Chain, ↓kCh1_ok, ↓kCh2_ok, ↓kCh3_ok, ↓w_chA, ↓w_App, ↓w_Ins, ↓w_insG, ↓z_nx, ↓z_End, ↓z_Seq, ↓kT_nx, ↓kT_rt, ↓kT_bk, ↓kT_ct, ↓kT_exc, ↓z_If, ↓kIfS_ok, ↓kIfS_exc, ↓z_Ret, ↓kRet_ok, ↓kRet_exc, ↓z_Expr, ↓kNx_ok, ↓kNx_exc, ↓z_Asg, ↓kAs_ok, ↓kAs_exc, ↓z_tgO, t_N, t_T, t_nil, t_cons, t_G, t_gnil, t_gcons, t_bind, ↓z_Par, ↓kPar_ok, ↓z_Raise, ↓z_Break, ↓z_Cont, ↓z_For, ↓kSrc_ok, ↓w_Range, ↓w_rgF, ↓w_SeqI, ↓w_sqT, ↓w_Zip, ↓w_zpT, ↓w_Comp, ↓kCo_ok, ↓w_of, ↓kF_rt, ↓kF_nx, ↓kF_exc, ↓w_add, ↓w_sub, ↓w_pow10, ↓w_neg, ↓w_lt, ↓w_le, ↓w_gt, ↓w_ge, ↓w_ix0, ↓w_ix1, ↓w_ix2, ↓w_ix3, ↓w_eqI, ↓w_eqS, ↓w_eqT2, ↓w_abs, ↓w_lenT, ↓w_lenS, ↓w_max, ↓w_min, ↓w_intT, ↓w_intF, ↓w_isBool, ↓w_isTup, ↓w_tupT, ↓w_listT, ↓w_cutT, ↓brw_t, ↓brw_f, ↓brz_t, ↓brz_f, List.getElem?_cons_zero, List.getElem?_cons_succ, List.set_cons_zero, List.set_cons_succ, List.length_cons, List.length_nil, List.map_cons, List.map_nil, List.replicate, List.cons_append, List.nil_append, small, Nat.reduceAdd, Nat.reduceLeDiff, Nat.reduceEqDiff, Int.cast_ofNat_Int, Int.reduceBEq, BEq.rfl, ↓w_Yes, ↓w_bTru, ↓augF_ok, ↓z_Put, ↓putF_ok, ↓putG_ok, ↓w_isNn, ↓w_isNt, wipeF_nil, wipeF_cons, Int.reduceLE, Int.reduceLT, Int.reduceToNat, Int.reducePow, Int.reduceNeg, Int.reduceSub, Int.reduceAdd, Int.reduceMul, decide_true, decide_false, Bool.not_true, Bool.not_false, Bool.bne_false, Bool.bne_true, ↓w_aStar, ↓w_stT, ↓kSt_ok, ↓w_aDef, ↓kDf_ok, ↓w_Cnt, ↓w_Ext, ↓w_isBB, ↓w_isIB]
      exact k q _ f q0 q1 (P2.mono (by omega)) (S1.trans S2.cut)
  · simp only [↓w_ok, ↓kB_ok, ↓kI_ok, ↓w_K, ↓w_V, ↓w_vR, ↓w_Op, ↓kO1_ok, ↓kO2_ok, ↓w_Un, ↓w_bOf, ↓w_isB, ↓kBl_ok, ↓kBl_exc, ↓kIf_ok, ↓kIf_exc, ↓w_okB, ↓w_okD, ↓w_bAnd, ↓w_bOr, ↓w_bNot, ↓kNot_ok, ↓kNot_exc, ↓w_eAnd, ↓w_eOr, ↓w_eNot, ↓kNotV_ok, ↓w_eIf, ↓w_aNil, ↓w_aCons, ↓kA1_ok, ↓kA2_ok, ↓kA1_exc, ↓kA2_exc, ↓w_Tup, ↓w_Lst, ↓w_mkT, ↓w_mkL, ↓w_Dct, ↓w_Call, ↓w_goS, ↓w_Bi, ↓w_Isi, ↓w_Cut, ↓kC1_ok, ↓kC2_ok, ↓kC3_ok, ↓w_oNone, ↓w_oSome, ↓w_vO, ↓w_Chain, ↓kCh1_ok, ↓kCh2_ok, ↓kCh3_ok, ↓w_chA, ↓w_App, ↓w_Ins, ↓w_insG, ↓z_nx, ↓z_End, ↓z_Seq, ↓kT_nx, ↓kT_rt, ↓kT_bk, ↓kT_ct, ↓kT_exc, ↓z_If, ↓kIfS_ok, ↓kIfS_exc, ↓z_Ret, ↓kRet_ok, ↓kRet_exc, ↓z_Expr, ↓kNx_ok, ↓kNx_exc, ↓z_Asg, ↓kAs_ok, ↓kAs_exc, ↓z_tgO, t_N, t_T, t_nil, t_cons, t_G, t_gnil, t_gcons, t_bind, ↓z_Par, ↓kPar_ok, ↓z_Raise, ↓z_Break, ↓z_Cont, ↓z_For, ↓kSrc_ok, ↓w_Range, ↓w_rgF, ↓w_SeqI, ↓w_sqT, ↓w_Zip, ↓w_zpT, ↓w_Comp, ↓kCo_ok, ↓w_of, ↓kF_rt, ↓kF_nx, ↓kF_exc, ↓w_add, ↓w_sub, ↓w_pow10, ↓w_neg, ↓w_lt, ↓w_le, ↓w_gt, ↓w_ge, ↓w_ix0, ↓w_ix1, ↓w_ix2, ↓w_ix3, ↓w_eqI, ↓w_eqS, ↓w_eqT2, ↓w_abs, ↓w_lenT, ↓w_lenS, ↓w_max, ↓w_min, ↓w_intT, ↓w_intF, ↓w_isBool, ↓w_isTup, ↓w_tupT, ↓w_listT, ↓w_cutT, ↓brw_t, ↓brw_f, ↓brz_t, ↓brz_f, List.getElem?_cons_zero, List.getElem?_cons_succ, List.set_cons_zero, List.set_cons_succ, List.length_cons, List.length_nil, List.map_cons, List.map_nil, List.replicate, List.cons_append, List.nil_append, small, Nat.reduceAdd, Nat.reduceLeDiff, Nat.reduceEqDiff, Int.cast_ofNat_Int, Int.reduceBEq, BEq.rfl, ↓w_Yes, ↓w_bTru, ↓augF_ok, ↓z_Put, ↓putF_ok, ↓putG_ok, ↓w_isNn, ↓w_isNt, wipeF_nil, wipeF_cons, Int.reduceLE, Int.reduceLT, Int.reduceToNat, Int.reducePow, Int.reduceNeg, Int.reduceSub, Int.reduceAdd, Int.reduceMul, decide_true, decide_false, Bool.not_true, Bool.not_false, Bool.bne_false, Bool.bne_true, ↓w_aStar, ↓w_stT, ↓kSt_ok, ↓w_aDef, ↓kDf_ok, ↓w_Cnt, ↓w_Ext, ↓w_isBB, ↓w_isIB]
    have hi : i ≠ 0 := by simpa using hc
    refine w_ixP (intIn 1 (10 ^ 30)) (lst_new _ _) (i := i - 1) (by omega) (by simp; omega) (by simp [intIn]) ?_
    rintro _ ⟨u, rfl, u0, u1⟩
    simp only [↓w_ok, ↓kB_ok, ↓kI_ok, ↓w_K, ↓w_V, ↓w_vR, ↓w_Op, ↓kO1_ok, ↓kO2_ok, ↓w_Un, ↓w_bOf, ↓w_isB, ↓kBl_ok, ↓kBl_exc, ↓kIf_ok, ↓kIf_exc, ↓w_okB, ↓w_okD, ↓w_bAnd, ↓w_bOr, ↓w_bNot, ↓kNot_ok, ↓kNot_exc, ↓w_eAnd, ↓w_eOr, ↓w_eNot, ↓kNotV_ok, ↓w_eIf, ↓w_aNil, ↓w_aCons, ↓kA1_ok, ↓kA2_ok, ↓kA1_exc, ↓kA2_exc, ↓w_Tup, ↓w_Lst, ↓w_mkT, ↓w_mkL, ↓w_Dct, ↓w_Call, ↓w_goS, ↓w_Bi, ↓w_Isi, ↓w_Cut, ↓kC1_ok, ↓kC2_ok, ↓kC3_ok, ↓w_oNone, ↓w_oSome, ↓w_vO, ↓w_Chain, ↓kCh1_ok, ↓kCh2_ok, ↓kCh3_ok, ↓w_chA, ↓w_App, ↓w_Ins, ↓w_insG, ↓z_nx, ↓z_End, ↓z_Seq, ↓kT_nx, ↓kT_rt, ↓kT_bk, ↓kT_ct, ↓kT_exc, ↓z_If, ↓kIfS_ok, ↓kIfS_exc, ↓z_Ret, ↓kRet_ok, ↓kRet_exc, ↓z_Expr, ↓kNx_ok, ↓kNx_exc, ↓z_Asg, ↓kAs_ok, ↓kAs_exc, ↓z_tgO, t_N, t_T, t_nil, t_cons, t_G, t_gnil, t_gcons, t_bind, ↓z_Par, ↓kPar_ok, ↓z_Raise, ↓z_Break, ↓z_Cont, ↓z_For, ↓kSrc_ok, ↓w_Range, ↓w_rgF, ↓w_SeqI, ↓w_sqT, ↓w_Zip, ↓w_zpT, ↓w_Comp, ↓kCo_ok, ↓w_of, ↓kF_rt, ↓kF_nx, ↓kF_exc, ↓w_add, ↓w_sub, ↓w_pow10, ↓w_neg, ↓w_lt, ↓w_le, ↓w_gt, ↓w_ge, ↓w_ix0, ↓w_ix1, ↓w_ix2, ↓w_ix3, ↓w_eqI, ↓w_eqS, ↓w_eqT2, ↓w_abs, ↓w_lenT, ↓w_lenS, ↓w_max, ↓w_min, ↓w_intT, ↓w_intF, ↓w_isBool, ↓w_isTup, ↓w_tupT, ↓w_listT, ↓w_cutT, ↓brw_t, ↓brw_f, ↓brz_t, ↓brz_f, List.getElem?_cons_zero, List.getElem?_cons_succ, List.set_cons_zero, List.set_cons_succ, List.length_cons, List.length_nil, List.map_cons, List.map_nil, List.replicate, List.cons_append, List.nil_append, small, Nat.reduceAdd, Nat.reduceLeDiff, Nat.reduceEqDiff, Int.cast_ofNat_Int, Int.reduceBEq, BEq.rfl, ↓w_Yes, ↓w_bTru, ↓augF_ok, ↓z_Put, ↓putF_ok, ↓putG_ok, ↓w_isNn, ↓w_isNt, wipeF_nil, wipeF_cons, Int.reduceLE, Int.reduceLT, Int.reduceToNat, Int.reducePow, Int.reduceNeg, Int.reduceSub, Int.reduceAdd, Int.reduceMul, decide_true, decide_false, Bool.not_true, Bool.not_false, Bool.bne_false, Bool.bne_true, ↓w_aStar, ↓w_stT, ↓kSt_ok, ↓w_aDef, ↓kDf_ok, ↓w_Cnt, ↓w_Ext, ↓w_isBB, ↓w_isIB]
    refine great2_w (P1.app _) (by omega) (by omega) (Int.lt_of_le_of_lt u1 (by decide)) fun y h2 y0 y1 P2 S2 => ?_
    have b1 : Bd 21 top := Bd.of (by omega) (by omega)
    have b2 : Bd 100 (1 + y) := Bd.of (by omega) (by omega)
    have b3 := (b1.mul b2).lt
    have t2 : 0 ≤ top * (1 + y) := Int.mul_nonneg (by omega) (by omega)
    simp only [↓w_ok, ↓kB_ok, ↓kI_ok, ↓w_K, ↓w_V, ↓w_vR, ↓w_Op, ↓kO1_ok, ↓kO2_ok, ↓w_Un, ↓w_bOf, ↓w_isB, ↓kBl_ok, ↓kBl_exc, ↓kIf_ok, ↓kIf_exc, ↓w_okB, ↓w_okD, ↓w_bAnd, ↓w_bOr, ↓w_bNot, ↓kNot_ok, ↓kNot_exc, ↓w_eAnd, ↓w_eOr, ↓w_eNot, ↓kNotV_ok, ↓w_eIf, ↓w_aNil, ↓w_aCons, ↓kA1_ok, ↓kA2_ok, ↓kA1_exc, ↓kA2_exc, ↓w_Tup, ↓w_Lst, ↓w_mkT, ↓w_mkL, ↓w_Dct, ↓w_Call, ↓w_goS, ↓w_Bi, ↓w_Isi, ↓w_Cut, ↓kC1_ok, ↓kC2_ok, ↓kC3_ok, ↓w_oNone, ↓w_oSome, ↓w_vO, ↓w_Chain, ↓kCh1_ok, ↓kCh2_ok, ↓kCh3_ok, ↓w_chA, ↓w_App, ↓w_Ins, ↓w_insG, ↓z_nx, ↓z_End, ↓z_Seq, ↓kT_nx, ↓kT_rt, ↓kT_bk, ↓kT_ct, ↓kT_exc, ↓z_If, ↓kIfS_ok, ↓kIfS_exc, ↓z_Ret, ↓kRet_ok, ↓kRet_exc, ↓z_Expr, ↓kNx_ok, ↓kNx_exc, ↓z_Asg, ↓kAs_ok, ↓kAs_exc, ↓z_tgO, t_N, t_T, t_nil, t_cons, t_G, t_gnil, t_gcons, t_bind, ↓z_Par, ↓kPar_ok, ↓z_Raise, ↓z_Break, ↓z_Cont, ↓z_For, ↓kSrc_ok, ↓w_Range, ↓w_rgF, ↓w_SeqI, ↓w_sqT, ↓w_Zip, ↓w_zpT, ↓w_Comp, ↓kCo_ok, ↓w_of, ↓kF_rt, ↓kF_nx, ↓kF_exc, ↓w_add, ↓w_sub, ↓w_pow10, ↓w_neg, ↓w_lt, ↓w_le, ↓w_gt, ↓w_ge, ↓w_ix0, ↓w_ix1, ↓w_ix2, ↓w_ix3, ↓w_eqI, ↓w_eqS, ↓w_eqT2, ↓w_abs, ↓w_lenT, ↓w_lenS, ↓w_max, ↓w_min, ↓w_intT, ↓w_intF, ↓w_isBool, ↓w_isTup, ↓w_tupT, ↓w_listT, ↓w_cutT, ↓brw_t, ↓brw_f, ↓brz_t, ↓brz_f, List.getElem?_cons_zero, List.getElem?_cons_succ, List.set_cons_zero, List.set_cons_succ, List.length_cons, List.length_nil, List.map_cons, List.map_nil, List.replicate, List.cons_append, List.nil_append, small, Nat.reduceAdd, Nat.reduceLeDiff, Nat.reduceEqDiff, Int.cast_ofNat_Int, Int.reduceBEq, BEq.rfl, ↓w_Yes, ↓w_bTru, ↓augF_ok, ↓z_Put, ↓putF_ok, ↓putG_ok, ↓w_isNn, ↓w_isNt, wipeF_nil, wipeF_cons, Int.reduceLE, Int.reduceLT, Int.reduceToNat, Int.reducePow, Int.reduceNeg, Int.reduceSub, Int.reduceAdd, Int.reduceMul, decide_true, decide_false, Bool.not_true, Bool.not_false, Bool.bne_false, Bool.bne_true, ↓w_aStar, ↓w_stT, ↓kSt_ok, ↓w_aDef, ↓kDf_ok, ↓w_Cnt, ↓w_Ext, ↓w_isBB, ↓w_isIB, w_mul (b1.mk b2)]
    refine great2_w P2 (by omega) (by omega) (Int.lt_trans (show top * (1 + y) + 1 < 2 ^ 122 by omega) (by decide)) fun z h3 z0 z1 P3 S3 => ?_
    simp only [↓w_ok, ↓kB_ok, ↓kI_ok, ↓w_K, ↓w_V, ↓w_vR, ↓w_Op, ↓kO1_ok, ↓kO2_ok, ↓w_Un, ↓w_bOf, ↓w_isB, ↓kBl_ok, ↓kBl_exc, ↓kIf_ok, ↓kIf_exc, ↓w_okB, ↓w_okD, ↓w_bAnd, ↓w_bOr, ↓w_bNot, ↓kNot_ok, ↓kNot_exc, ↓w_eAnd, ↓w_eOr, ↓w_eNot, ↓kNotV_ok, ↓w_eIf, ↓w_aNil, ↓w_aCons, ↓kA1_ok, ↓kA2_ok, ↓kA1_exc, ↓kA2_exc, ↓w_Tup, ↓w_Lst, ↓w_mkT, ↓w_mkL, ↓w_Dct, ↓w_Call, ↓w_goS, ↓w_Bi, ↓w_Isi, ↓w_Cut, ↓kC1_ok, ↓kC2_ok, ↓kC3_ok, ↓w_oNone, ↓w_oSome, ↓w_vO, ↓w_Chain, ↓kCh1_ok, ↓kCh2_ok, ↓kCh3_ok, ↓w_chA, ↓w_App, ↓w_Ins, ↓w_insG, ↓z_nx, ↓z_End, ↓z_Seq, ↓kT_nx, ↓kT_rt, ↓kT_bk, ↓kT_ct, ↓kT_exc, ↓z_If, ↓kIfS_ok, ↓kIfS_exc, ↓z_Ret, ↓kRet_ok, ↓kRet_exc, ↓z_Expr, ↓kNx_ok, ↓kNx_exc, ↓z_Asg, ↓kAs_ok, ↓kAs_exc, ↓z_tgO, t_N, t_T, t_nil, t_cons, t_G, t_gnil, t_gcons, t_bind, ↓z_Par, ↓kPar_ok, ↓z_Raise, ↓z_Break, ↓z_Cont, ↓z_For, ↓kSrc_ok, ↓w_Range, ↓w_rgF, ↓w_SeqI, ↓w_sqT, ↓w_Zip, ↓w_zpT, ↓w_Comp, ↓kCo_ok, ↓w_of, ↓kF_rt, ↓kF_nx, ↓kF_exc, ↓w_add, ↓w_sub, ↓w_pow10, ↓w_neg, ↓w_lt, ↓w_le, ↓w_gt, ↓w_ge, ↓w_ix0, ↓w_ix1, ↓w_ix2, ↓w_ix3, ↓w_eqI, ↓w_eqS, ↓w_eqT2, ↓w_abs, ↓w_lenT, ↓w_lenS, ↓w_max, ↓w_min, ↓w_intT, ↓w_intF, ↓w_isBool, ↓w_isTup, ↓w_tupT, ↓w_listT, ↓w_cutT, ↓brw_t, ↓brw_f, ↓brz_t, ↓brz_f, List.getElem?_cons_zero, List.getElem?_cons_succ, List.set_cons_zero, List.set_cons_succ, List.length_cons, List.length_nil, List.map_cons, List.map_nil, List.replicate, List.cons_append, List.nil_append, small, Nat.reduceAdd, Nat.reduceLeDiff, Nat.reduceEqDiff, Int.cast_ofNat_Int, Int.reduceBEq, BEq.rfl, ↓w_Yes, ↓w_bTru, ↓augF_ok, ↓z_Put, ↓putF_ok, ↓putG_ok, ↓w_isNn, ↓w_isNt, wipeF_nil, wipeF_cons, Int.reduceLE, Int.reduceLT, Int.reduceToNat, Int.reducePow, Int.reduceNeg, Int.reduceSub, Int.reduceAdd, Int.reduceMul, decide_true, decide_false, Bool.not_true, Bool.not_false, Bool.bne_false, Bool.bne_true, ↓w_aStar, ↓w_stT, ↓kSt_ok, ↓w_aDef, ↓kDf_ok, ↓w_Cnt, ↓w_Ext, ↓w_isBB, ↓w_isIB]
    have c1 : Bd 150 z := Bd.of (by omega) (by omega)
    have c2 : Bd 150 (1 + y) := b2.mono (by decide)
    refine low_w (by omega) c2 (by decide) ?_
    simp only [↓w_ok, ↓kB_ok, ↓kI_ok, ↓w_K, ↓w_V, ↓w_vR, ↓w_Op, ↓kO1_ok, ↓kO2_ok, ↓w_Un, ↓w_bOf, ↓w_isB, ↓kBl_ok, ↓kBl_exc, ↓kIf_ok, ↓kIf_exc, ↓w_okB, ↓w_okD, ↓w_bAnd, ↓w_bOr, ↓w_bNot, ↓kNot_ok, ↓kNot_exc, ↓w_eAnd, ↓w_eOr, ↓w_eNot, ↓kNotV_ok, ↓w_eIf, ↓w_aNil, ↓w_aCons, ↓kA1_ok, ↓kA2_ok, ↓kA1_exc, ↓kA2_exc, ↓w_Tup, ↓w_Lst, ↓w_mkT, ↓w_mkL, ↓w_Dct, ↓w_Call, ↓w_goS, ↓w_Bi, ↓w_Isi, ↓w_Cut, ↓kC1_ok, ↓kC2_ok, ↓kC3_ok, ↓w_oNone, ↓w_oSome, ↓w_vO, ↓w_Chain, ↓kCh1_ok, ↓kCh2_ok, ↓kCh3_ok, ↓w_chA, ↓w_App, ↓w_Ins, ↓w_insG, ↓z_nx, ↓z_End, ↓z_Seq, ↓kT_nx, ↓kT_rt, ↓kT_bk, ↓kT_ct, ↓kT_exc, ↓z_If, ↓kIfS_ok, ↓kIfS_exc, ↓z_Ret, ↓kRet_ok, ↓kRet_exc, ↓z_Expr, ↓kNx_ok, ↓kNx_exc, ↓z_Asg, ↓kAs_ok, ↓kAs_exc, ↓z_tgO, t_N, t_T, t_nil, t_cons, t_G, t_gnil, t_gcons, t_bind, ↓z_Par, ↓kPar_ok, ↓z_Raise, ↓z_Break, ↓z_Cont, ↓z_For, ↓kSrc_ok, ↓w_Range, ↓w_rgF, ↓w_SeqI, ↓w_sqT, ↓w_Zip, ↓w_zpT, ↓w_Comp, ↓kCo_ok, ↓w_of, ↓kF_rt, ↓kF_nx, ↓kF_exc, ↓w_add, ↓w_sub, ↓w_pow10, ↓w_neg, ↓w_lt, ↓w_le, ↓w_gt, ↓w_ge, ↓w_ix0, ↓w_ix1, ↓w_ix2, ↓w_ix3, ↓w_eqI, ↓w_eqS, ↓w_eqT2, ↓w_abs, ↓w_lenT, ↓w_lenS, ↓w_max, ↓w_min, ↓w_intT, ↓w_intF, ↓w_isBool, ↓w_isTup, ↓w_tupT, ↓w_listT, ↓w_cutT, ↓brw_t, ↓brw_f, ↓brz_t, ↓brz_f, List.getElem?_cons_zero, List.getElem?_cons_succ, List.set_cons_zero, List.set_cons_succ, List.length_cons, List.length_nil, List.map_cons, List.map_nil, List.replicate, List.cons_append, List.nil_append, small, Nat.reduceAdd, Nat.reduceLeDiff, Nat.reduceEqDiff, Int.cast_ofNat_Int, Int.reduceBEq, BEq.rfl, ↓w_Yes, ↓w_bTru, ↓augF_ok, ↓z_Put, ↓putF_ok, ↓putG_ok, ↓w_isNn, ↓w_isNt, wipeF_nil, wipeF_cons, Int.reduceLE, Int.reduceLT, Int.reduceToNat, Int.reducePow, Int.reduceNeg, Int.reduceSub, Int.reduceAdd, Int.reduceMul, decide_true, decide_false, Bool.not_true, Bool.not_false, Bool.bne_false, Bool.bne_true, ↓w_aStar, ↓w_stT, ↓kSt_ok, ↓w_aDef, ↓kDf_ok, ↓w_Cnt, ↓w_Ext, ↓w_isBB, ↓w_isIB]
    have cr := lowQ_cross (x := z) (show 0 < 1 + y by omega)
    have ps := lowQ_pos (x := z) (show 0 < 1 + y by omega)
    refine k _ _ (lowQ_ok (by omega) c1 c2) (Int.ediv_nonneg z0 (by have := gI_pos (o := z) (u := 1 + y) (by omega); omega)) ?_ (P3.mono (by omega)) (S1.trans (S2.cut.trans S3))
    refine Int.le_of_mul_le_mul_right (a := 1 + y) ?_ (by omega)
    rw [cr]
    have := Int.mul_le_mul_of_nonneg_right (show z ≤ top * (1 + y) by omega) (show 0 ≤ (lowQ z (1 + y)).2 by omega)
    grind
theorem less_w {a b c d : Int} {A : Nat} (ha : Bd A a) (hb : Bd A b) (hc : Bd A c) (hd : Bd A d) (hA : A < 400000 := by decide) : W (S__law_less [.tup [.int a, .int b], .tup [.int c, .int d]] h) Φ = Φ (.ok (.bl (decide (a * d < c * b))) h) := by
  unfold W
  rw [less_ok ha hb hc hd hA]
theorem below_w {a b c d : Int} {A : Nat} (ha : Bd A a) (hb : Bd A b) (hc : Bd A c) (hd : Bd A d) (hA : A < 400000 := by decide) : W (S_below [.tup [.int a, .int b], .tup [.int c, .int d]] h) Φ = Φ (.ok (.bl (decide (a * d < c * b))) h) := by
  unfold W
  rw [below_ok ha hb hc hd hA]
/-! ### spells -/
structure Spl where
  b : Qp
  wb : Bool
  e : Qp
  we : Bool
abbrev dsp (s : Spl) : D := .tup [dq s.b, .bl s.wb, dq s.e, .bl s.we]
/-- one moment at least -/
def Spl.live (s : Spl) : Prop := qlt s.b s.e ∨ (s.b = s.e ∧ s.wb = true ∧ s.we = true)
structure SpOk (B : Nat) (s : Spl) : Prop where
  fb : Fq B s.b
  fe : Fq B s.e
  mb : mom s.b
  me : mom s.e
  live : s.live
theorem Fq.ext {A B : Nat} {a b : Qp} (fa : Fq A a) (fb : Fq B b) (h1 : ¬ qlt a b) (h2 : ¬ qlt b a) : a = b := by
  have := Fq.eq (by have := fa.pos; omega) (by have := fb.pos; omega) fa.low fb.low (show a.1 * b.2 = b.1 * a.2 by
    have g1 : ¬ a.1 * b.2 < b.1 * a.2 := h1
    have g2 : ¬ b.1 * a.2 < a.1 * b.2 := h2
    omega)
  exact Prod.ext this.1 this.2
theorem qp_eq {a b : Qp} (h : (a.1 == b.1 && a.2 == b.2) = true) : a = b := by
  simp at h
  exact Prod.ext h.1 h.2
theorem qp_ne {a b : Qp} (h : (a.1 == b.1 && a.2 == b.2) = false) : a ≠ b := by
  rintro rfl
  simp at h
theorem mom_of {top : Int} {q : Qp} (t1 : top ≤ 1000000) (hq : 1 ≤ q.2) (h0 : 0 ≤ q.1) (h1 : q.1 ≤ top * q.2) : mom q := by
  refine ⟨h0, Int.le_trans h1 ?_⟩
  exact Int.mul_le_mul_of_nonneg_right t1 (by omega)
theorem spell_w {top : Int} (P : PotAt h p n) (hn : n < 999800) (t0 : 1 ≤ top) (t1 : top ≤ 1000000) (k : ∀ s h1, SpOk 150 s → PotAt h1 p (n + 30) → Step p h h1 → Φ (.ok (dsp s) h1)) : W (S__law_spell [.ref p, .int top] h) Φ := by
  have key : ∀ (x y : Qp) (h2 : Hq) (Φ : Rs D → Prop), Fq 150 x → Fq 150 y → mom x → mom y → ¬ qlt y x → PotAt h2 p (n + 20) → Step p h h2 → (∀ s h1, SpOk 150 s → PotAt h1 p (n + 30) → Step p h h1 → Φ (.ok (dsp s) h1)) → Z ((sSeq (sIf (bOr (bOf (eOp (dEqs false) (eV 2) (eV 3))) (bOf (eOp (dEqs false) (eCall 2 S__law_take (aCons (eV 0) (aCons (eK (.int 9)) (aNil)))) (eK (.int 0))))) (sSeq (sRet (eTup (aCons (eV 2) (aCons (eK (.bl true)) (aCons (eV 2) (aCons (eK (.bl true)) (aNil))))))) (sEnd)) (sEnd)) (sSeq (sRet (eTup (aCons (eV 2) (aCons (eOp (dEqs false) (eCall 2 S__law_take (aCons (eV 0) (aCons (eK (.int 2)) (aNil)))) (eK (.int 0))) (aCons (eV 3) (aCons (eOp (dEqs false) (eCall 2 S__law_take (aCons (eV 0) (aCons (eK (.int 2)) (aNil)))) (eK (.int 0))) (aNil))))))) (sEnd))) [some (.ref p), some (.int top), some (dq x), some (dq y)] h2) (kF Φ) := by
    intro x y h2 Φ fx fy mx my nl P2 S2 k
    simp only [↓w_ok, ↓kB_ok, ↓kI_ok, ↓w_K, ↓w_V, ↓w_vR, ↓w_Op, ↓kO1_ok, ↓kO2_ok, ↓w_Un, ↓w_bOf, ↓w_isB, ↓kBl_ok, ↓kBl_exc, ↓kIf_ok, ↓kIf_exc, ↓w_okB, ↓w_okD, ↓w_bAnd, ↓w_bOr, ↓w_bNot, ↓kNot_ok, ↓kNot_exc, ↓w_eAnd, ↓w_eOr, ↓w_eNot, ↓kNotV_ok, ↓w_eIf, ↓w_aNil, ↓w_aCons, ↓kA1_ok, ↓kA2_ok, ↓kA1_exc, ↓kA2_exc, ↓w_Tup, ↓w_Lst, ↓w_mkT, ↓w_mkL, ↓w_Dct, ↓w_Call, ↓w_goS, ↓w_Bi, ↓w_Isi, ↓w_Cut, ↓kC1_ok, ↓kC2_ok, ↓kC3_ok, ↓w_oNone, ↓w_oSome, ↓w_vO, ↓w_Chain, ↓kCh1_ok, ↓kCh2_ok, ↓kCh3_ok, ↓w_chA, ↓w_App, ↓w_Ins, ↓w_insG, ↓z_nx, ↓z_End, ↓z_Seq, ↓kT_nx, ↓kT_rt, ↓kT_bk, ↓kT_ct, ↓kT_exc, ↓z_If, ↓kIfS_ok, ↓kIfS_exc, ↓z_Ret, ↓kRet_ok, ↓kRet_exc, ↓z_Expr, ↓kNx_ok, ↓kNx_exc, ↓z_Asg, ↓kAs_ok, ↓kAs_exc, ↓z_tgO, t_N, t_T, t_nil, t_cons, t_G, t_gnil, t_gcons, t_bind, ↓z_Par, ↓kPar_ok, ↓z_Raise, ↓z_Break, ↓z_Cont, ↓z_For, ↓kSrc_ok, ↓w_Range, ↓w_rgF, ↓w_SeqI, ↓w_sqT, ↓w_Zip, ↓w_zpT, ↓w_Comp, ↓kCo_ok, ↓w_of, ↓kF_rt, ↓kF_nx, ↓kF_exc, ↓w_add, ↓w_sub, ↓w_pow10, ↓w_neg, ↓w_lt, ↓w_le, ↓w_gt, ↓w_ge, ↓w_ix0, ↓w_ix1, ↓w_ix2, ↓w_ix3, ↓w_eqI, ↓w_eqS, ↓w_eqT2, ↓w_abs, ↓w_lenT, ↓w_lenS, ↓w_max, ↓w_min, ↓w_intT, ↓w_intF, ↓w_isBool, ↓w_isTup, ↓w_tupT, ↓w_listT, ↓w_cutT, ↓brw_t, ↓brw_f, ↓brz_t, ↓brz_f, List.getElem?_cons_zero, List.getElem?_cons_succ, List.set_cons_zero, List.set_cons_succ, List.length_cons, List.length_nil, List.map_cons, List.map_nil, List.replicate, List.cons_append, List.nil_append, small, Nat.reduceAdd, Nat.reduceLeDiff, Nat.reduceEqDiff, Int.cast_ofNat_Int, Int.reduceBEq, BEq.rfl, ↓w_Yes, ↓w_bTru, ↓augF_ok, ↓z_Put, ↓putF_ok, ↓putG_ok, ↓w_isNn, ↓w_isNt, wipeF_nil, wipeF_cons, Int.reduceLE, Int.reduceLT, Int.reduceToNat, Int.reducePow, Int.reduceNeg, Int.reduceSub, Int.reduceAdd, Int.reduceMul, decide_true, decide_false, Bool.not_true, Bool.not_false, Bool.bne_false, Bool.bne_true, ↓w_aStar, ↓w_stT, ↓kSt_ok, ↓w_aDef, ↓kDf_ok, ↓w_Cnt, ↓w_Ext, ↓w_isBB, ↓w_isIB]
    have one : SpOk 150 ⟨x, true, x, true⟩ := ⟨fx, fx, mx, mx, .inr ⟨rfl, rfl, rfl⟩⟩
    refine brw (fun hc => ?_) fun hc => ?_
    · simp only [↓w_ok, ↓kB_ok, ↓kI_ok, ↓w_K, ↓w_V, ↓w_vR, ↓w_Op, ↓kO1_ok, ↓kO2_ok, ↓w_Un, ↓w_bOf, ↓w_isB, ↓kBl_ok, ↓kBl_exc, ↓kIf_ok, ↓kIf_exc, ↓w_okB, ↓w_okD, ↓w_bAnd, ↓w_bOr, ↓w_bNot, ↓kNot_ok, ↓kNot_exc, ↓w_eAnd, ↓w_eOr, ↓w_eNot, ↓kNotV_ok, ↓w_eIf, ↓w_aNil, ↓w_aCons, ↓kA1_ok, ↓kA2_ok, ↓kA1_exc, ↓kA2_exc, ↓w_Tup, ↓w_Lst, ↓w_mkT, ↓w_mkL, ↓w_Dct, ↓w_Call, ↓w_goS, ↓w_Bi, ↓w_Isi, ↓w_Cut, ↓kC1_ok, ↓kC2_ok, ↓kC3_ok, ↓w_oNone, ↓w_oSome, ↓w_vO, ↓w_Chain, ↓kCh1_ok, ↓kCh2_ok, ↓kCh3_ok, ↓w_chA, ↓w_App, ↓w_Ins, ↓w_insG, ↓z_nx, ↓z_End, ↓z_Seq, ↓kT_nx, ↓kT_rt, ↓kT_bk, ↓kT_ct, ↓kT_exc, ↓z_If, ↓kIfS_ok, ↓kIfS_exc, ↓z_Ret, ↓kRet_ok, ↓kRet_exc, ↓z_Expr, ↓kNx_ok, ↓kNx_exc, ↓z_Asg, ↓kAs_ok, ↓kAs_exc, ↓z_tgO, t_N, t_T, t_nil, t_cons, t_G, t_gnil, t_gcons, t_bind, ↓z_Par, ↓kPar_ok, ↓z_Raise, ↓z_Break, ↓z_Cont, ↓z_For, ↓kSrc_ok, ↓w_Range, ↓w_rgF, ↓w_SeqI, ↓w_sqT, ↓w_Zip, ↓w_zpT, ↓w_Comp, ↓kCo_ok, ↓w_of, ↓kF_rt, ↓kF_nx, ↓kF_exc, ↓w_add, ↓w_sub, ↓w_pow10, ↓w_neg, ↓w_lt, ↓w_le, ↓w_gt, ↓w_ge, ↓w_ix0, ↓w_ix1, ↓w_ix2, ↓w_ix3, ↓w_eqI, ↓w_eqS, ↓w_eqT2, ↓w_abs, ↓w_lenT, ↓w_lenS, ↓w_max, ↓w_min, ↓w_intT, ↓w_intF, ↓w_isBool, ↓w_isTup, ↓w_tupT, ↓w_listT, ↓w_cutT, ↓brw_t, ↓brw_f, ↓brz_t, ↓brz_f, List.getElem?_cons_zero, List.getElem?_cons_succ, List.set_cons_zero, List.set_cons_succ, List.length_cons, List.length_nil, List.map_cons, List.map_nil, List.replicate, List.cons_append, List.nil_append, small, Nat.reduceAdd, Nat.reduceLeDiff, Nat.reduceEqDiff, Int.cast_ofNat_Int, Int.reduceBEq, BEq.rfl, ↓w_Yes, ↓w_bTru, ↓augF_ok, ↓z_Put, ↓putF_ok, ↓putG_ok, ↓w_isNn, ↓w_isNt, wipeF_nil, wipeF_cons, Int.reduceLE, Int.reduceLT, Int.reduceToNat, Int.reducePow, Int.reduceNeg, Int.reduceSub, Int.reduceAdd, Int.reduceMul, decide_true, decide_false, Bool.not_true, Bool.not_false, Bool.bne_false, Bool.bne_true, ↓w_aStar, ↓w_stT, ↓kSt_ok, ↓w_aDef, ↓kDf_ok, ↓w_Cnt, ↓w_Ext, ↓w_isBB, ↓w_isIB]
      exact k ⟨x, true, x, true⟩ h2 one (P2.mono (by omega)) S2
    have ne := qp_ne hc
    simp only [↓w_ok, ↓kB_ok, ↓kI_ok, ↓w_K, ↓w_V, ↓w_vR, ↓w_Op, ↓kO1_ok, ↓kO2_ok, ↓w_Un, ↓w_bOf, ↓w_isB, ↓kBl_ok, ↓kBl_exc, ↓kIf_ok, ↓kIf_exc, ↓w_okB, ↓w_okD, ↓w_bAnd, ↓w_bOr, ↓w_bNot, ↓kNot_ok, ↓kNot_exc, ↓w_eAnd, ↓w_eOr, ↓w_eNot, ↓kNotV_ok, ↓w_eIf, ↓w_aNil, ↓w_aCons, ↓kA1_ok, ↓kA2_ok, ↓kA1_exc, ↓kA2_exc, ↓w_Tup, ↓w_Lst, ↓w_mkT, ↓w_mkL, ↓w_Dct, ↓w_Call, ↓w_goS, ↓w_Bi, ↓w_Isi, ↓w_Cut, ↓kC1_ok, ↓kC2_ok, ↓kC3_ok, ↓w_oNone, ↓w_oSome, ↓w_vO, ↓w_Chain, ↓kCh1_ok, ↓kCh2_ok, ↓kCh3_ok, ↓w_chA, ↓w_App, ↓w_Ins, ↓w_insG, ↓z_nx, ↓z_End, ↓z_Seq, ↓kT_nx, ↓kT_rt, ↓kT_bk, ↓kT_ct, ↓kT_exc, ↓z_If, ↓kIfS_ok, ↓kIfS_exc, ↓z_Ret, ↓kRet_ok, ↓kRet_exc, ↓z_Expr, ↓kNx_ok, ↓kNx_exc, ↓z_Asg, ↓kAs_ok, ↓kAs_exc, ↓z_tgO, t_N, t_T, t_nil, t_cons, t_G, t_gnil, t_gcons, t_bind, ↓z_Par, ↓kPar_ok, ↓z_Raise, ↓z_Break, ↓z_Cont, ↓z_For, ↓kSrc_ok, ↓w_Range, ↓w_rgF, ↓w_SeqI, ↓w_sqT, ↓w_Zip, ↓w_zpT, ↓w_Comp, ↓kCo_ok, ↓w_of, ↓kF_rt, ↓kF_nx, ↓kF_exc, ↓w_add, ↓w_sub, ↓w_pow10, ↓w_neg, ↓w_lt, ↓w_le, ↓w_gt, ↓w_ge, ↓w_ix0, ↓w_ix1, ↓w_ix2, ↓w_ix3, ↓w_eqI, ↓w_eqS, ↓w_eqT2, ↓w_abs, ↓w_lenT, ↓w_lenS, ↓w_max, ↓w_min, ↓w_intT, ↓w_intF, ↓w_isBool, ↓w_isTup, ↓w_tupT, ↓w_listT, ↓w_cutT, ↓brw_t, ↓brw_f, ↓brz_t, ↓brz_f, List.getElem?_cons_zero, List.getElem?_cons_succ, List.set_cons_zero, List.set_cons_succ, List.length_cons, List.length_nil, List.map_cons, List.map_nil, List.replicate, List.cons_append, List.nil_append, small, Nat.reduceAdd, Nat.reduceLeDiff, Nat.reduceEqDiff, Int.cast_ofNat_Int, Int.reduceBEq, BEq.rfl, ↓w_Yes, ↓w_bTru, ↓augF_ok, ↓z_Put, ↓putF_ok, ↓putG_ok, ↓w_isNn, ↓w_isNt, wipeF_nil, wipeF_cons, Int.reduceLE, Int.reduceLT, Int.reduceToNat, Int.reducePow, Int.reduceNeg, Int.reduceSub, Int.reduceAdd, Int.reduceMul, decide_true, decide_false, Bool.not_true, Bool.not_false, Bool.bne_false, Bool.bne_true, ↓w_aStar, ↓w_stT, ↓kSt_ok, ↓w_aDef, ↓kDf_ok, ↓w_Cnt, ↓w_Ext, ↓w_isBB, ↓w_isIB]
    refine take_w P2 (by omega) (by decide) (by decide) fun i h3 i0 i1 P3 S3 => ?_
    simp only [↓w_ok, ↓kB_ok, ↓kI_ok, ↓w_K, ↓w_V, ↓w_vR, ↓w_Op, ↓kO1_ok, ↓kO2_ok, ↓w_Un, ↓w_bOf, ↓w_isB, ↓kBl_ok, ↓kBl_exc, ↓kIf_ok, ↓kIf_exc, ↓w_okB, ↓w_okD, ↓w_bAnd, ↓w_bOr, ↓w_bNot, ↓kNot_ok, ↓kNot_exc, ↓w_eAnd, ↓w_eOr, ↓w_eNot, ↓kNotV_ok, ↓w_eIf, ↓w_aNil, ↓w_aCons, ↓kA1_ok, ↓kA2_ok, ↓kA1_exc, ↓kA2_exc, ↓w_Tup, ↓w_Lst, ↓w_mkT, ↓w_mkL, ↓w_Dct, ↓w_Call, ↓w_goS, ↓w_Bi, ↓w_Isi, ↓w_Cut, ↓kC1_ok, ↓kC2_ok, ↓kC3_ok, ↓w_oNone, ↓w_oSome, ↓w_vO, ↓w_Chain, ↓kCh1_ok, ↓kCh2_ok, ↓kCh3_ok, ↓w_chA, ↓w_App, ↓w_Ins, ↓w_insG, ↓z_nx, ↓z_End, ↓z_Seq, ↓kT_nx, ↓kT_rt, ↓kT_bk, ↓kT_ct, ↓kT_exc, ↓z_If, ↓kIfS_ok, ↓kIfS_exc, ↓z_Ret, ↓kRet_ok, ↓kRet_exc, ↓z_Expr, ↓kNx_ok, ↓kNx_exc, ↓z_Asg, ↓kAs_ok, ↓kAs_exc, ↓z_tgO, t_N, t_T, t_nil, t_cons, t_G, t_gnil, t_gcons, t_bind, ↓z_Par, ↓kPar_ok, ↓z_Raise, ↓z_Break, ↓z_Cont, ↓z_For, ↓kSrc_ok, ↓w_Range, ↓w_rgF, ↓w_SeqI, ↓w_sqT, ↓w_Zip, ↓w_zpT, ↓w_Comp, ↓kCo_ok, ↓w_of, ↓kF_rt, ↓kF_nx, ↓kF_exc, ↓w_add, ↓w_sub, ↓w_pow10, ↓w_neg, ↓w_lt, ↓w_le, ↓w_gt, ↓w_ge, ↓w_ix0, ↓w_ix1, ↓w_ix2, ↓w_ix3, ↓w_eqI, ↓w_eqS, ↓w_eqT2, ↓w_abs, ↓w_lenT, ↓w_lenS, ↓w_max, ↓w_min, ↓w_intT, ↓w_intF, ↓w_isBool, ↓w_isTup, ↓w_tupT, ↓w_listT, ↓w_cutT, ↓brw_t, ↓brw_f, ↓brz_t, ↓brz_f, List.getElem?_cons_zero, List.getElem?_cons_succ, List.set_cons_zero, List.set_cons_succ, List.length_cons, List.length_nil, List.map_cons, List.map_nil, List.replicate, List.cons_append, List.nil_append, small, Nat.reduceAdd, Nat.reduceLeDiff, Nat.reduceEqDiff, Int.cast_ofNat_Int, Int.reduceBEq, BEq.rfl, ↓w_Yes, ↓w_bTru, ↓augF_ok, ↓z_Put, ↓putF_ok, ↓putG_ok, ↓w_isNn, ↓w_isNt, wipeF_nil, wipeF_cons, Int.reduceLE, Int.reduceLT, Int.reduceToNat, Int.reducePow, Int.reduceNeg, Int.reduceSub, Int.reduceAdd, Int.reduceMul, decide_true, decide_false, Bool.not_true, Bool.not_false, Bool.bne_false, Bool.bne_true, ↓w_aStar, ↓w_stT, ↓kSt_ok, ↓w_aDef, ↓kDf_ok, ↓w_Cnt, ↓w_Ext, ↓w_isBB, ↓w_isIB]
    refine brz (fun hc => ?_) fun hc => ?_
    · simp only [↓w_ok, ↓kB_ok, ↓kI_ok, ↓w_K, ↓w_V, ↓w_vR, ↓w_Op, ↓kO1_ok, ↓kO2_ok, ↓w_Un, ↓w_bOf, ↓w_isB, ↓kBl_ok, ↓kBl_exc, ↓kIf_ok, ↓kIf_exc, ↓w_okB, ↓w_okD, ↓w_bAnd, ↓w_bOr, ↓w_bNot, ↓kNot_ok, ↓kNot_exc, ↓w_eAnd, ↓w_eOr, ↓w_eNot, ↓kNotV_ok, ↓w_eIf, ↓w_aNil, ↓w_aCons, ↓kA1_ok, ↓kA2_ok, ↓kA1_exc, ↓kA2_exc, ↓w_Tup, ↓w_Lst, ↓w_mkT, ↓w_mkL, ↓w_Dct, ↓w_Call, ↓w_goS, ↓w_Bi, ↓w_Isi, ↓w_Cut, ↓kC1_ok, ↓kC2_ok, ↓kC3_ok, ↓w_oNone, ↓w_oSome, ↓w_vO, ↓w_Chain, ↓kCh1_ok, ↓kCh2_ok, ↓kCh3_ok, ↓w_chA, ↓w_App, ↓w_Ins, ↓w_insG, ↓z_nx, ↓z_End, ↓z_Seq, ↓kT_nx, ↓kT_rt, ↓kT_bk, ↓kT_ct, ↓kT_exc, ↓z_If, ↓kIfS_ok, ↓kIfS_exc, ↓z_Ret, ↓kRet_ok, ↓kRet_exc, ↓z_Expr, ↓kNx_ok, ↓kNx_exc, ↓z_Asg, ↓kAs_ok, ↓kAs_exc, ↓z_tgO, t_N, t_T, t_nil, t_cons, t_G, t_gnil, t_gcons, t_bind, ↓z_Par, ↓kPar_ok, ↓z_Raise, ↓z_Break, ↓z_Cont, ↓z_For, ↓kSrc_ok, ↓w_Range, ↓w_rgF, ↓w_SeqI, ↓w_sqT, ↓w_Zip, ↓w_zpT, ↓w_Comp, ↓kCo_ok, ↓w_of, ↓kF_rt, ↓kF_nx, ↓kF_exc, ↓w_add, ↓w_sub, ↓w_pow10, ↓w_neg, ↓w_lt, ↓w_le, ↓w_gt, ↓w_ge, ↓w_ix0, ↓w_ix1, ↓w_ix2, ↓w_ix3, ↓w_eqI, ↓w_eqS, ↓w_eqT2, ↓w_abs, ↓w_lenT, ↓w_lenS, ↓w_max, ↓w_min, ↓w_intT, ↓w_intF, ↓w_isBool, ↓w_isTup, ↓w_tupT, ↓w_listT, ↓w_cutT, ↓brw_t, ↓brw_f, ↓brz_t, ↓brz_f, List.getElem?_cons_zero, List.getElem?_cons_succ, List.set_cons_zero, List.set_cons_succ, List.length_cons, List.length_nil, List.map_cons, List.map_nil, List.replicate, List.cons_append, List.nil_append, small, Nat.reduceAdd, Nat.reduceLeDiff, Nat.reduceEqDiff, Int.cast_ofNat_Int, Int.reduceBEq, BEq.rfl, ↓w_Yes, ↓w_bTru, ↓augF_ok, ↓z_Put, ↓putF_ok, ↓putG_ok, ↓w_isNn, ↓w_isNt, wipeF_nil, wipeF_cons, Int.reduceLE, Int.reduceLT, Int.reduceToNat, Int.reducePow, Int.reduceNeg, Int.reduceSub, Int.reduceAdd, Int.reduceMul, decide_true, decide_false, Bool.not_true, Bool.not_false, Bool.bne_false, Bool.bne_true, ↓w_aStar, ↓w_stT, ↓kSt_ok, ↓w_aDef, ↓kDf_ok, ↓w_Cnt, ↓w_Ext, ↓w_isBB, ↓w_isIB]
      exact k ⟨x, true, x, true⟩ h3 one (P3.mono (by omega)) (S2.trans S3)
    simp only [↓w_ok, ↓kB_ok, ↓kI_ok, ↓w_K, ↓w_V, ↓w_vR, ↓w_Op, ↓kO1_ok, ↓kO2_ok, ↓w_Un, ↓w_bOf, ↓w_isB, ↓kBl_ok, ↓kBl_exc, ↓kIf_ok, ↓kIf_exc, ↓w_okB, ↓w_okD, ↓w_bAnd, ↓w_bOr, ↓w_bNot, ↓kNot_ok, ↓kNot_exc, ↓w_eAnd, ↓w_eOr, ↓w_eNot, ↓kNotV_ok, ↓w_eIf, ↓w_aNil, ↓w_aCons, ↓kA1_ok, ↓kA2_ok, ↓kA1_exc, ↓kA2_exc, ↓w_Tup, ↓w_Lst, ↓w_mkT, ↓w_mkL, ↓w_Dct, ↓w_Call, ↓w_goS, ↓w_Bi, ↓w_Isi, ↓w_Cut, ↓kC1_ok, ↓kC2_ok, ↓kC3_ok, ↓w_oNone, ↓w_oSome, ↓w_vO, ↓w_Chain, ↓kCh1_ok, ↓kCh2_ok, ↓kCh3_ok, ↓w_chA, ↓w_App, ↓w_Ins, ↓w_insG, ↓z_nx, ↓z_End, ↓z_Seq, ↓kT_nx, ↓kT_rt, ↓kT_bk, ↓kT_ct, ↓kT_exc, ↓z_If, ↓kIfS_ok, ↓kIfS_exc, ↓z_Ret, ↓kRet_ok, ↓kRet_exc, ↓z_Expr, ↓kNx_ok, ↓kNx_exc, ↓z_Asg, ↓kAs_ok, ↓kAs_exc, ↓z_tgO, t_N, t_T, t_nil, t_cons, t_G, t_gnil, t_gcons, t_bind, ↓z_Par, ↓kPar_ok, ↓z_Raise, ↓z_Break, ↓z_Cont, ↓z_For, ↓kSrc_ok, ↓w_Range, ↓w_rgF, ↓w_SeqI, ↓w_sqT, ↓w_Zip, ↓w_zpT, ↓w_Comp, ↓kCo_ok, ↓w_of, ↓kF_rt, ↓kF_nx, ↓kF_exc, ↓w_add, ↓w_sub, ↓w_pow10, ↓w_neg, ↓w_lt, ↓w_le, ↓w_gt, ↓w_ge, ↓w_ix0, ↓w_ix1, ↓w_ix2, ↓w_ix3, ↓w_eqI, ↓w_eqS, ↓w_eqT2, ↓w_abs, ↓w_lenT, ↓w_lenS, ↓w_max, ↓w_min, ↓w_intT, ↓w_intF, ↓w_isBool, ↓w_isTup, ↓w_tupT, ↓w_listT, ↓w_cutT, ↓brw_t, ↓brw_f, ↓brz_t, ↓brz_f, List.getElem?_cons_zero, List.getElem?_cons_succ, List.set_cons_zero, List.set_cons_succ, List.length_cons, List.length_nil, List.map_cons, List.map_nil, List.replicate, List.cons_append, List.nil_append, small, Nat.reduceAdd, Nat.reduceLeDiff, Nat.reduceEqDiff, Int.cast_ofNat_Int, Int.reduceBEq, BEq.rfl, ↓w_Yes, ↓w_bTru, ↓augF_ok, ↓z_Put, ↓putF_ok, ↓putG_ok, ↓w_isNn, ↓w_isNt, wipeF_nil, wipeF_cons, Int.reduceLE, Int.reduceLT, Int.reduceToNat, Int.reducePow, Int.reduceNeg, Int.reduceSub, Int.reduceAdd, Int.reduceMul, decide_true, decide_false, Bool.not_true, Bool.not_false, Bool.bne_false, Bool.bne_true, ↓w_aStar, ↓w_stT, ↓kSt_ok, ↓w_aDef, ↓kDf_ok, ↓w_Cnt, ↓w_Ext, ↓w_isBB, ↓w_isIB]
    refine take_w P3 (by omega) (by decide) (by decide) fun j h4 j0 j1 P4 S4 => ?_
    simp only [↓w_ok, ↓kB_ok, ↓kI_ok, ↓w_K, ↓w_V, ↓w_vR, ↓w_Op, ↓kO1_ok, ↓kO2_ok, ↓w_Un, ↓w_bOf, ↓w_isB, ↓kBl_ok, ↓kBl_exc, ↓kIf_ok, ↓kIf_exc, ↓w_okB, ↓w_okD, ↓w_bAnd, ↓w_bOr, ↓w_bNot, ↓kNot_ok, ↓kNot_exc, ↓w_eAnd, ↓w_eOr, ↓w_eNot, ↓kNotV_ok, ↓w_eIf, ↓w_aNil, ↓w_aCons, ↓kA1_ok, ↓kA2_ok, ↓kA1_exc, ↓kA2_exc, ↓w_Tup, ↓w_Lst, ↓w_mkT, ↓w_mkL, ↓w_Dct, ↓w_Call, ↓w_goS, ↓w_Bi, ↓w_Isi, ↓w_Cut, ↓kC1_ok, ↓kC2_ok, ↓kC3_ok, ↓w_oNone, ↓w_oSome, ↓w_vO, ↓w_Chain, ↓kCh1_ok, ↓kCh2_ok, ↓kCh3_ok, ↓w_chA, ↓w_App, ↓w_Ins, ↓w_insG, ↓z_nx, ↓z_End, ↓z_Seq, ↓kT_nx, ↓kT_rt, ↓kT_bk, ↓kT_ct, ↓kT_exc, ↓z_If, ↓kIfS_ok, ↓kIfS_exc, ↓z_Ret, ↓kRet_ok, ↓kRet_exc, ↓z_Expr, ↓kNx_ok, ↓kNx_exc, ↓z_Asg, ↓kAs_ok, ↓kAs_exc, ↓z_tgO, t_N, t_T, t_nil, t_cons, t_G, t_gnil, t_gcons, t_bind, ↓z_Par, ↓kPar_ok, ↓z_Raise, ↓z_Break, ↓z_Cont, ↓z_For, ↓kSrc_ok, ↓w_Range, ↓w_rgF, ↓w_SeqI, ↓w_sqT, ↓w_Zip, ↓w_zpT, ↓w_Comp, ↓kCo_ok, ↓w_of, ↓kF_rt, ↓kF_nx, ↓kF_exc, ↓w_add, ↓w_sub, ↓w_pow10, ↓w_neg, ↓w_lt, ↓w_le, ↓w_gt, ↓w_ge, ↓w_ix0, ↓w_ix1, ↓w_ix2, ↓w_ix3, ↓w_eqI, ↓w_eqS, ↓w_eqT2, ↓w_abs, ↓w_lenT, ↓w_lenS, ↓w_max, ↓w_min, ↓w_intT, ↓w_intF, ↓w_isBool, ↓w_isTup, ↓w_tupT, ↓w_listT, ↓w_cutT, ↓brw_t, ↓brw_f, ↓brz_t, ↓brz_f, List.getElem?_cons_zero, List.getElem?_cons_succ, List.set_cons_zero, List.set_cons_succ, List.length_cons, List.length_nil, List.map_cons, List.map_nil, List.replicate, List.cons_append, List.nil_append, small, Nat.reduceAdd, Nat.reduceLeDiff, Nat.reduceEqDiff, Int.cast_ofNat_Int, Int.reduceBEq, BEq.rfl, ↓w_Yes, ↓w_bTru, ↓augF_ok, ↓z_Put, ↓putF_ok, ↓putG_ok, ↓w_isNn, ↓w_isNt, wipeF_nil, wipeF_cons, Int.reduceLE, Int.reduceLT, Int.reduceToNat, Int.reducePow, Int.reduceNeg, Int.reduceSub, Int.reduceAdd, Int.reduceMul, decide_true, decide_false, Bool.not_true, Bool.not_false, Bool.bne_false, Bool.bne_true, ↓w_aStar, ↓w_stT, ↓kSt_ok, ↓w_aDef, ↓kDf_ok, ↓w_Cnt, ↓w_Ext, ↓w_isBB, ↓w_isIB]
    refine take_w P4 (by omega) (by decide) (by decide) fun z h5 z0 z1 P5 S5 => ?_
    simp only [↓w_ok, ↓kB_ok, ↓kI_ok, ↓w_K, ↓w_V, ↓w_vR, ↓w_Op, ↓kO1_ok, ↓kO2_ok, ↓w_Un, ↓w_bOf, ↓w_isB, ↓kBl_ok, ↓kBl_exc, ↓kIf_ok, ↓kIf_exc, ↓w_okB, ↓w_okD, ↓w_bAnd, ↓w_bOr, ↓w_bNot, ↓kNot_ok, ↓kNot_exc, ↓w_eAnd, ↓w_eOr, ↓w_eNot, ↓kNotV_ok, ↓w_eIf, ↓w_aNil, ↓w_aCons, ↓kA1_ok, ↓kA2_ok, ↓kA1_exc, ↓kA2_exc, ↓w_Tup, ↓w_Lst, ↓w_mkT, ↓w_mkL, ↓w_Dct, ↓w_Call, ↓w_goS, ↓w_Bi, ↓w_Isi, ↓w_Cut, ↓kC1_ok, ↓kC2_ok, ↓kC3_ok, ↓w_oNone, ↓w_oSome, ↓w_vO, ↓w_Chain, ↓kCh1_ok, ↓kCh2_ok, ↓kCh3_ok, ↓w_chA, ↓w_App, ↓w_Ins, ↓w_insG, ↓z_nx, ↓z_End, ↓z_Seq, ↓kT_nx, ↓kT_rt, ↓kT_bk, ↓kT_ct, ↓kT_exc, ↓z_If, ↓kIfS_ok, ↓kIfS_exc, ↓z_Ret, ↓kRet_ok, ↓kRet_exc, ↓z_Expr, ↓kNx_ok, ↓kNx_exc, ↓z_Asg, ↓kAs_ok, ↓kAs_exc, ↓z_tgO, t_N, t_T, t_nil, t_cons, t_G, t_gnil, t_gcons, t_bind, ↓z_Par, ↓kPar_ok, ↓z_Raise, ↓z_Break, ↓z_Cont, ↓z_For, ↓kSrc_ok, ↓w_Range, ↓w_rgF, ↓w_SeqI, ↓w_sqT, ↓w_Zip, ↓w_zpT, ↓w_Comp, ↓kCo_ok, ↓w_of, ↓kF_rt, ↓kF_nx, ↓kF_exc, ↓w_add, ↓w_sub, ↓w_pow10, ↓w_neg, ↓w_lt, ↓w_le, ↓w_gt, ↓w_ge, ↓w_ix0, ↓w_ix1, ↓w_ix2, ↓w_ix3, ↓w_eqI, ↓w_eqS, ↓w_eqT2, ↓w_abs, ↓w_lenT, ↓w_lenS, ↓w_max, ↓w_min, ↓w_intT, ↓w_intF, ↓w_isBool, ↓w_isTup, ↓w_tupT, ↓w_listT, ↓w_cutT, ↓brw_t, ↓brw_f, ↓brz_t, ↓brz_f, List.getElem?_cons_zero, List.getElem?_cons_succ, List.set_cons_zero, List.set_cons_succ, List.length_cons, List.length_nil, List.map_cons, List.map_nil, List.replicate, List.cons_append, List.nil_append, small, Nat.reduceAdd, Nat.reduceLeDiff, Nat.reduceEqDiff, Int.cast_ofNat_Int, Int.reduceBEq, BEq.rfl, ↓w_Yes, ↓w_bTru, ↓augF_ok, ↓z_Put, ↓putF_ok, ↓putG_ok, ↓w_isNn, ↓w_isNt, wipeF_nil, wipeF_cons, Int.reduceLE, Int.reduceLT, Int.reduceToNat, Int.reducePow, Int.reduceNeg, Int.reduceSub, Int.reduceAdd, Int.reduceMul, decide_true, decide_false, Bool.not_true, Bool.not_false, Bool.bne_false, Bool.bne_true, ↓w_aStar, ↓w_stT, ↓kSt_ok, ↓w_aDef, ↓kDf_ok, ↓w_Cnt, ↓w_Ext, ↓w_isBB, ↓w_isIB]
    refine k ⟨x, j == 0, y, z == 0⟩ h5 ⟨fx, fy, mx, my, .inl ?_⟩ (P5.mono (by omega)) (S2.trans (S3.trans (S4.trans S5)))
    by_cases hq : qlt x y
    · exact hq
    · exact absurd (fx.ext fy hq nl) ne
  unfold S__law_spell
  simp only [↓w_ok, ↓kB_ok, ↓kI_ok, ↓w_K, ↓w_V, ↓w_vR, ↓w_Op, ↓kO1_ok, ↓kO2_ok, ↓w_Un, ↓w_bOf, ↓w_isB, ↓kBl_ok, ↓kBl_exc, ↓kIf_ok, ↓kIf_exc, ↓w_okB, ↓w_okD, ↓w_bAnd, ↓w_bOr, ↓w_bNot, ↓kNot_ok, ↓kNot_exc, ↓w_eAnd, ↓w_eOr, ↓w_eNot, ↓kNotV_ok, ↓w_eIf, ↓w_aNil, ↓w_aCons, ↓kA1_ok, ↓kA2_ok, ↓kA1_exc, ↓kA2_exc, ↓w_Tup, ↓w_Lst, ↓w_mkT, ↓w_mkL, ↓w_Dct, ↓w_Call, ↓w_goS, ↓w_Bi, ↓w_Isi, ↓w_Cut, ↓kC1_ok, ↓kC2_ok, ↓kC3_ok, ↓w_oNone, ↓w_oSome, ↓w_vO, ↓w_Chain, ↓kCh1_ok, ↓kCh2_ok, ↓kCh3_ok, ↓w_chA, ↓w_App, ↓w_Ins, ↓w_insG, ↓z_nx, ↓z_End, ↓z_Seq, ↓kT_nx, ↓kT_rt, ↓kT_bk, ↓kT_ct, ↓kT_exc, ↓z_If, ↓kIfS_ok, ↓kIfS_exc, ↓z_Ret, ↓kRet_ok, ↓kRet_exc, ↓z_Expr, ↓kNx_ok, ↓kNx_exc, ↓z_Asg, ↓kAs_ok, ↓kAs_exc, ↓z_tgO, t_N, t_T, t_nil, t_cons, t_G, t_gnil, t_gcons, t_bind, ↓z_Par, ↓kPar_ok, ↓z_Raise, ↓z_Break, ↓z_Cont, ↓z_For, ↓kSrc_ok, ↓w_Range, ↓w_rgF, ↓w_SeqI, ↓w_sqT, ↓w_Zip, ↓w_zpT, ↓w_Comp, ↓kCo_ok, ↓w_of, ↓kF_rt, ↓kF_nx, ↓kF_exc, ↓w_add, ↓w_sub, ↓w_pow10, ↓w_neg, ↓w_lt, ↓w_le, ↓w_gt, ↓w_ge, ↓w_ix0, ↓w_ix1, ↓w_ix2, ↓w_ix3, ↓w_eqI, ↓w_eqS, ↓w_eqT2, ↓w_abs, ↓w_lenT, ↓w_lenS, ↓w_max, ↓w_min, ↓w_intT, ↓w_intF, ↓w_isBool, ↓w_isTup, ↓w_tupT, ↓w_listT, ↓w_cutT, ↓brw_t, ↓brw_f, ↓brz_t, ↓brz_f, List.getElem?_cons_zero, List.getElem?_cons_succ, List.set_cons_zero, List.set_cons_succ, List.length_cons, List.length_nil, List.map_cons, List.map_nil, List.replicate, List.cons_append, List.nil_append, small, Nat.reduceAdd, Nat.reduceLeDiff, Nat.reduceEqDiff, Int.cast_ofNat_Int, Int.reduceBEq, BEq.rfl, ↓w_Yes, ↓w_bTru, ↓augF_ok, ↓z_Put, ↓putF_ok, ↓putG_ok, ↓w_isNn, ↓w_isNt, wipeF_nil, wipeF_cons, Int.reduceLE, Int.reduceLT, Int.reduceToNat, Int.reducePow, Int.reduceNeg, Int.reduceSub, Int.reduceAdd, Int.reduceMul, decide_true, decide_false, Bool.not_true, Bool.not_false, Bool.bne_false, Bool.bne_true, ↓w_aStar, ↓w_stT, ↓kSt_ok, ↓w_aDef, ↓kDf_ok, ↓w_Cnt, ↓w_Ext, ↓w_isBB, ↓w_isIB]
  refine moment2_w P (by omega) t0 t1 fun x h1 fx x0 x1 P1 S1 => ?_
  simp only [↓w_ok, ↓kB_ok, ↓kI_ok, ↓w_K, ↓w_V, ↓w_vR, ↓w_Op, ↓kO1_ok, ↓kO2_ok, ↓w_Un, ↓w_bOf, ↓w_isB, ↓kBl_ok, ↓kBl_exc, ↓kIf_ok, ↓kIf_exc, ↓w_okB, ↓w_okD, ↓w_bAnd, ↓w_bOr, ↓w_bNot, ↓kNot_ok, ↓kNot_exc, ↓w_eAnd, ↓w_eOr, ↓w_eNot, ↓kNotV_ok, ↓w_eIf, ↓w_aNil, ↓w_aCons, ↓kA1_ok, ↓kA2_ok, ↓kA1_exc, ↓kA2_exc, ↓w_Tup, ↓w_Lst, ↓w_mkT, ↓w_mkL, ↓w_Dct, ↓w_Call, ↓w_goS, ↓w_Bi, ↓w_Isi, ↓w_Cut, ↓kC1_ok, ↓kC2_ok, ↓kC3_ok, ↓w_oNone, ↓w_oSome, ↓w_vO, ↓w_Chain, ↓kCh1_ok, ↓kCh2_ok, ↓kCh3_ok, ↓w_chA, ↓w_App, ↓w_Ins, ↓w_insG, ↓z_nx, ↓z_End, ↓z_Seq, ↓kT_nx, ↓kT_rt, ↓kT_bk, ↓kT_ct, ↓kT_exc, ↓z_If, ↓kIfS_ok, ↓kIfS_exc, ↓z_Ret, ↓kRet_ok, ↓kRet_exc, ↓z_Expr, ↓kNx_ok, ↓kNx_exc, ↓z_Asg, ↓kAs_ok, ↓kAs_exc, ↓z_tgO, t_N, t_T, t_nil, t_cons, t_G, t_gnil, t_gcons, t_bind, ↓z_Par, ↓kPar_ok, ↓z_Raise, ↓z_Break, ↓z_Cont, ↓z_For, ↓kSrc_ok, ↓w_Range, ↓w_rgF, ↓w_SeqI, ↓w_sqT, ↓w_Zip, ↓w_zpT, ↓w_Comp, ↓kCo_ok, ↓w_of, ↓kF_rt, ↓kF_nx, ↓kF_exc, ↓w_add, ↓w_sub, ↓w_pow10, ↓w_neg, ↓w_lt, ↓w_le, ↓w_gt, ↓w_ge, ↓w_ix0, ↓w_ix1, ↓w_ix2, ↓w_ix3, ↓w_eqI, ↓w_eqS, ↓w_eqT2, ↓w_abs, ↓w_lenT, ↓w_lenS, ↓w_max, ↓w_min, ↓w_intT, ↓w_intF, ↓w_isBool, ↓w_isTup, ↓w_tupT, ↓w_listT, ↓w_cutT, ↓brw_t, ↓brw_f, ↓brz_t, ↓brz_f, List.getElem?_cons_zero, List.getElem?_cons_succ, List.set_cons_zero, List.set_cons_succ, List.length_cons, List.length_nil, List.map_cons, List.map_nil, List.replicate, List.cons_append, List.nil_append, small, Nat.reduceAdd, Nat.reduceLeDiff, Nat.reduceEqDiff, Int.cast_ofNat_Int, Int.reduceBEq, BEq.rfl, ↓w_Yes, ↓w_bTru, ↓augF_ok, ↓z_Put, ↓putF_ok, ↓putG_ok, ↓w_isNn, ↓w_isNt, wipeF_nil, wipeF_cons, Int.reduceLE, Int.reduceLT, Int.reduceToNat, Int.reducePow, Int.reduceNeg, Int.reduceSub, Int.reduceAdd, Int.reduceMul, decide_true, decide_false, Bool.not_true, Bool.not_false, Bool.bne_false, Bool.bne_true, ↓w_aStar, ↓w_stT, ↓kSt_ok, ↓w_aDef, ↓kDf_ok, ↓w_Cnt, ↓w_Ext, ↓w_isBB, ↓w_isIB]
  refine moment2_w P1 (by omega) t0 t1 fun y h2 fy y0 y1 P2 S2 => ?_
  have mx := mom_of t1 fx.pos x0 x1
  have my := mom_of t1 fy.pos y0 y1
  simp only [↓w_ok, ↓kB_ok, ↓kI_ok, ↓w_K, ↓w_V, ↓w_vR, ↓w_Op, ↓kO1_ok, ↓kO2_ok, ↓w_Un, ↓w_bOf, ↓w_isB, ↓kBl_ok, ↓kBl_exc, ↓kIf_ok, ↓kIf_exc, ↓w_okB, ↓w_okD, ↓w_bAnd, ↓w_bOr, ↓w_bNot, ↓kNot_ok, ↓kNot_exc, ↓w_eAnd, ↓w_eOr, ↓w_eNot, ↓kNotV_ok, ↓w_eIf, ↓w_aNil, ↓w_aCons, ↓kA1_ok, ↓kA2_ok, ↓kA1_exc, ↓kA2_exc, ↓w_Tup, ↓w_Lst, ↓w_mkT, ↓w_mkL, ↓w_Dct, ↓w_Call, ↓w_goS, ↓w_Bi, ↓w_Isi, ↓w_Cut, ↓kC1_ok, ↓kC2_ok, ↓kC3_ok, ↓w_oNone, ↓w_oSome, ↓w_vO, ↓w_Chain, ↓kCh1_ok, ↓kCh2_ok, ↓kCh3_ok, ↓w_chA, ↓w_App, ↓w_Ins, ↓w_insG, ↓z_nx, ↓z_End, ↓z_Seq, ↓kT_nx, ↓kT_rt, ↓kT_bk, ↓kT_ct, ↓kT_exc, ↓z_If, ↓kIfS_ok, ↓kIfS_exc, ↓z_Ret, ↓kRet_ok, ↓kRet_exc, ↓z_Expr, ↓kNx_ok, ↓kNx_exc, ↓z_Asg, ↓kAs_ok, ↓kAs_exc, ↓z_tgO, t_N, t_T, t_nil, t_cons, t_G, t_gnil, t_gcons, t_bind, ↓z_Par, ↓kPar_ok, ↓z_Raise, ↓z_Break, ↓z_Cont, ↓z_For, ↓kSrc_ok, ↓w_Range, ↓w_rgF, ↓w_SeqI, ↓w_sqT, ↓w_Zip, ↓w_zpT, ↓w_Comp, ↓kCo_ok, ↓w_of, ↓kF_rt, ↓kF_nx, ↓kF_exc, ↓w_add, ↓w_sub, ↓w_pow10, ↓w_neg, ↓w_lt, ↓w_le, ↓w_gt, ↓w_ge, ↓w_ix0, ↓w_ix1, ↓w_ix2, ↓w_ix3, ↓w_eqI, ↓w_eqS, ↓w_eqT2, ↓w_abs, ↓w_lenT, ↓w_lenS, ↓w_max, ↓w_min, ↓w_intT, ↓w_intF, ↓w_isBool, ↓w_isTup, ↓w_tupT, ↓w_listT, ↓w_cutT, ↓brw_t, ↓brw_f, ↓brz_t, ↓brz_f, List.getElem?_cons_zero, List.getElem?_cons_succ, List.set_cons_zero, List.set_cons_succ, List.length_cons, List.length_nil, List.map_cons, List.map_nil, List.replicate, List.cons_append, List.nil_append, small, Nat.reduceAdd, Nat.reduceLeDiff, Nat.reduceEqDiff, Int.cast_ofNat_Int, Int.reduceBEq, BEq.rfl, ↓w_Yes, ↓w_bTru, ↓augF_ok, ↓z_Put, ↓putF_ok, ↓putG_ok, ↓w_isNn, ↓w_isNt, wipeF_nil, wipeF_cons, Int.reduceLE, Int.reduceLT, Int.reduceToNat, Int.reducePow, Int.reduceNeg, Int.reduceSub, Int.reduceAdd, Int.reduceMul, decide_true, decide_false, Bool.not_true, Bool.not_false, Bool.bne_false, Bool.bne_true, ↓w_aStar, ↓w_stT, ↓kSt_ok, ↓w_aDef, ↓kDf_ok, ↓w_Cnt, ↓w_Ext, ↓w_isBB, ↓w_isIB, less_w fy.b1 fy.b2 fx.b1 fx.b2]
  refine brzP (fun hc => ?_) fun hc => ?_
  · simp only [↓w_ok, ↓kB_ok, ↓kI_ok, ↓w_K, ↓w_V, ↓w_vR, ↓w_Op, ↓kO1_ok, ↓kO2_ok, ↓w_Un, ↓w_bOf, ↓w_isB, ↓kBl_ok, ↓kBl_exc, ↓kIf_ok, ↓kIf_exc, ↓w_okB, ↓w_okD, ↓w_bAnd, ↓w_bOr, ↓w_bNot, ↓kNot_ok, ↓kNot_exc, ↓w_eAnd, ↓w_eOr, ↓w_eNot, ↓kNotV_ok, ↓w_eIf, ↓w_aNil, ↓w_aCons, ↓kA1_ok, ↓kA2_ok, ↓kA1_exc, ↓kA2_exc, ↓w_Tup, ↓w_Lst, ↓w_mkT, ↓w_mkL, ↓w_Dct, ↓w_Call, ↓w_goS, ↓w_Bi, ↓w_Isi, ↓w_Cut, ↓kC1_ok, ↓kC2_ok, ↓kC3_ok, ↓w_oNone, ↓w_oSome, ↓w_vO, ↓w_Chain, ↓kCh1_ok, ↓kCh2_ok, ↓kCh3_ok, ↓w_chA, ↓w_App, ↓w_Ins, ↓w_insG, ↓z_nx, ↓z_End, ↓z_Seq, ↓kT_nx, ↓kT_rt, ↓kT_bk, ↓kT_ct, ↓kT_exc, ↓z_If, ↓kIfS_ok, ↓kIfS_exc, ↓z_Ret, ↓kRet_ok, ↓kRet_exc, ↓z_Expr, ↓kNx_ok, ↓kNx_exc, ↓z_Asg, ↓kAs_ok, ↓kAs_exc, ↓z_tgO, t_N, t_T, t_nil, t_cons, t_G, t_gnil, t_gcons, t_bind, ↓z_Par, ↓kPar_ok, ↓z_Raise, ↓z_Break, ↓z_Cont, ↓z_For, ↓kSrc_ok, ↓w_Range, ↓w_rgF, ↓w_SeqI, ↓w_sqT, ↓w_Zip, ↓w_zpT, ↓w_Comp, ↓kCo_ok, ↓w_of, ↓kF_rt, ↓kF_nx, ↓kF_exc, ↓w_add, ↓w_sub, ↓w_pow10, ↓w_neg, ↓w_lt, ↓w_le, ↓w_gt, ↓w_ge, ↓w_ix0, ↓w_ix1, ↓w_ix2, ↓w_ix3, ↓w_eqI, ↓w_eqS, ↓w_eqT2, ↓w_abs, ↓w_lenT, ↓w_lenS, ↓w_max, ↓w_min, ↓w_intT, ↓w_intF, ↓w_isBool, ↓w_isTup, ↓w_tupT, ↓w_listT, ↓w_cutT, ↓brw_t, ↓brw_f, ↓brz_t, ↓brz_f, List.getElem?_cons_zero, List.getElem?_cons_succ, List.set_cons_zero, List.set_cons_succ, List.length_cons, List.length_nil, List.map_cons, List.map_nil, List.replicate, List.cons_append, List.nil_append, small, Nat.reduceAdd, Nat.reduceLeDiff, Nat.reduceEqDiff, Int.cast_ofNat_Int, Int.reduceBEq, BEq.rfl, ↓w_Yes, ↓w_bTru, ↓augF_ok, ↓z_Put, ↓putF_ok, ↓putG_ok, ↓w_isNn, ↓w_isNt, wipeF_nil, wipeF_cons, Int.reduceLE, Int.reduceLT, Int.reduceToNat, Int.reducePow, Int.reduceNeg, Int.reduceSub, Int.reduceAdd, Int.reduceMul, decide_true, decide_false, Bool.not_true, Bool.not_false, Bool.bne_false, Bool.bne_true, ↓w_aStar, ↓w_stT, ↓kSt_ok, ↓w_aDef, ↓kDf_ok, ↓w_Cnt, ↓w_Ext, ↓w_isBB, ↓w_isIB]
    have q := key y x h2 Φ fy fx my mx (fun hq => by
      have g1 : y.1 * x.2 < x.1 * y.2 := hc
      have g2 : x.1 * y.2 < y.1 * x.2 := hq
      omega) (P2.mono (by omega)) (S1.trans S2) k
    revert q
    simp only [↓w_ok, ↓kB_ok, ↓kI_ok, ↓w_K, ↓w_V, ↓w_vR, ↓w_Op, ↓kO1_ok, ↓kO2_ok, ↓w_Un, ↓w_bOf, ↓w_isB, ↓kBl_ok, ↓kBl_exc, ↓kIf_ok, ↓kIf_exc, ↓w_okB, ↓w_okD, ↓w_bAnd, ↓w_bOr, ↓w_bNot, ↓kNot_ok, ↓kNot_exc, ↓w_eAnd, ↓w_eOr, ↓w_eNot, ↓kNotV_ok, ↓w_eIf, ↓w_aNil, ↓w_aCons, ↓kA1_ok, ↓kA2_ok, ↓kA1_exc, ↓kA2_exc, ↓w_Tup, ↓w_Lst, ↓w_mkT, ↓w_mkL, ↓w_Dct, ↓w_Call, ↓w_goS, ↓w_Bi, ↓w_Isi, ↓w_Cut, ↓kC1_ok, ↓kC2_ok, ↓kC3_ok, ↓w_oNone, ↓w_oSome, ↓w_vO, ↓w_Chain, ↓kCh1_ok, ↓kCh2_ok, ↓kCh3_ok, ↓w_chA, ↓w_App, ↓w_Ins, ↓w_insG, ↓z_nx, ↓z_End, ↓z_Seq, ↓kT_nx, ↓kT_rt, ↓kT_bk, ↓kT_ct, ↓kT_exc, ↓z_If, ↓kIfS_ok, ↓kIfS_exc, ↓z_Ret, ↓kRet_ok, ↓kRet_exc, ↓z_Expr, ↓kNx_ok, ↓kNx_exc, ↓z_Asg, ↓kAs_ok, ↓kAs_exc, ↓z_tgO, t_N, t_T, t_nil, t_cons, t_G, t_gnil, t_gcons, t_bind, ↓z_Par, ↓kPar_ok, ↓z_Raise, ↓z_Break, ↓z_Cont, ↓z_For, ↓kSrc_ok, ↓w_Range, ↓w_rgF, ↓w_SeqI, ↓w_sqT, ↓w_Zip, ↓w_zpT, ↓w_Comp, ↓kCo_ok, ↓w_of, ↓kF_rt, ↓kF_nx, ↓kF_exc, ↓w_add, ↓w_sub, ↓w_pow10, ↓w_neg, ↓w_lt, ↓w_le, ↓w_gt, ↓w_ge, ↓w_ix0, ↓w_ix1, ↓w_ix2, ↓w_ix3, ↓w_eqI, ↓w_eqS, ↓w_eqT2, ↓w_abs, ↓w_lenT, ↓w_lenS, ↓w_max, ↓w_min, ↓w_intT, ↓w_intF, ↓w_isBool, ↓w_isTup, ↓w_tupT, ↓w_listT, ↓w_cutT, ↓brw_t, ↓brw_f, ↓brz_t, ↓brz_f, List.getElem?_cons_zero, List.getElem?_cons_succ, List.set_cons_zero, List.set_cons_succ, List.length_cons, List.length_nil, List.map_cons, List.map_nil, List.replicate, List.cons_append, List.nil_append, small, Nat.reduceAdd, Nat.reduceLeDiff, Nat.reduceEqDiff, Int.cast_ofNat_Int, Int.reduceBEq, BEq.rfl, ↓w_Yes, ↓w_bTru, ↓augF_ok, ↓z_Put, ↓putF_ok, ↓putG_ok, ↓w_isNn, ↓w_isNt, wipeF_nil, wipeF_cons, Int.reduceLE, Int.reduceLT, Int.reduceToNat, Int.reducePow, Int.reduceNeg, Int.reduceSub, Int.reduceAdd, Int.reduceMul, decide_true, decide_false, Bool.not_true, Bool.not_false, Bool.bne_false, Bool.bne_true, ↓w_aStar, ↓w_stT, ↓kSt_ok, ↓w_aDef, ↓kDf_ok, ↓w_Cnt, ↓w_Ext, ↓w_isBB, ↓w_isIB]
    exact id
  · simp only [↓w_ok, ↓kB_ok, ↓kI_ok, ↓w_K, ↓w_V, ↓w_vR, ↓w_Op, ↓kO1_ok, ↓kO2_ok, ↓w_Un, ↓w_bOf, ↓w_isB, ↓kBl_ok, ↓kBl_exc, ↓kIf_ok, ↓kIf_exc, ↓w_okB, ↓w_okD, ↓w_bAnd, ↓w_bOr, ↓w_bNot, ↓kNot_ok, ↓kNot_exc, ↓w_eAnd, ↓w_eOr, ↓w_eNot, ↓kNotV_ok, ↓w_eIf, ↓w_aNil, ↓w_aCons, ↓kA1_ok, ↓kA2_ok, ↓kA1_exc, ↓kA2_exc, ↓w_Tup, ↓w_Lst, ↓w_mkT, ↓w_mkL, ↓w_Dct, ↓w_Call, ↓w_goS, ↓w_Bi, ↓w_Isi, ↓w_Cut, ↓kC1_ok, ↓kC2_ok, ↓kC3_ok, ↓w_oNone, ↓w_oSome, ↓w_vO, ↓w_Chain, ↓kCh1_ok, ↓kCh2_ok, ↓kCh3_ok, ↓w_chA, ↓w_App, ↓w_Ins, ↓w_insG, ↓z_nx, ↓z_End, ↓z_Seq, ↓kT_nx, ↓kT_rt, ↓kT_bk, ↓kT_ct, ↓kT_exc, ↓z_If, ↓kIfS_ok, ↓kIfS_exc, ↓z_Ret, ↓kRet_ok, ↓kRet_exc, ↓z_Expr, ↓kNx_ok, ↓kNx_exc, ↓z_Asg, ↓kAs_ok, ↓kAs_exc, ↓z_tgO, t_N, t_T, t_nil, t_cons, t_G, t_gnil, t_gcons, t_bind, ↓z_Par, ↓kPar_ok, ↓z_Raise, ↓z_Break, ↓z_Cont, ↓z_For, ↓kSrc_ok, ↓w_Range, ↓w_rgF, ↓w_SeqI, ↓w_sqT, ↓w_Zip, ↓w_zpT, ↓w_Comp, ↓kCo_ok, ↓w_of, ↓kF_rt, ↓kF_nx, ↓kF_exc, ↓w_add, ↓w_sub, ↓w_pow10, ↓w_neg, ↓w_lt, ↓w_le, ↓w_gt, ↓w_ge, ↓w_ix0, ↓w_ix1, ↓w_ix2, ↓w_ix3, ↓w_eqI, ↓w_eqS, ↓w_eqT2, ↓w_abs, ↓w_lenT, ↓w_lenS, ↓w_max, ↓w_min, ↓w_intT, ↓w_intF, ↓w_isBool, ↓w_isTup, ↓w_tupT, ↓w_listT, ↓w_cutT, ↓brw_t, ↓brw_f, ↓brz_t, ↓brz_f, List.getElem?_cons_zero, List.getElem?_cons_succ, List.set_cons_zero, List.set_cons_succ, List.length_cons, List.length_nil, List.map_cons, List.map_nil, List.replicate, List.cons_append, List.nil_append, small, Nat.reduceAdd, Nat.reduceLeDiff, Nat.reduceEqDiff, Int.cast_ofNat_Int, Int.reduceBEq, BEq.rfl, ↓w_Yes, ↓w_bTru, ↓augF_ok, ↓z_Put, ↓putF_ok, ↓putG_ok, ↓w_isNn, ↓w_isNt, wipeF_nil, wipeF_cons, Int.reduceLE, Int.reduceLT, Int.reduceToNat, Int.reducePow, Int.reduceNeg, Int.reduceSub, Int.reduceAdd, Int.reduceMul, decide_true, decide_false, Bool.not_true, Bool.not_false, Bool.bne_false, Bool.bne_true, ↓w_aStar, ↓w_stT, ↓kSt_ok, ↓w_aDef, ↓kDf_ok, ↓w_Cnt, ↓w_Ext, ↓w_isBB, ↓w_isIB]
    have q := key x y h2 Φ fx fy mx my hc (P2.mono (by omega)) (S1.trans S2) k
    revert q
    simp only [↓w_ok, ↓kB_ok, ↓kI_ok, ↓w_K, ↓w_V, ↓w_vR, ↓w_Op, ↓kO1_ok, ↓kO2_ok, ↓w_Un, ↓w_bOf, ↓w_isB, ↓kBl_ok, ↓kBl_exc, ↓kIf_ok, ↓kIf_exc, ↓w_okB, ↓w_okD, ↓w_bAnd, ↓w_bOr, ↓w_bNot, ↓kNot_ok, ↓kNot_exc, ↓w_eAnd, ↓w_eOr, ↓w_eNot, ↓kNotV_ok, ↓w_eIf, ↓w_aNil, ↓w_aCons, ↓kA1_ok, ↓kA2_ok, ↓kA1_exc, ↓kA2_exc, ↓w_Tup, ↓w_Lst, ↓w_mkT, ↓w_mkL, ↓w_Dct, ↓w_Call, ↓w_goS, ↓w_Bi, ↓w_Isi, ↓w_Cut, ↓kC1_ok, ↓kC2_ok, ↓kC3_ok, ↓w_oNone, ↓w_oSome, ↓w_vO, ↓w_Chain, ↓kCh1_ok, ↓kCh2_ok, ↓kCh3_ok, ↓w_chA, ↓w_App, ↓w_Ins, ↓w_insG, ↓z_nx, ↓z_End, ↓z_Seq, ↓kT_nx, ↓kT_rt, ↓kT_bk, ↓kT_ct, ↓kT_exc, ↓z_If, ↓kIfS_ok, ↓kIfS_exc, ↓z_Ret, ↓kRet_ok, ↓kRet_exc, ↓z_Expr, ↓kNx_ok, ↓kNx_exc, ↓z_Asg, ↓kAs_ok, ↓kAs_exc, ↓z_tgO, t_N, t_T, t_nil, t_cons, t_G, t_gnil, t_gcons, t_bind, ↓z_Par, ↓kPar_ok, ↓z_Raise, ↓z_Break, ↓z_Cont, ↓z_For, ↓kSrc_ok, ↓w_Range, ↓w_rgF, ↓w_SeqI, ↓w_sqT, ↓w_Zip, ↓w_zpT, ↓w_Comp, ↓kCo_ok, ↓w_of, ↓kF_rt, ↓kF_nx, ↓kF_exc, ↓w_add, ↓w_sub, ↓w_pow10, ↓w_neg, ↓w_lt, ↓w_le, ↓w_gt, ↓w_ge, ↓w_ix0, ↓w_ix1, ↓w_ix2, ↓w_ix3, ↓w_eqI, ↓w_eqS, ↓w_eqT2, ↓w_abs, ↓w_lenT, ↓w_lenS, ↓w_max, ↓w_min, ↓w_intT, ↓w_intF, ↓w_isBool, ↓w_isTup, ↓w_tupT, ↓w_listT, ↓w_cutT, ↓brw_t, ↓brw_f, ↓brz_t, ↓brz_f, List.getElem?_cons_zero, List.getElem?_cons_succ, List.set_cons_zero, List.set_cons_succ, List.length_cons, List.length_nil, List.map_cons, List.map_nil, List.replicate, List.cons_append, List.nil_append, small, Nat.reduceAdd, Nat.reduceLeDiff, Nat.reduceEqDiff, Int.cast_ofNat_Int, Int.reduceBEq, BEq.rfl, ↓w_Yes, ↓w_bTru, ↓augF_ok, ↓z_Put, ↓putF_ok, ↓putG_ok, ↓w_isNn, ↓w_isNt, wipeF_nil, wipeF_cons, Int.reduceLE, Int.reduceLT, Int.reduceToNat, Int.reducePow, Int.reduceNeg, Int.reduceSub, Int.reduceAdd, Int.reduceMul, decide_true, decide_false, Bool.not_true, Bool.not_false, Bool.bne_false, Bool.bne_true, ↓w_aStar, ↓w_stT, ↓kSt_ok, ↓w_aDef, ↓kDf_ok, ↓w_Cnt, ↓w_Ext, ↓w_isBB, ↓w_isIB]
    exact id
end
end MI
end

section
set_option Elab.async false
set_option linter.all false
set_option autoImplicit false
set_option maxRecDepth 100000
set_option exponentiation.threshold 20000
set_option maxHeartbeats 4000000
/-! loops by what holds at each turn; comprehensions that change nothing -/
open PySem L2
namespace MI
def kLoop (I : Fr → Hq → Prop) (Ψ : SR → Prop) : SR → Prop
  | .nx fr h => I fr h
  | .ct fr h => I fr h
  | .bk fr h => Ψ (.nx fr h)
  | .rt d h => Ψ (.rt d h)
  | .exc x h => Ψ (.exc x h)
  | .no => False
section
variable {I : Fr → Hq → Prop} {Ψ : SR → Prop} {fr : Fr} {h : Hq} {d : D}
theorem kLoop_nx : kLoop I Ψ (.nx fr h) = I fr h := rfl
theorem kLoop_ct : kLoop I Ψ (.ct fr h) = I fr h := rfl
theorem kLoop_bk : kLoop I Ψ (.bk fr h) = Ψ (.nx fr h) := rfl
theorem kLoop_rt : kLoop I Ψ (.rt d h) = Ψ (.rt d h) := rfl
theorem kLoop_exc {x : Xn} : kLoop I Ψ (.exc x h) = Ψ (.exc x h) := rfl
end
theorem turns_w {get : Nat → Hq → Option D} {fin : Nat → Hq → Bool} {t : Tg} {b : Ss} {I : Nat → Fr → Hq → Prop} {Ψ : SR → Prop} {n : Nat}
    (step : ∀ i fr h, i < n → I i fr h → ∃ d fr1, get i h = some d ∧ t d fr = some fr1 ∧ Z (b fr1 h) (kLoop (I (i + 1)) Ψ)) (done : ∀ fr h, I n fr h → fin n h = true ∧ Ψ (.nx fr h)) :
    ∀ (k i : Nat) (fr : Fr) (h : Hq), i + k = n → I i fr h → Z (turns get fin t b k i fr h) Ψ
  | 0, i, fr, h, hk, hI => by
    have e : i = n := by omega
    subst e
    obtain ⟨f, q⟩ := done fr h hI
    unfold turns Z
    rw [if_pos f]
    exact q
  | k + 1, i, fr, h, hk, hI => by
    obtain ⟨d, fr1, e1, e2, q⟩ := step i fr h (by omega) hI
    have ih := turns_w step done k (i + 1)
    unfold turns Z
    rw [e1]
    dsimp only
    rw [e2]
    dsimp only
    revert q
    unfold Z
    cases b fr1 h with
    | nx fr2 h2 => exact fun q => ih fr2 h2 (by omega) q
    | ct fr2 h2 => exact fun q => ih fr2 h2 (by omega) q
    | bk fr2 h2 => exact fun q => q
    | rt d h2 => exact fun q => q
    | exc x h2 => exact fun q => q
    | no => exact fun q => q.elim
/-- a while's test -/
def kWh (b : Ss) (fr : Fr) (I : Fr → Hq → Prop) (Ψ : SR → Prop) : Rs Bool → Prop
  | .ok c h => (c = true → Z (b fr h) (kLoop I Ψ)) ∧ (c = false → Ψ (.nx fr h))
  | .exc x h => Ψ (.exc x h)
  | .no => False
theorem kWh_ok {b : Ss} {fr : Fr} {I : Fr → Hq → Prop} {Ψ : SR → Prop} {c : Bool} {h : Hq} : kWh b fr I Ψ (.ok c h) = ((c = true → Z (b fr h) (kLoop I Ψ)) ∧ (c = false → Ψ (.nx fr h))) := rfl
theorem while_w {c : Sb} {b : Ss} {I : Nat → Fr → Hq → Prop} {Ψ : SR → Prop} (step : ∀ m fr h, I m fr h → W (c fr h) (kWh b fr (fun fr2 h2 => ∃ m2, m2 < m ∧ I m2 fr2 h2) Ψ)) {m : Nat} {fr : Fr} {h : Hq} (hI : I m fr h) : Z (sWhile c b fr h) Ψ := by
  have key : ∀ (m : Nat) (fr : Fr) (h : Hq), I m fr h → ∃ n r, whileN c b n fr h = some r ∧ Ψ r := by
    intro m
    induction m using Nat.strongRecOn with
    | _ m ih =>
      intro fr h hI
      have q := step m fr h hI
      unfold W at q
      cases hc : c fr h with
      | no => rw [hc] at q; exact q.elim
      | exc x h1 => rw [hc] at q; exact ⟨1, _, by unfold whileN; rw [hc], q⟩
      | ok v h1 =>
        rw [hc] at q
        cases v with
        | false => exact ⟨1, _, by unfold whileN; rw [hc], q.2 rfl⟩
        | true =>
          have q1 := q.1 rfl
          unfold Z at q1
          cases hb : b fr h1 with
          | nx fr2 h2 =>
            rw [hb] at q1
            obtain ⟨m2, hm, hI2⟩ := q1
            obtain ⟨n, r, e, hr⟩ := ih m2 hm fr2 h2 hI2
            exact ⟨n + 1, r, by unfold whileN; rw [hc]; dsimp only; rw [hb]; exact e, hr⟩
          | ct fr2 h2 =>
            rw [hb] at q1
            obtain ⟨m2, hm, hI2⟩ := q1
            obtain ⟨n, r, e, hr⟩ := ih m2 hm fr2 h2 hI2
            exact ⟨n + 1, r, by unfold whileN; rw [hc]; dsimp only; rw [hb]; exact e, hr⟩
          | bk fr2 h2 => rw [hb] at q1; exact ⟨1, _, by unfold whileN; rw [hc]; dsimp only; rw [hb], q1⟩
          | rt d h2 => rw [hb] at q1; exact ⟨1, _, by unfold whileN; rw [hc]; dsimp only; rw [hb], q1⟩
          | exc x h2 => rw [hb] at q1; exact ⟨1, _, by unfold whileN; rw [hc]; dsimp only; rw [hb], q1⟩
          | no => rw [hb] at q1; exact q1.elim
  obtain ⟨n, r, e, hr⟩ := key m fr h hI
  unfold Z
  rw [sWhile_eq e]
  exact hr
/-! ### comprehensions -/
theorem picks_w {m : Nat} {get : Nat → Hq → Option D} {fin : Nat → Hq → Bool} {t : Tg} {c : Sb} {e : Sx} {fr : Fr} {I : Nat → List D → Hq → Prop} {Φ : Rs D → Prop} {n : Nat} (hn : n ≤ 1000000)
    (len : ∀ i acc h, I i acc h → acc.length ≤ i ∧ lstAt h m = some acc)
    (step : ∀ i acc h, i < n → I i acc h → ∃ d fr1, get i h = some d ∧ t d fr = some fr1 ∧ W (c fr1 h) fun s => ∃ b h1, s = .ok b h1 ∧ (b = true → W (e fr1 h1) fun s => ∃ y h2, s = .ok y h2 ∧ lstAt h2 m = some acc ∧ I (i + 1) (acc ++ [y]) (h2.set m (.lst (acc ++ [y])))) ∧ (b = false → I (i + 1) acc h1))
    (done : ∀ acc h, I n acc h → fin n h = true ∧ Φ (.ok (.ref m) h)) :
    ∀ (k i : Nat) (acc : List D) (h : Hq), i + k = n → I i acc h → W (picks m get fin t c e fr k i h) Φ
  | 0, i, acc, h, hk, hI => by
    have e : i = n := by omega
    subst e
    obtain ⟨f, q⟩ := done acc h hI
    unfold picks W
    rw [if_pos f]
    exact q
  | k + 1, i, acc, h, hk, hI => by
    obtain ⟨d, fr1, e1, e2, b, h1, e3, q1, q2⟩ := step i acc h (by omega) hI
    have ih := picks_w (Φ := Φ) hn len step done k (i + 1)
    unfold picks W
    rw [e1]
    dsimp only
    rw [e2]
    dsimp only
    rw [e3]
    cases b with
    | false => exact ih acc h1 (by omega) (q2 rfl)
    | true =>
      obtain ⟨y, h2, e4, e5, hI2⟩ := q1 rfl
      dsimp only
      rw [e4]
      dsimp only
      rw [e5]
      dsimp only
      have := (len i acc h hI).1
      rw [if_pos (show small (acc.length + 1) = true from decide_eq_true (by omega))]
      exact ih _ _ (by omega) hI2
/-- what has only grown -/
def Gr (h h' : Hq) : Prop := ∃ T, h' = h ++ T
theorem Gr.refl (h : Hq) : Gr h h := ⟨[], by simp⟩
theorem Gr.app (h : Hq) (T : List Cell) : Gr h (h ++ T) := ⟨T, rfl⟩
theorem Gr.trans {h h1 h2 : Hq} (a : Gr h h1) (b : Gr h1 h2) : Gr h h2 := by
  obtain ⟨T, rfl⟩ := a
  obtain ⟨U, rfl⟩ := b
  exact ⟨T ++ U, by rw [List.append_assoc]⟩
theorem Gr.lst {h h' : Hq} (g : Gr h h') {q : Nat} {l : List D} (e : lstAt h q = some l) : lstAt h' q = some l := by
  obtain ⟨T, rfl⟩ := g
  exact lstAt_app e T
theorem Gr.step {h h' : Hq} (g : Gr h h') (p : Nat) : Step p h h' := by
  obtain ⟨T, rfl⟩ := g
  exact Step.app p h T
theorem Gr.pot {h h' : Hq} (g : Gr h h') {p : Nat} {n : Int} (P : PotAt h p n) : PotAt h' p n := by
  obtain ⟨T, rfl⟩ := g
  exact P.app T
theorem Gr.len {h h' : Hq} (g : Gr h h') : h.length ≤ h'.length := by
  obtain ⟨T, rfl⟩ := g
  simp
theorem set_mid (h : Hq) (c c' : Cell) (T : List Cell) : (h ++ [c] ++ T).set h.length c' = h ++ [c'] ++ T := by
  rw [List.append_assoc, List.append_assoc]
  have := List.set_append_right (s := h) (t := [c] ++ T) h.length c' (Nat.le_refl _)
  rw [show (h ++ ([c] ++ T)).set h.length c' = _ from this]
  simp
theorem lst_mid (h : Hq) (l : List D) (T : List Cell) : lstAt (h ++ [.lst l] ++ T) h.length = some l := lstAt_app (lst_new h l) T
/-- a comprehension whose test and worth change nothing but for new cells -/
theorem comp_typed {α : Type} {h0 : Hq} {S : Src} {t : Tg} {c : Sb} {e : Sx} {fr : Fr} {Φ : Rs D → Prop} (xs : List α) (enc : α → D) (hn : S.n = xs.length) (hs : xs.length ≤ 1000000) (hget : ∀ i h', Gr h0 h' → S.get i h' = (xs.map enc)[i]?) (hfin : ∀ h', Gr h0 h' → S.fin xs.length h' = true) (p : α → Bool) (f : α → D)
    (hc : ∀ x ∈ xs, ∃ fr1, t (enc x) fr = some fr1 ∧ (∀ h' (Θ : Rs Bool → Prop), Gr h0 h' → (∀ h2, Gr h' h2 → Θ (.ok (p x) h2)) → W (c fr1 h') Θ) ∧ (p x = true → ∀ h' (Φ : Rs D → Prop), Gr h0 h' → (∀ h2, Gr h' h2 → Φ (.ok (f x) h2)) → W (e fr1 h') Φ))
    (k : ∀ T, Φ (.ok (.ref h0.length) (h0 ++ [.lst ((xs.filter p).map f)] ++ T))) : W (picks h0.length S.get S.fin t c e fr S.n 0 (h0 ++ [.lst []])) Φ := by
  rw [hn]
  refine picks_w (I := fun i acc h => acc = ((xs.take i).filter p).map f ∧ i ≤ xs.length ∧ ∃ T, h = h0 ++ [.lst acc] ++ T) hs ?_ ?_ ?_ xs.length 0 [] _ (by omega) ⟨by simp, by omega, [], by simp⟩
  · rintro i acc h ⟨rfl, hi, T, rfl⟩
    refine ⟨?_, lst_mid _ _ _⟩
    have := List.length_filter_le p (xs.take i)
    simp at this ⊢
    omega
  · rintro i acc h hi ⟨ea, hi', T, rfl⟩
    have gr : Gr h0 (h0 ++ [.lst acc] ++ T) := ⟨[.lst acc] ++ T, by simp⟩
    obtain ⟨fr1, e1, e2, e3⟩ := hc xs[i] (List.getElem_mem hi)
    refine ⟨enc xs[i], fr1, by rw [hget _ _ gr, List.getElem?_map, List.getElem?_eq_getElem hi]; rfl, e1, ?_⟩
    have tk : xs.take (i + 1) = xs.take i ++ [xs[i]] := by rw [List.take_succ, List.getElem?_eq_getElem hi]; rfl
    refine e2 _ _ gr fun h2 g2 => ?_
    obtain ⟨U, rfl⟩ := g2
    refine ⟨p xs[i], _, rfl, fun hp => ?_, fun hp => ?_⟩
    · refine e3 hp _ _ (gr.trans (Gr.app _ U)) fun h3 g3 => ?_
      obtain ⟨V', rfl⟩ := g3
      have e4 : h0 ++ [Cell.lst acc] ++ T ++ U ++ V' = h0 ++ [.lst acc] ++ (T ++ U ++ V') := by simp
      refine ⟨_, _, rfl, by rw [e4]; exact lst_mid _ _ _, ?_, by omega, T ++ U ++ V', by rw [e4]; exact set_mid _ _ _ _⟩
      rw [tk, List.filter_append, List.map_append, ← ea]
      simp [hp]
    · refine ⟨?_, by omega, T ++ U, by simp⟩
      rw [tk, List.filter_append, List.map_append, ← ea]
      simp [hp]
  · rintro acc h ⟨ea, _, T, rfl⟩
    have gr : Gr h0 (h0 ++ [.lst acc] ++ T) := ⟨[.lst acc] ++ T, by simp⟩
    refine ⟨hfin _ gr, ?_⟩
    have := k T
    rw [List.take_of_length_le (Nat.le_refl _)] at ea
    rw [← ea] at this
    exact this
theorem comp_pure {h0 : Hq} {S : Src} {t : Tg} {c : Sb} {e : Sx} {fr : Fr} {Φ : Rs D → Prop} (l : List D) (hn : S.n = l.length) (hs : l.length ≤ 1000000) (hget : ∀ i h', Gr h0 h' → S.get i h' = l[i]?) (hfin : ∀ h', Gr h0 h' → S.fin l.length h' = true) (p : D → Bool) (f : D → D)
    (hc : ∀ d ∈ l, ∃ fr1, t d fr = some fr1 ∧ (∀ h' (Θ : Rs Bool → Prop), Gr h0 h' → (∀ h2, Gr h' h2 → Θ (.ok (p d) h2)) → W (c fr1 h') Θ) ∧ (p d = true → ∀ h' (Φ : Rs D → Prop), Gr h0 h' → (∀ h2, Gr h' h2 → Φ (.ok (f d) h2)) → W (e fr1 h') Φ))
    (k : ∀ T, Φ (.ok (.ref h0.length) (h0 ++ [.lst ((l.filter p).map f)] ++ T))) : W (picks h0.length S.get S.fin t c e fr S.n 0 (h0 ++ [.lst []])) Φ :=
  comp_typed l id hn hs (fun i h' g => by rw [hget i h' g]; simp) hfin p f hc k
/-- sources -/
theorem srcT_get {l : List D} (i : Nat) (h : Hq) : (srcT l).get i h = l[i]? := rfl
theorem srcT_fin {l : List D} (h : Hq) : (srcT l).fin l.length h = true := by simp [srcT]
theorem srcC_get {h0 : Hq} {q : Nat} {l : List D} (e : lstAt h0 q = some l) (i : Nat) (h' : Hq) (g : Gr h0 h') : (srcC q l.length).get i h' = l[i]? := by
  show (lstAt h' q).bind _ = _
  rw [g.lst e]; rfl
theorem srcC_fin {h0 : Hq} {q : Nat} {l : List D} (e : lstAt h0 q = some l) (h' : Hq) (g : Gr h0 h') : (srcC q l.length).fin l.length h' = true := by
  show (match lstAt h' q with | some l => decide (l.length ≤ _) | none => false) = true
  rw [g.lst e]; simp
end MI
end

section
set_option Elab.async false
set_option linter.all false
set_option autoImplicit false
set_option maxRecDepth 100000
set_option exponentiation.threshold 20000
set_option maxHeartbeats 4000000
/-! fractions in lists; a moment in a spell; the points of a spell -/
open PySem L2
namespace MI
def pq (q : Qp) : PyData := .tuple [.int q.1, .int q.2]
theorem toPy_dq {h : Hq} {n : Nat} (q : Qp) : toPy h (n + 2) (dq q) = some (pq q) := by
  simp [toPy, opts, pq]
theorem opts_dq {h : Hq} {n : Nat} : ∀ qs : List Qp, opts (toPy h (n + 2)) (qs.map dq) = some (qs.map pq)
  | [] => rfl
  | q :: qs => by
    have ih := opts_dq (h := h) (n := n) qs
    simp only [List.map_cons, opts, toPy_dq, ih]
theorem pq_eqv (a b : Qp) : PyData.eqv (pq a) (pq b) = decide (a = b) := by
  obtain ⟨a1, a2⟩ := a
  obtain ⟨b1, b2⟩ := b
  simp [pq, PyData.eqv, PyData.eqvAll]
  by_cases h1 : a1 = b1 <;> by_cases h2 : a2 = b2 <;> simp [h1, h2]
theorem pq_shaped (q : Qp) : SeqAt.shaped (pq q) = true := by simp [pq, SeqAt.shaped, PyData.canLay0, PyData.canLayAll0, PyData.depth, PyData.depthAll]
theorem pqs_lay : ∀ qs : List Qp, PyData.canLayAll0 (qs.map pq) = true
  | [] => by simp [PyData.canLayAll0]
  | q :: qs => by simp [PyData.canLayAll0, pqs_lay qs, pq, PyData.canLay0]
theorem pqs_depth : ∀ qs : List Qp, PyData.depthAll (qs.map pq) ≤ 1
  | [] => by simp [PyData.depthAll]
  | q :: qs => by
    have := pqs_depth qs
    simp only [List.map_cons, PyData.depthAll]
    have h : (pq q).depth = 1 := by simp [pq, PyData.depth, PyData.depthAll]
    omega
theorem pqs_shaped (qs : List Qp) : SeqAt.shaped (.list (qs.map pq)) = true := by
  have h1 := pqs_depth qs
  have h2 : PyData.depth (.list (qs.map pq)) ≤ 64 := by
    simp only [PyData.depth]
    omega
  show (PyData.canLay0 (.list (qs.map pq)) && decide (PyData.depth (.list (qs.map pq)) ≤ 64)) = true
  rw [Bool.and_eq_true]
  exact ⟨by simp only [PyData.canLay0]; exact pqs_lay qs, decide_eq_true h2⟩
theorem any_pq (qs : List Qp) (q : Qp) : (qs.map pq).any (fun z => PyData.eqv z (pq q)) = decide (q ∈ qs) := by
  induction qs with
  | nil => simp
  | cons a qs ih =>
    rw [List.map_cons, List.any_cons, ih, pq_eqv]
    by_cases h1 : a = q
    · subst h1; simp
    · have : ¬ q = a := fun z => h1 z.symm
      simp [h1, this]
section
variable {h : Hq} {m : Nat} {Φ : Rs D → Prop}
theorem in_q {qs : List Qp} {q : Qp} {b : Bool} (e : lstAt h m = some (qs.map dq)) : W (dIn b (.tup [.int q.1, .int q.2]) (.ref m) h) Φ = Φ (.ok (.bl (decide (q ∈ qs) != b)) h) := by
  unfold W dIn
  have e1 : toPy h 60 (.tup [.int q.1, .int q.2]) = some (pq q) := toPy_dq q
  have e2 : toPy h 60 (.ref m) = some (.list (qs.map pq)) := by
    show (match lstAt h m with | some l => (opts (toPy h 59) l).map PyData.list | none => none) = _
    rw [e]
    simp only [opts_dq (n := 57) qs, Option.map_some]
  simp only [e1, e2]
  rw [if_pos ⟨pq_shaped q, pqs_shaped qs⟩, any_pq]
/-- a moment in a spell -/
def inS (s : Spl) (t : Qp) : Bool := if qlt t s.b ∨ qlt s.e t then false else (s.wb || decide (t ≠ s.b)) && (s.we || decide (t ≠ s.e))
theorem beq_q {a b : Qp} : (a.1 == b.1 && a.2 == b.2) = decide (a = b) := by
  by_cases e : a = b
  · subst e; simp
  · rw [decide_eq_false e]
    cases hq : (a.1 == b.1 && a.2 == b.2)
    · rfl
    · exact absurd (qp_eq hq) e
/-- what is small enough to be reckoned with -/
structure Bq (B : Nat) (q : Qp) : Prop where
  b1 : Bd B q.1
  b2 : Bd B q.2
theorem Fq.bq {B : Nat} {q : Qp} (f : Fq B q) : Bq B q := ⟨f.b1, f.b2⟩
theorem in_w {A : Nat} {s : Spl} {t : Qp} (b : Bq A s.b) (e : Bq A s.e) (c : Bq A t) (hA : A < 400000) (k : Φ (.ok (.bl (inS s t)) h)) : W (S__law_in [dsp s, dq t] h) Φ := by
  unfold S__law_in
  simp only [↓w_ok, ↓kB_ok, ↓kI_ok, ↓w_K, ↓w_V, ↓w_vR, ↓w_Op, ↓kO1_ok, ↓kO2_ok, ↓w_Un, ↓w_bOf, ↓w_isB, ↓kBl_ok, ↓kBl_exc, ↓kIf_ok, ↓kIf_exc, ↓w_okB, ↓w_okD, ↓w_bAnd, ↓w_bOr, ↓w_bNot, ↓kNot_ok, ↓kNot_exc, ↓w_eAnd, ↓w_eOr, ↓w_eNot, ↓kNotV_ok, ↓w_eIf, ↓w_aNil, ↓w_aCons, ↓kA1_ok, ↓kA2_ok, ↓kA1_exc, ↓kA2_exc, ↓w_Tup, ↓w_Lst, ↓w_mkT, ↓w_mkL, ↓w_Dct, ↓w_Call, ↓w_goS, ↓w_Bi, ↓w_Isi, ↓w_Cut, ↓kC1_ok, ↓kC2_ok, ↓kC3_ok, ↓w_oNone, ↓w_oSome, ↓w_vO, ↓w_Chain, ↓kCh1_ok, ↓kCh2_ok, ↓kCh3_ok, ↓w_chA, ↓w_App, ↓w_Ins, ↓w_insG, ↓z_nx, ↓z_End, ↓z_Seq, ↓kT_nx, ↓kT_rt, ↓kT_bk, ↓kT_ct, ↓kT_exc, ↓z_If, ↓kIfS_ok, ↓kIfS_exc, ↓z_Ret, ↓kRet_ok, ↓kRet_exc, ↓z_Expr, ↓kNx_ok, ↓kNx_exc, ↓z_Asg, ↓kAs_ok, ↓kAs_exc, ↓z_tgO, t_N, t_T, t_nil, t_cons, t_G, t_gnil, t_gcons, t_bind, ↓z_Par, ↓kPar_ok, ↓z_Raise, ↓z_Break, ↓z_Cont, ↓z_For, ↓kSrc_ok, ↓w_Range, ↓w_rgF, ↓w_SeqI, ↓w_sqT, ↓w_Zip, ↓w_zpT, ↓w_Comp, ↓kCo_ok, ↓w_of, ↓kF_rt, ↓kF_nx, ↓kF_exc, ↓w_add, ↓w_sub, ↓w_pow10, ↓w_neg, ↓w_lt, ↓w_le, ↓w_gt, ↓w_ge, ↓w_ix0, ↓w_ix1, ↓w_ix2, ↓w_ix3, ↓w_eqI, ↓w_eqS, ↓w_eqT2, ↓w_abs, ↓w_lenT, ↓w_lenS, ↓w_max, ↓w_min, ↓w_intT, ↓w_intF, ↓w_isBool, ↓w_isTup, ↓w_tupT, ↓w_listT, ↓w_cutT, ↓brw_t, ↓brw_f, ↓brz_t, ↓brz_f, List.getElem?_cons_zero, List.getElem?_cons_succ, List.set_cons_zero, List.set_cons_succ, List.length_cons, List.length_nil, List.map_cons, List.map_nil, List.replicate, List.cons_append, List.nil_append, small, Nat.reduceAdd, Nat.reduceLeDiff, Nat.reduceEqDiff, Int.cast_ofNat_Int, Int.reduceBEq, BEq.rfl, ↓w_Yes, ↓w_bTru, ↓augF_ok, ↓z_Put, ↓putF_ok, ↓putG_ok, ↓w_isNn, ↓w_isNt, wipeF_nil, wipeF_cons, Int.reduceLE, Int.reduceLT, Int.reduceToNat, Int.reducePow, Int.reduceNeg, Int.reduceSub, Int.reduceAdd, Int.reduceMul, decide_true, decide_false, Bool.not_true, Bool.not_false, Bool.bne_false, Bool.bne_true, ↓w_aStar, ↓w_stT, ↓kSt_ok, ↓w_aDef, ↓kDf_ok, ↓w_Cnt, ↓w_Ext, ↓w_isBB, ↓w_isIB, less_w c.b1 c.b2 b.b1 b.b2 hA]
  refine brwP (fun h1 => ?_) fun h1 => ?_
  · have h1' : qlt t s.b := h1
    simp only [↓w_ok, ↓kB_ok, ↓kI_ok, ↓w_K, ↓w_V, ↓w_vR, ↓w_Op, ↓kO1_ok, ↓kO2_ok, ↓w_Un, ↓w_bOf, ↓w_isB, ↓kBl_ok, ↓kBl_exc, ↓kIf_ok, ↓kIf_exc, ↓w_okB, ↓w_okD, ↓w_bAnd, ↓w_bOr, ↓w_bNot, ↓kNot_ok, ↓kNot_exc, ↓w_eAnd, ↓w_eOr, ↓w_eNot, ↓kNotV_ok, ↓w_eIf, ↓w_aNil, ↓w_aCons, ↓kA1_ok, ↓kA2_ok, ↓kA1_exc, ↓kA2_exc, ↓w_Tup, ↓w_Lst, ↓w_mkT, ↓w_mkL, ↓w_Dct, ↓w_Call, ↓w_goS, ↓w_Bi, ↓w_Isi, ↓w_Cut, ↓kC1_ok, ↓kC2_ok, ↓kC3_ok, ↓w_oNone, ↓w_oSome, ↓w_vO, ↓w_Chain, ↓kCh1_ok, ↓kCh2_ok, ↓kCh3_ok, ↓w_chA, ↓w_App, ↓w_Ins, ↓w_insG, ↓z_nx, ↓z_End, ↓z_Seq, ↓kT_nx, ↓kT_rt, ↓kT_bk, ↓kT_ct, ↓kT_exc, ↓z_If, ↓kIfS_ok, ↓kIfS_exc, ↓z_Ret, ↓kRet_ok, ↓kRet_exc, ↓z_Expr, ↓kNx_ok, ↓kNx_exc, ↓z_Asg, ↓kAs_ok, ↓kAs_exc, ↓z_tgO, t_N, t_T, t_nil, t_cons, t_G, t_gnil, t_gcons, t_bind, ↓z_Par, ↓kPar_ok, ↓z_Raise, ↓z_Break, ↓z_Cont, ↓z_For, ↓kSrc_ok, ↓w_Range, ↓w_rgF, ↓w_SeqI, ↓w_sqT, ↓w_Zip, ↓w_zpT, ↓w_Comp, ↓kCo_ok, ↓w_of, ↓kF_rt, ↓kF_nx, ↓kF_exc, ↓w_add, ↓w_sub, ↓w_pow10, ↓w_neg, ↓w_lt, ↓w_le, ↓w_gt, ↓w_ge, ↓w_ix0, ↓w_ix1, ↓w_ix2, ↓w_ix3, ↓w_eqI, ↓w_eqS, ↓w_eqT2, ↓w_abs, ↓w_lenT, ↓w_lenS, ↓w_max, ↓w_min, ↓w_intT, ↓w_intF, ↓w_isBool, ↓w_isTup, ↓w_tupT, ↓w_listT, ↓w_cutT, ↓brw_t, ↓brw_f, ↓brz_t, ↓brz_f, List.getElem?_cons_zero, List.getElem?_cons_succ, List.set_cons_zero, List.set_cons_succ, List.length_cons, List.length_nil, List.map_cons, List.map_nil, List.replicate, List.cons_append, List.nil_append, small, Nat.reduceAdd, Nat.reduceLeDiff, Nat.reduceEqDiff, Int.cast_ofNat_Int, Int.reduceBEq, BEq.rfl, ↓w_Yes, ↓w_bTru, ↓augF_ok, ↓z_Put, ↓putF_ok, ↓putG_ok, ↓w_isNn, ↓w_isNt, wipeF_nil, wipeF_cons, Int.reduceLE, Int.reduceLT, Int.reduceToNat, Int.reducePow, Int.reduceNeg, Int.reduceSub, Int.reduceAdd, Int.reduceMul, decide_true, decide_false, Bool.not_true, Bool.not_false, Bool.bne_false, Bool.bne_true, ↓w_aStar, ↓w_stT, ↓kSt_ok, ↓w_aDef, ↓kDf_ok, ↓w_Cnt, ↓w_Ext, ↓w_isBB, ↓w_isIB]
    simpa [inS, h1'] using k
  · have h1' : ¬ qlt t s.b := h1
    simp only [↓w_ok, ↓kB_ok, ↓kI_ok, ↓w_K, ↓w_V, ↓w_vR, ↓w_Op, ↓kO1_ok, ↓kO2_ok, ↓w_Un, ↓w_bOf, ↓w_isB, ↓kBl_ok, ↓kBl_exc, ↓kIf_ok, ↓kIf_exc, ↓w_okB, ↓w_okD, ↓w_bAnd, ↓w_bOr, ↓w_bNot, ↓kNot_ok, ↓kNot_exc, ↓w_eAnd, ↓w_eOr, ↓w_eNot, ↓kNotV_ok, ↓w_eIf, ↓w_aNil, ↓w_aCons, ↓kA1_ok, ↓kA2_ok, ↓kA1_exc, ↓kA2_exc, ↓w_Tup, ↓w_Lst, ↓w_mkT, ↓w_mkL, ↓w_Dct, ↓w_Call, ↓w_goS, ↓w_Bi, ↓w_Isi, ↓w_Cut, ↓kC1_ok, ↓kC2_ok, ↓kC3_ok, ↓w_oNone, ↓w_oSome, ↓w_vO, ↓w_Chain, ↓kCh1_ok, ↓kCh2_ok, ↓kCh3_ok, ↓w_chA, ↓w_App, ↓w_Ins, ↓w_insG, ↓z_nx, ↓z_End, ↓z_Seq, ↓kT_nx, ↓kT_rt, ↓kT_bk, ↓kT_ct, ↓kT_exc, ↓z_If, ↓kIfS_ok, ↓kIfS_exc, ↓z_Ret, ↓kRet_ok, ↓kRet_exc, ↓z_Expr, ↓kNx_ok, ↓kNx_exc, ↓z_Asg, ↓kAs_ok, ↓kAs_exc, ↓z_tgO, t_N, t_T, t_nil, t_cons, t_G, t_gnil, t_gcons, t_bind, ↓z_Par, ↓kPar_ok, ↓z_Raise, ↓z_Break, ↓z_Cont, ↓z_For, ↓kSrc_ok, ↓w_Range, ↓w_rgF, ↓w_SeqI, ↓w_sqT, ↓w_Zip, ↓w_zpT, ↓w_Comp, ↓kCo_ok, ↓w_of, ↓kF_rt, ↓kF_nx, ↓kF_exc, ↓w_add, ↓w_sub, ↓w_pow10, ↓w_neg, ↓w_lt, ↓w_le, ↓w_gt, ↓w_ge, ↓w_ix0, ↓w_ix1, ↓w_ix2, ↓w_ix3, ↓w_eqI, ↓w_eqS, ↓w_eqT2, ↓w_abs, ↓w_lenT, ↓w_lenS, ↓w_max, ↓w_min, ↓w_intT, ↓w_intF, ↓w_isBool, ↓w_isTup, ↓w_tupT, ↓w_listT, ↓w_cutT, ↓brw_t, ↓brw_f, ↓brz_t, ↓brz_f, List.getElem?_cons_zero, List.getElem?_cons_succ, List.set_cons_zero, List.set_cons_succ, List.length_cons, List.length_nil, List.map_cons, List.map_nil, List.replicate, List.cons_append, List.nil_append, small, Nat.reduceAdd, Nat.reduceLeDiff, Nat.reduceEqDiff, Int.cast_ofNat_Int, Int.reduceBEq, BEq.rfl, ↓w_Yes, ↓w_bTru, ↓augF_ok, ↓z_Put, ↓putF_ok, ↓putG_ok, ↓w_isNn, ↓w_isNt, wipeF_nil, wipeF_cons, Int.reduceLE, Int.reduceLT, Int.reduceToNat, Int.reducePow, Int.reduceNeg, Int.reduceSub, Int.reduceAdd, Int.reduceMul, decide_true, decide_false, Bool.not_true, Bool.not_false, Bool.bne_false, Bool.bne_true, ↓w_aStar, ↓w_stT, ↓kSt_ok, ↓w_aDef, ↓kDf_ok, ↓w_Cnt, ↓w_Ext, ↓w_isBB, ↓w_isIB, less_w e.b1 e.b2 c.b1 c.b2 hA]
    refine brzP (fun h2 => ?_) fun h2 => ?_
    · have h2' : qlt s.e t := h2
      simp only [↓w_ok, ↓kB_ok, ↓kI_ok, ↓w_K, ↓w_V, ↓w_vR, ↓w_Op, ↓kO1_ok, ↓kO2_ok, ↓w_Un, ↓w_bOf, ↓w_isB, ↓kBl_ok, ↓kBl_exc, ↓kIf_ok, ↓kIf_exc, ↓w_okB, ↓w_okD, ↓w_bAnd, ↓w_bOr, ↓w_bNot, ↓kNot_ok, ↓kNot_exc, ↓w_eAnd, ↓w_eOr, ↓w_eNot, ↓kNotV_ok, ↓w_eIf, ↓w_aNil, ↓w_aCons, ↓kA1_ok, ↓kA2_ok, ↓kA1_exc, ↓kA2_exc, ↓w_Tup, ↓w_Lst, ↓w_mkT, ↓w_mkL, ↓w_Dct, ↓w_Call, ↓w_goS, ↓w_Bi, ↓w_Isi, ↓w_Cut, ↓kC1_ok, ↓kC2_ok, ↓kC3_ok, ↓w_oNone, ↓w_oSome, ↓w_vO, ↓w_Chain, ↓kCh1_ok, ↓kCh2_ok, ↓kCh3_ok, ↓w_chA, ↓w_App, ↓w_Ins, ↓w_insG, ↓z_nx, ↓z_End, ↓z_Seq, ↓kT_nx, ↓kT_rt, ↓kT_bk, ↓kT_ct, ↓kT_exc, ↓z_If, ↓kIfS_ok, ↓kIfS_exc, ↓z_Ret, ↓kRet_ok, ↓kRet_exc, ↓z_Expr, ↓kNx_ok, ↓kNx_exc, ↓z_Asg, ↓kAs_ok, ↓kAs_exc, ↓z_tgO, t_N, t_T, t_nil, t_cons, t_G, t_gnil, t_gcons, t_bind, ↓z_Par, ↓kPar_ok, ↓z_Raise, ↓z_Break, ↓z_Cont, ↓z_For, ↓kSrc_ok, ↓w_Range, ↓w_rgF, ↓w_SeqI, ↓w_sqT, ↓w_Zip, ↓w_zpT, ↓w_Comp, ↓kCo_ok, ↓w_of, ↓kF_rt, ↓kF_nx, ↓kF_exc, ↓w_add, ↓w_sub, ↓w_pow10, ↓w_neg, ↓w_lt, ↓w_le, ↓w_gt, ↓w_ge, ↓w_ix0, ↓w_ix1, ↓w_ix2, ↓w_ix3, ↓w_eqI, ↓w_eqS, ↓w_eqT2, ↓w_abs, ↓w_lenT, ↓w_lenS, ↓w_max, ↓w_min, ↓w_intT, ↓w_intF, ↓w_isBool, ↓w_isTup, ↓w_tupT, ↓w_listT, ↓w_cutT, ↓brw_t, ↓brw_f, ↓brz_t, ↓brz_f, List.getElem?_cons_zero, List.getElem?_cons_succ, List.set_cons_zero, List.set_cons_succ, List.length_cons, List.length_nil, List.map_cons, List.map_nil, List.replicate, List.cons_append, List.nil_append, small, Nat.reduceAdd, Nat.reduceLeDiff, Nat.reduceEqDiff, Int.cast_ofNat_Int, Int.reduceBEq, BEq.rfl, ↓w_Yes, ↓w_bTru, ↓augF_ok, ↓z_Put, ↓putF_ok, ↓putG_ok, ↓w_isNn, ↓w_isNt, wipeF_nil, wipeF_cons, Int.reduceLE, Int.reduceLT, Int.reduceToNat, Int.reducePow, Int.reduceNeg, Int.reduceSub, Int.reduceAdd, Int.reduceMul, decide_true, decide_false, Bool.not_true, Bool.not_false, Bool.bne_false, Bool.bne_true, ↓w_aStar, ↓w_stT, ↓kSt_ok, ↓w_aDef, ↓kDf_ok, ↓w_Cnt, ↓w_Ext, ↓w_isBB, ↓w_isIB]
      simpa [inS, h1', h2'] using k
    · have h2' : ¬ qlt s.e t := h2
      obtain ⟨sb, wb, se, we⟩ := s
      dsimp only at *
      cases e1 : decide (t = sb) <;> cases e2 : decide (t = se) <;> cases wb <;> cases we <;> simp only [↓w_ok, ↓kB_ok, ↓kI_ok, ↓w_K, ↓w_V, ↓w_vR, ↓w_Op, ↓kO1_ok, ↓kO2_ok, ↓w_Un, ↓w_bOf, ↓w_isB, ↓kBl_ok, ↓kBl_exc, ↓kIf_ok, ↓kIf_exc, ↓w_okB, ↓w_okD, ↓w_bAnd, ↓w_bOr, ↓w_bNot, ↓kNot_ok, ↓kNot_exc, ↓w_eAnd, ↓w_eOr, ↓w_eNot, ↓kNotV_ok, ↓w_eIf, ↓w_aNil, ↓w_aCons, ↓kA1_ok, ↓kA2_ok, ↓kA1_exc, ↓kA2_exc, ↓w_Tup, ↓w_Lst, ↓w_mkT, ↓w_mkL, ↓w_Dct, ↓w_Call, ↓w_goS, ↓w_Bi, ↓w_Isi, ↓w_Cut, ↓kC1_ok, ↓kC2_ok, ↓kC3_ok, ↓w_oNone, ↓w_oSome, ↓w_vO, ↓w_Chain, ↓kCh1_ok, ↓kCh2_ok, ↓kCh3_ok, ↓w_chA, ↓w_App, ↓w_Ins, ↓w_insG, ↓z_nx, ↓z_End, ↓z_Seq, ↓kT_nx, ↓kT_rt, ↓kT_bk, ↓kT_ct, ↓kT_exc, ↓z_If, ↓kIfS_ok, ↓kIfS_exc, ↓z_Ret, ↓kRet_ok, ↓kRet_exc, ↓z_Expr, ↓kNx_ok, ↓kNx_exc, ↓z_Asg, ↓kAs_ok, ↓kAs_exc, ↓z_tgO, t_N, t_T, t_nil, t_cons, t_G, t_gnil, t_gcons, t_bind, ↓z_Par, ↓kPar_ok, ↓z_Raise, ↓z_Break, ↓z_Cont, ↓z_For, ↓kSrc_ok, ↓w_Range, ↓w_rgF, ↓w_SeqI, ↓w_sqT, ↓w_Zip, ↓w_zpT, ↓w_Comp, ↓kCo_ok, ↓w_of, ↓kF_rt, ↓kF_nx, ↓kF_exc, ↓w_add, ↓w_sub, ↓w_pow10, ↓w_neg, ↓w_lt, ↓w_le, ↓w_gt, ↓w_ge, ↓w_ix0, ↓w_ix1, ↓w_ix2, ↓w_ix3, ↓w_eqI, ↓w_eqS, ↓w_eqT2, ↓w_abs, ↓w_lenT, ↓w_lenS, ↓w_max, ↓w_min, ↓w_intT, ↓w_intF, ↓w_isBool, ↓w_isTup, ↓w_tupT, ↓w_listT, ↓w_cutT, ↓brw_t, ↓brw_f, ↓brz_t, ↓brz_f, List.getElem?_cons_zero, List.getElem?_cons_succ, List.set_cons_zero, List.set_cons_succ, List.length_cons, List.length_nil, List.map_cons, List.map_nil, List.replicate, List.cons_append, List.nil_append, small, Nat.reduceAdd, Nat.reduceLeDiff, Nat.reduceEqDiff, Int.cast_ofNat_Int, Int.reduceBEq, BEq.rfl, ↓w_Yes, ↓w_bTru, ↓augF_ok, ↓z_Put, ↓putF_ok, ↓putG_ok, ↓w_isNn, ↓w_isNt, wipeF_nil, wipeF_cons, Int.reduceLE, Int.reduceLT, Int.reduceToNat, Int.reducePow, Int.reduceNeg, Int.reduceSub, Int.reduceAdd, Int.reduceMul, decide_true, decide_false, Bool.not_true, Bool.not_false, Bool.bne_false, Bool.bne_true, ↓w_aStar, ↓w_stT, ↓kSt_ok, ↓w_aDef, ↓kDf_ok, ↓w_Cnt, ↓w_Ext, ↓w_isBB, ↓w_isIB, beq_q, e1, e2] <;> simpa [inS, h1', h2', e1, e2] using k
end
theorem qlt_trans {a b c : Qp} (ha : 1 ≤ a.2) (hb : 1 ≤ b.2) (hc : 1 ≤ c.2) (h1 : qlt a b) (h2 : qlt b c) : qlt a c := by
  have h1' : a.1 * b.2 < b.1 * a.2 := h1
  have h2' : b.1 * c.2 < c.1 * b.2 := h2
  have g1 := Int.mul_lt_mul_of_pos_right h1' (show 0 < c.2 by omega)
  have g2 := Int.mul_lt_mul_of_pos_right h2' (show 0 < a.2 by omega)
  have g3 : a.1 * c.2 * b.2 < c.1 * a.2 * b.2 := by grind
  exact Int.lt_of_mul_lt_mul_right g3 (by omega)
theorem qlt_irr {a : Qp} : ¬ qlt a a := fun h => Int.lt_irrefl _ h
theorem qlt_asy {a b : Qp} (h1 : qlt a b) : ¬ qlt b a := fun h2 => by
  have h1' : a.1 * b.2 < b.1 * a.2 := h1
  have h2' : b.1 * a.2 < a.1 * b.2 := h2
  omega
/-- the points between, as the roots are gone through -/
structure PtI (s : Spl) (rs mid : List Qp) : Prop where
  srt : (s.b :: mid).Pairwise qlt
  frm : ∀ q ∈ mid, q ∈ rs ∧ qlt s.b q ∧ qlt q s.e
  all : ∀ q ∈ rs, qlt s.b q → qlt q s.e → q ∈ mid
theorem map_take {α β : Type} (f : α → β) (l : List α) (n : Nat) : (l.map f).take n = (l.take n).map f := (List.map_take).symm
theorem map_drop {α β : Type} (f : α → β) (l : List α) (n : Nat) : (l.map f).drop n = (l.drop n).map f := (List.map_drop).symm
/-- put in where it belongs -/
theorem ins_srt {B : Nat} {l : List Qp} {r : Qp} {n : Nat} (hl : ∀ q ∈ l, Fq B q) (hr : Fq B r) (s : l.Pairwise qlt) (hn : n ≤ l.length) (lo : ∀ j, j < n → ∀ q, l[j]? = some q → qlt q r) (hi : ∀ q, l[n]? = some q → qlt r q) :
    (l.take n ++ [r] ++ l.drop n).Pairwise qlt := by
  have hlo : ∀ q ∈ l.take n, qlt q r := fun q hq => by
    obtain ⟨j, hj, e⟩ := List.getElem_of_mem hq
    rw [List.length_take] at hj
    exact lo j (by omega) q (by rw [← e, List.getElem_take]; exact List.getElem?_eq_getElem (by omega))
  have hhi : ∀ q ∈ l.drop n, qlt r q := fun q hq => by
    cases hd : l.drop n with
    | nil => rw [hd] at hq; cases hq
    | cons a t =>
      have e0 : l[n]? = some a := by
        have := congrArg (fun z => z[0]?) hd
        simpa using this
      have h0 := hi a e0
      rw [hd] at hq
      rcases List.mem_cons.mp hq with rfl | hq
      · exact h0
      · have sd : (a :: t).Pairwise qlt := by rw [← hd]; exact List.Pairwise.sublist (List.drop_sublist n l) s
        have ha : a ∈ l := List.mem_of_getElem? e0
        have hq' : q ∈ l := List.mem_of_mem_drop (by rw [hd]; exact List.mem_cons_of_mem _ hq)
        exact qlt_trans hr.pos (hl a ha).pos (hl q hq').pos h0 (List.rel_of_pairwise_cons sd hq)
  refine List.pairwise_append.mpr ⟨List.pairwise_append.mpr ⟨List.Pairwise.sublist (List.take_sublist n l) s, by simp, ?_⟩, List.Pairwise.sublist (List.drop_sublist n l) s, ?_⟩
  · intro a ha b hb
    rw [List.mem_singleton.mp hb]
    exact hlo a ha
  · intro a ha b hb
    rcases List.mem_append.mp ha with ha | ha
    · exact qlt_trans (hl a (List.mem_of_mem_take ha)).pos hr.pos (hl b (List.mem_of_mem_drop hb)).pos (hlo a ha) (hhi b hb)
    · rw [List.mem_singleton.mp ha]; exact hhi b hb
section
variable {h : Hq} {m : Nat} {Φ : Rs D → Prop}
/-- the points of a spell: its ends, and the roots between, rising -/
def ptl (s : Spl) (mid : List Qp) : List Qp := s.b :: mid ++ (if s.e = s.b then [] else [s.e])
theorem points_w {B : Nat} {s : Spl} {r : Nat} {rs : List Qp} (hB : B ≤ 8000) (fb : Fq B s.b) (fe : Fq B s.e) (hrs : ∀ q ∈ rs, Fq B q) (hl : rs.length ≤ 1000) (er : lstAt h r = some (rs.map dq))
    (k : ∀ (mid : List Qp) (n : Nat) (h1 : Hq), Gr h h1 → h.length ≤ n → lstAt h1 n = some ((ptl s mid).map dq) → mid.length ≤ rs.length → PtI s rs mid → Φ (.ok (.ref n) h1)) : W (S__law_points [dsp s, .ref r] h) Φ := by
  unfold S__law_points
  simp only [↓w_ok, ↓kB_ok, ↓kI_ok, ↓w_K, ↓w_V, ↓w_vR, ↓w_Op, ↓kO1_ok, ↓kO2_ok, ↓w_Un, ↓w_bOf, ↓w_isB, ↓kBl_ok, ↓kBl_exc, ↓kIf_ok, ↓kIf_exc, ↓w_okB, ↓w_okD, ↓w_bAnd, ↓w_bOr, ↓w_bNot, ↓kNot_ok, ↓kNot_exc, ↓w_eAnd, ↓w_eOr, ↓w_eNot, ↓kNotV_ok, ↓w_eIf, ↓w_aNil, ↓w_aCons, ↓kA1_ok, ↓kA2_ok, ↓kA1_exc, ↓kA2_exc, ↓w_Tup, ↓w_Lst, ↓w_mkT, ↓w_mkL, ↓w_Dct, ↓w_Call, ↓w_goS, ↓w_Bi, ↓w_Isi, ↓w_Cut, ↓kC1_ok, ↓kC2_ok, ↓kC3_ok, ↓w_oNone, ↓w_oSome, ↓w_vO, ↓w_Chain, ↓kCh1_ok, ↓kCh2_ok, ↓kCh3_ok, ↓w_chA, ↓w_App, ↓w_Ins, ↓w_insG, ↓z_nx, ↓z_End, ↓z_Seq, ↓kT_nx, ↓kT_rt, ↓kT_bk, ↓kT_ct, ↓kT_exc, ↓z_If, ↓kIfS_ok, ↓kIfS_exc, ↓z_Ret, ↓kRet_ok, ↓kRet_exc, ↓z_Expr, ↓kNx_ok, ↓kNx_exc, ↓z_Asg, ↓kAs_ok, ↓kAs_exc, ↓z_tgO, t_N, t_T, t_nil, t_cons, t_G, t_gnil, t_gcons, t_bind, ↓z_Par, ↓kPar_ok, ↓z_Raise, ↓z_Break, ↓z_Cont, ↓z_For, ↓kSrc_ok, ↓w_Range, ↓w_rgF, ↓w_SeqI, ↓w_sqT, ↓w_Zip, ↓w_zpT, ↓w_Comp, ↓kCo_ok, ↓w_of, ↓kF_rt, ↓kF_nx, ↓kF_exc, ↓w_add, ↓w_sub, ↓w_pow10, ↓w_neg, ↓w_lt, ↓w_le, ↓w_gt, ↓w_ge, ↓w_ix0, ↓w_ix1, ↓w_ix2, ↓w_ix3, ↓w_eqI, ↓w_eqS, ↓w_eqT2, ↓w_abs, ↓w_lenT, ↓w_lenS, ↓w_max, ↓w_min, ↓w_intT, ↓w_intF, ↓w_isBool, ↓w_isTup, ↓w_tupT, ↓w_listT, ↓w_cutT, ↓brw_t, ↓brw_f, ↓brz_t, ↓brz_f, List.getElem?_cons_zero, List.getElem?_cons_succ, List.set_cons_zero, List.set_cons_succ, List.length_cons, List.length_nil, List.map_cons, List.map_nil, List.replicate, List.cons_append, List.nil_append, small, Nat.reduceAdd, Nat.reduceLeDiff, Nat.reduceEqDiff, Int.cast_ofNat_Int, Int.reduceBEq, BEq.rfl, ↓w_Yes, ↓w_bTru, ↓augF_ok, ↓z_Put, ↓putF_ok, ↓putG_ok, ↓w_isNn, ↓w_isNt, wipeF_nil, wipeF_cons, Int.reduceLE, Int.reduceLT, Int.reduceToNat, Int.reducePow, Int.reduceNeg, Int.reduceSub, Int.reduceAdd, Int.reduceMul, decide_true, decide_false, Bool.not_true, Bool.not_false, Bool.bne_false, Bool.bne_true, ↓w_aStar, ↓w_stT, ↓kSt_ok, ↓w_aDef, ↓kDf_ok, ↓w_Cnt, ↓w_Ext, ↓w_isBB, ↓w_isIB]
  simp only [↓w_ok, ↓kB_ok, ↓kI_ok, ↓w_K, ↓w_V, ↓w_vR, ↓w_Op, ↓kO1_ok, ↓kO2_ok, ↓w_Un, ↓w_bOf, ↓w_isB, ↓kBl_ok, ↓kBl_exc, ↓kIf_ok, ↓kIf_exc, ↓w_okB, ↓w_okD, ↓w_bAnd, ↓w_bOr, ↓w_bNot, ↓kNot_ok, ↓kNot_exc, ↓w_eAnd, ↓w_eOr, ↓w_eNot, ↓kNotV_ok, ↓w_eIf, ↓w_aNil, ↓w_aCons, ↓kA1_ok, ↓kA2_ok, ↓kA1_exc, ↓kA2_exc, ↓w_Tup, ↓w_Lst, ↓w_mkT, ↓w_mkL, ↓w_Dct, ↓w_Call, ↓w_goS, ↓w_Bi, ↓w_Isi, ↓w_Cut, ↓kC1_ok, ↓kC2_ok, ↓kC3_ok, ↓w_oNone, ↓w_oSome, ↓w_vO, ↓w_Chain, ↓kCh1_ok, ↓kCh2_ok, ↓kCh3_ok, ↓w_chA, ↓w_App, ↓w_Ins, ↓w_insG, ↓z_nx, ↓z_End, ↓z_Seq, ↓kT_nx, ↓kT_rt, ↓kT_bk, ↓kT_ct, ↓kT_exc, ↓z_If, ↓kIfS_ok, ↓kIfS_exc, ↓z_Ret, ↓kRet_ok, ↓kRet_exc, ↓z_Expr, ↓kNx_ok, ↓kNx_exc, ↓z_Asg, ↓kAs_ok, ↓kAs_exc, ↓z_tgO, t_N, t_T, t_nil, t_cons, t_G, t_gnil, t_gcons, t_bind, ↓z_Par, ↓kPar_ok, ↓z_Raise, ↓z_Break, ↓z_Cont, ↓z_For, ↓kSrc_ok, ↓w_Range, ↓w_rgF, ↓w_SeqI, ↓w_sqT, ↓w_Zip, ↓w_zpT, ↓w_Comp, ↓kCo_ok, ↓w_of, ↓kF_rt, ↓kF_nx, ↓kF_exc, ↓w_add, ↓w_sub, ↓w_pow10, ↓w_neg, ↓w_lt, ↓w_le, ↓w_gt, ↓w_ge, ↓w_ix0, ↓w_ix1, ↓w_ix2, ↓w_ix3, ↓w_eqI, ↓w_eqS, ↓w_eqT2, ↓w_abs, ↓w_lenT, ↓w_lenS, ↓w_max, ↓w_min, ↓w_intT, ↓w_intF, ↓w_isBool, ↓w_isTup, ↓w_tupT, ↓w_listT, ↓w_cutT, ↓brw_t, ↓brw_f, ↓brz_t, ↓brz_f, List.getElem?_cons_zero, List.getElem?_cons_succ, List.set_cons_zero, List.set_cons_succ, List.length_cons, List.length_nil, List.map_cons, List.map_nil, List.replicate, List.cons_append, List.nil_append, small, Nat.reduceAdd, Nat.reduceLeDiff, Nat.reduceEqDiff, Int.cast_ofNat_Int, Int.reduceBEq, BEq.rfl, ↓w_Yes, ↓w_bTru, ↓augF_ok, ↓z_Put, ↓putF_ok, ↓putG_ok, ↓w_isNn, ↓w_isNt, wipeF_nil, wipeF_cons, Int.reduceLE, Int.reduceLT, Int.reduceToNat, Int.reducePow, Int.reduceNeg, Int.reduceSub, Int.reduceAdd, Int.reduceMul, decide_true, decide_false, Bool.not_true, Bool.not_false, Bool.bne_false, Bool.bne_true, ↓w_aStar, ↓w_stT, ↓kSt_ok, ↓w_aDef, ↓kDf_ok, ↓w_Cnt, ↓w_Ext, ↓w_isBB, ↓w_isIB, w_sqL ((Gr.app h _).lst er)]
  have rl := lstAt_lt er
  rw [show (srcC r (rs.map dq).length).n = rs.length by simp [srcC]]
  refine turns_w (n := rs.length) (I := fun i fr h' => ∃ (mid F : List Qp) (T : List Cell) (x y : Option D), F = s.b :: mid ∧ h' = h ++ [.lst (F.map dq)] ++ T ∧ fr = [some (dsp s), some (.ref r), some (.ref h.length), x, y] ∧ mid.length ≤ i ∧ PtI s (rs.take i) mid) ?_ ?_ rs.length 0 _ _ (by omega) ⟨[], [s.b], [], none, none, rfl, by simp, rfl, by simp, ⟨by simp, by simp, by simp⟩⟩
  · rintro i fr h' hi ⟨mid, F, T, x, y, hF, rfl, rfl, hm, pt⟩
    have gr : Gr h (h ++ [.lst (F.map dq)] ++ T) := ⟨[.lst (F.map dq)] ++ T, by simp⟩
    have lm : lstAt (h ++ [.lst (F.map dq)] ++ T) h.length = some (F.map dq) := lst_mid _ _ _
    have hg : (srcC r (rs.map dq).length).get i (h ++ [.lst (F.map dq)] ++ T) = some (dq rs[i]) := by
      rw [srcC_get er i _ gr, List.getElem?_map, List.getElem?_eq_getElem hi]; rfl
    rw [hg]
    clear hg
    have hq : rs[i] ∈ rs := List.getElem_mem hi
    have fq := hrs _ hq
    have tk : rs.take (i + 1) = rs.take i ++ [rs[i]] := by rw [List.take_succ, List.getElem?_eq_getElem hi]; rfl
    generalize rs[i] = q at *
    have fl : ∀ z ∈ F, Fq B z := fun z hz => by
      rw [hF] at hz
      rcases List.mem_cons.mp hz with rfl | hz
      · exact fb
      · exact hrs z (List.mem_of_mem_take (pt.frm z hz).1)
    have stay : (qlt s.b q → qlt q s.e → q ∈ mid) → PtI s (rs.take (i + 1)) mid := fun hh => ⟨pt.srt, fun z hz => ⟨by rw [tk]; exact List.mem_append_left _ (pt.frm z hz).1, (pt.frm z hz).2⟩, fun z hz => by
      rw [tk] at hz
      rcases List.mem_append.mp hz with hz | hz
      · exact pt.all z hz
      · rw [List.mem_singleton.mp hz]; exact hh⟩
    have hFl : F.length = mid.length + 1 := by rw [hF]; simp
    have hA : B < 400000 := by omega
    refine ⟨_, _, rfl, rfl, ?_⟩
    simp only [↓w_ok, ↓kB_ok, ↓kI_ok, ↓w_K, ↓w_V, ↓w_vR, ↓w_Op, ↓kO1_ok, ↓kO2_ok, ↓w_Un, ↓w_bOf, ↓w_isB, ↓kBl_ok, ↓kBl_exc, ↓kIf_ok, ↓kIf_exc, ↓w_okB, ↓w_okD, ↓w_bAnd, ↓w_bOr, ↓w_bNot, ↓kNot_ok, ↓kNot_exc, ↓w_eAnd, ↓w_eOr, ↓w_eNot, ↓kNotV_ok, ↓w_eIf, ↓w_aNil, ↓w_aCons, ↓kA1_ok, ↓kA2_ok, ↓kA1_exc, ↓kA2_exc, ↓w_Tup, ↓w_Lst, ↓w_mkT, ↓w_mkL, ↓w_Dct, ↓w_Call, ↓w_goS, ↓w_Bi, ↓w_Isi, ↓w_Cut, ↓kC1_ok, ↓kC2_ok, ↓kC3_ok, ↓w_oNone, ↓w_oSome, ↓w_vO, ↓w_Chain, ↓kCh1_ok, ↓kCh2_ok, ↓kCh3_ok, ↓w_chA, ↓w_App, ↓w_Ins, ↓w_insG, ↓z_nx, ↓z_End, ↓z_Seq, ↓kT_nx, ↓kT_rt, ↓kT_bk, ↓kT_ct, ↓kT_exc, ↓z_If, ↓kIfS_ok, ↓kIfS_exc, ↓z_Ret, ↓kRet_ok, ↓kRet_exc, ↓z_Expr, ↓kNx_ok, ↓kNx_exc, ↓z_Asg, ↓kAs_ok, ↓kAs_exc, ↓z_tgO, t_N, t_T, t_nil, t_cons, t_G, t_gnil, t_gcons, t_bind, ↓z_Par, ↓kPar_ok, ↓z_Raise, ↓z_Break, ↓z_Cont, ↓z_For, ↓kSrc_ok, ↓w_Range, ↓w_rgF, ↓w_SeqI, ↓w_sqT, ↓w_Zip, ↓w_zpT, ↓w_Comp, ↓kCo_ok, ↓w_of, ↓kF_rt, ↓kF_nx, ↓kF_exc, ↓w_add, ↓w_sub, ↓w_pow10, ↓w_neg, ↓w_lt, ↓w_le, ↓w_gt, ↓w_ge, ↓w_ix0, ↓w_ix1, ↓w_ix2, ↓w_ix3, ↓w_eqI, ↓w_eqS, ↓w_eqT2, ↓w_abs, ↓w_lenT, ↓w_lenS, ↓w_max, ↓w_min, ↓w_intT, ↓w_intF, ↓w_isBool, ↓w_isTup, ↓w_tupT, ↓w_listT, ↓w_cutT, ↓brw_t, ↓brw_f, ↓brz_t, ↓brz_f, List.getElem?_cons_zero, List.getElem?_cons_succ, List.set_cons_zero, List.set_cons_succ, List.length_cons, List.length_nil, List.map_cons, List.map_nil, List.replicate, List.cons_append, List.nil_append, small, Nat.reduceAdd, Nat.reduceLeDiff, Nat.reduceEqDiff, Int.cast_ofNat_Int, Int.reduceBEq, BEq.rfl, ↓w_Yes, ↓w_bTru, ↓augF_ok, ↓z_Put, ↓putF_ok, ↓putG_ok, ↓w_isNn, ↓w_isNt, wipeF_nil, wipeF_cons, Int.reduceLE, Int.reduceLT, Int.reduceToNat, Int.reducePow, Int.reduceNeg, Int.reduceSub, Int.reduceAdd, Int.reduceMul, decide_true, decide_false, Bool.not_true, Bool.not_false, Bool.bne_false, Bool.bne_true, ↓w_aStar, ↓w_stT, ↓kSt_ok, ↓w_aDef, ↓kDf_ok, ↓w_Cnt, ↓w_Ext, ↓w_isBB, ↓w_isIB, in_q lm]
    refine brw (fun h1 => ?_) fun h1 => ?_
    rotate_left
    · have h1' : q ∈ F := by simpa using h1
      simp only [↓w_ok, ↓kB_ok, ↓kI_ok, ↓w_K, ↓w_V, ↓w_vR, ↓w_Op, ↓kO1_ok, ↓kO2_ok, ↓w_Un, ↓w_bOf, ↓w_isB, ↓kBl_ok, ↓kBl_exc, ↓kIf_ok, ↓kIf_exc, ↓w_okB, ↓w_okD, ↓w_bAnd, ↓w_bOr, ↓w_bNot, ↓kNot_ok, ↓kNot_exc, ↓w_eAnd, ↓w_eOr, ↓w_eNot, ↓kNotV_ok, ↓w_eIf, ↓w_aNil, ↓w_aCons, ↓kA1_ok, ↓kA2_ok, ↓kA1_exc, ↓kA2_exc, ↓w_Tup, ↓w_Lst, ↓w_mkT, ↓w_mkL, ↓w_Dct, ↓w_Call, ↓w_goS, ↓w_Bi, ↓w_Isi, ↓w_Cut, ↓kC1_ok, ↓kC2_ok, ↓kC3_ok, ↓w_oNone, ↓w_oSome, ↓w_vO, ↓w_Chain, ↓kCh1_ok, ↓kCh2_ok, ↓kCh3_ok, ↓w_chA, ↓w_App, ↓w_Ins, ↓w_insG, ↓z_nx, ↓z_End, ↓z_Seq, ↓kT_nx, ↓kT_rt, ↓kT_bk, ↓kT_ct, ↓kT_exc, ↓z_If, ↓kIfS_ok, ↓kIfS_exc, ↓z_Ret, ↓kRet_ok, ↓kRet_exc, ↓z_Expr, ↓kNx_ok, ↓kNx_exc, ↓z_Asg, ↓kAs_ok, ↓kAs_exc, ↓z_tgO, t_N, t_T, t_nil, t_cons, t_G, t_gnil, t_gcons, t_bind, ↓z_Par, ↓kPar_ok, ↓z_Raise, ↓z_Break, ↓z_Cont, ↓z_For, ↓kSrc_ok, ↓w_Range, ↓w_rgF, ↓w_SeqI, ↓w_sqT, ↓w_Zip, ↓w_zpT, ↓w_Comp, ↓kCo_ok, ↓w_of, ↓kF_rt, ↓kF_nx, ↓kF_exc, ↓w_add, ↓w_sub, ↓w_pow10, ↓w_neg, ↓w_lt, ↓w_le, ↓w_gt, ↓w_ge, ↓w_ix0, ↓w_ix1, ↓w_ix2, ↓w_ix3, ↓w_eqI, ↓w_eqS, ↓w_eqT2, ↓w_abs, ↓w_lenT, ↓w_lenS, ↓w_max, ↓w_min, ↓w_intT, ↓w_intF, ↓w_isBool, ↓w_isTup, ↓w_tupT, ↓w_listT, ↓w_cutT, ↓brw_t, ↓brw_f, ↓brz_t, ↓brz_f, List.getElem?_cons_zero, List.getElem?_cons_succ, List.set_cons_zero, List.set_cons_succ, List.length_cons, List.length_nil, List.map_cons, List.map_nil, List.replicate, List.cons_append, List.nil_append, small, Nat.reduceAdd, Nat.reduceLeDiff, Nat.reduceEqDiff, Int.cast_ofNat_Int, Int.reduceBEq, BEq.rfl, ↓w_Yes, ↓w_bTru, ↓augF_ok, ↓z_Put, ↓putF_ok, ↓putG_ok, ↓w_isNn, ↓w_isNt, wipeF_nil, wipeF_cons, Int.reduceLE, Int.reduceLT, Int.reduceToNat, Int.reducePow, Int.reduceNeg, Int.reduceSub, Int.reduceAdd, Int.reduceMul, decide_true, decide_false, Bool.not_true, Bool.not_false, Bool.bne_false, Bool.bne_true, ↓w_aStar, ↓w_stT, ↓kSt_ok, ↓w_aDef, ↓kDf_ok, ↓w_Cnt, ↓w_Ext, ↓w_isBB, ↓w_isIB]
      refine ⟨mid, F, T, _, _, hF, rfl, rfl, by omega, stay fun a b => ?_⟩
      rw [hF] at h1'
      rcases List.mem_cons.mp h1' with rfl | hz
      · exact absurd a qlt_irr
      · exact hz
    have h1' : q ∉ F := by simpa using h1
    simp only [↓w_ok, ↓kB_ok, ↓kI_ok, ↓w_K, ↓w_V, ↓w_vR, ↓w_Op, ↓kO1_ok, ↓kO2_ok, ↓w_Un, ↓w_bOf, ↓w_isB, ↓kBl_ok, ↓kBl_exc, ↓kIf_ok, ↓kIf_exc, ↓w_okB, ↓w_okD, ↓w_bAnd, ↓w_bOr, ↓w_bNot, ↓kNot_ok, ↓kNot_exc, ↓w_eAnd, ↓w_eOr, ↓w_eNot, ↓kNotV_ok, ↓w_eIf, ↓w_aNil, ↓w_aCons, ↓kA1_ok, ↓kA2_ok, ↓kA1_exc, ↓kA2_exc, ↓w_Tup, ↓w_Lst, ↓w_mkT, ↓w_mkL, ↓w_Dct, ↓w_Call, ↓w_goS, ↓w_Bi, ↓w_Isi, ↓w_Cut, ↓kC1_ok, ↓kC2_ok, ↓kC3_ok, ↓w_oNone, ↓w_oSome, ↓w_vO, ↓w_Chain, ↓kCh1_ok, ↓kCh2_ok, ↓kCh3_ok, ↓w_chA, ↓w_App, ↓w_Ins, ↓w_insG, ↓z_nx, ↓z_End, ↓z_Seq, ↓kT_nx, ↓kT_rt, ↓kT_bk, ↓kT_ct, ↓kT_exc, ↓z_If, ↓kIfS_ok, ↓kIfS_exc, ↓z_Ret, ↓kRet_ok, ↓kRet_exc, ↓z_Expr, ↓kNx_ok, ↓kNx_exc, ↓z_Asg, ↓kAs_ok, ↓kAs_exc, ↓z_tgO, t_N, t_T, t_nil, t_cons, t_G, t_gnil, t_gcons, t_bind, ↓z_Par, ↓kPar_ok, ↓z_Raise, ↓z_Break, ↓z_Cont, ↓z_For, ↓kSrc_ok, ↓w_Range, ↓w_rgF, ↓w_SeqI, ↓w_sqT, ↓w_Zip, ↓w_zpT, ↓w_Comp, ↓kCo_ok, ↓w_of, ↓kF_rt, ↓kF_nx, ↓kF_exc, ↓w_add, ↓w_sub, ↓w_pow10, ↓w_neg, ↓w_lt, ↓w_le, ↓w_gt, ↓w_ge, ↓w_ix0, ↓w_ix1, ↓w_ix2, ↓w_ix3, ↓w_eqI, ↓w_eqS, ↓w_eqT2, ↓w_abs, ↓w_lenT, ↓w_lenS, ↓w_max, ↓w_min, ↓w_intT, ↓w_intF, ↓w_isBool, ↓w_isTup, ↓w_tupT, ↓w_listT, ↓w_cutT, ↓brw_t, ↓brw_f, ↓brz_t, ↓brz_f, List.getElem?_cons_zero, List.getElem?_cons_succ, List.set_cons_zero, List.set_cons_succ, List.length_cons, List.length_nil, List.map_cons, List.map_nil, List.replicate, List.cons_append, List.nil_append, small, Nat.reduceAdd, Nat.reduceLeDiff, Nat.reduceEqDiff, Int.cast_ofNat_Int, Int.reduceBEq, BEq.rfl, ↓w_Yes, ↓w_bTru, ↓augF_ok, ↓z_Put, ↓putF_ok, ↓putG_ok, ↓w_isNn, ↓w_isNt, wipeF_nil, wipeF_cons, Int.reduceLE, Int.reduceLT, Int.reduceToNat, Int.reducePow, Int.reduceNeg, Int.reduceSub, Int.reduceAdd, Int.reduceMul, decide_true, decide_false, Bool.not_true, Bool.not_false, Bool.bne_false, Bool.bne_true, ↓w_aStar, ↓w_stT, ↓kSt_ok, ↓w_aDef, ↓kDf_ok, ↓w_Cnt, ↓w_Ext, ↓w_isBB, ↓w_isIB, less_w fb.b1 fb.b2 fq.b1 fq.b2 hA]
    refine brwP (fun h2 => ?_) fun h2 => ?_
    rotate_left
    · simp only [↓w_ok, ↓kB_ok, ↓kI_ok, ↓w_K, ↓w_V, ↓w_vR, ↓w_Op, ↓kO1_ok, ↓kO2_ok, ↓w_Un, ↓w_bOf, ↓w_isB, ↓kBl_ok, ↓kBl_exc, ↓kIf_ok, ↓kIf_exc, ↓w_okB, ↓w_okD, ↓w_bAnd, ↓w_bOr, ↓w_bNot, ↓kNot_ok, ↓kNot_exc, ↓w_eAnd, ↓w_eOr, ↓w_eNot, ↓kNotV_ok, ↓w_eIf, ↓w_aNil, ↓w_aCons, ↓kA1_ok, ↓kA2_ok, ↓kA1_exc, ↓kA2_exc, ↓w_Tup, ↓w_Lst, ↓w_mkT, ↓w_mkL, ↓w_Dct, ↓w_Call, ↓w_goS, ↓w_Bi, ↓w_Isi, ↓w_Cut, ↓kC1_ok, ↓kC2_ok, ↓kC3_ok, ↓w_oNone, ↓w_oSome, ↓w_vO, ↓w_Chain, ↓kCh1_ok, ↓kCh2_ok, ↓kCh3_ok, ↓w_chA, ↓w_App, ↓w_Ins, ↓w_insG, ↓z_nx, ↓z_End, ↓z_Seq, ↓kT_nx, ↓kT_rt, ↓kT_bk, ↓kT_ct, ↓kT_exc, ↓z_If, ↓kIfS_ok, ↓kIfS_exc, ↓z_Ret, ↓kRet_ok, ↓kRet_exc, ↓z_Expr, ↓kNx_ok, ↓kNx_exc, ↓z_Asg, ↓kAs_ok, ↓kAs_exc, ↓z_tgO, t_N, t_T, t_nil, t_cons, t_G, t_gnil, t_gcons, t_bind, ↓z_Par, ↓kPar_ok, ↓z_Raise, ↓z_Break, ↓z_Cont, ↓z_For, ↓kSrc_ok, ↓w_Range, ↓w_rgF, ↓w_SeqI, ↓w_sqT, ↓w_Zip, ↓w_zpT, ↓w_Comp, ↓kCo_ok, ↓w_of, ↓kF_rt, ↓kF_nx, ↓kF_exc, ↓w_add, ↓w_sub, ↓w_pow10, ↓w_neg, ↓w_lt, ↓w_le, ↓w_gt, ↓w_ge, ↓w_ix0, ↓w_ix1, ↓w_ix2, ↓w_ix3, ↓w_eqI, ↓w_eqS, ↓w_eqT2, ↓w_abs, ↓w_lenT, ↓w_lenS, ↓w_max, ↓w_min, ↓w_intT, ↓w_intF, ↓w_isBool, ↓w_isTup, ↓w_tupT, ↓w_listT, ↓w_cutT, ↓brw_t, ↓brw_f, ↓brz_t, ↓brz_f, List.getElem?_cons_zero, List.getElem?_cons_succ, List.set_cons_zero, List.set_cons_succ, List.length_cons, List.length_nil, List.map_cons, List.map_nil, List.replicate, List.cons_append, List.nil_append, small, Nat.reduceAdd, Nat.reduceLeDiff, Nat.reduceEqDiff, Int.cast_ofNat_Int, Int.reduceBEq, BEq.rfl, ↓w_Yes, ↓w_bTru, ↓augF_ok, ↓z_Put, ↓putF_ok, ↓putG_ok, ↓w_isNn, ↓w_isNt, wipeF_nil, wipeF_cons, Int.reduceLE, Int.reduceLT, Int.reduceToNat, Int.reducePow, Int.reduceNeg, Int.reduceSub, Int.reduceAdd, Int.reduceMul, decide_true, decide_false, Bool.not_true, Bool.not_false, Bool.bne_false, Bool.bne_true, ↓w_aStar, ↓w_stT, ↓kSt_ok, ↓w_aDef, ↓kDf_ok, ↓w_Cnt, ↓w_Ext, ↓w_isBB, ↓w_isIB]
      exact ⟨mid, F, T, _, _, hF, rfl, rfl, by omega, stay fun a b => absurd a h2⟩
    have h2' : qlt s.b q := h2
    simp only [↓w_ok, ↓kB_ok, ↓kI_ok, ↓w_K, ↓w_V, ↓w_vR, ↓w_Op, ↓kO1_ok, ↓kO2_ok, ↓w_Un, ↓w_bOf, ↓w_isB, ↓kBl_ok, ↓kBl_exc, ↓kIf_ok, ↓kIf_exc, ↓w_okB, ↓w_okD, ↓w_bAnd, ↓w_bOr, ↓w_bNot, ↓kNot_ok, ↓kNot_exc, ↓w_eAnd, ↓w_eOr, ↓w_eNot, ↓kNotV_ok, ↓w_eIf, ↓w_aNil, ↓w_aCons, ↓kA1_ok, ↓kA2_ok, ↓kA1_exc, ↓kA2_exc, ↓w_Tup, ↓w_Lst, ↓w_mkT, ↓w_mkL, ↓w_Dct, ↓w_Call, ↓w_goS, ↓w_Bi, ↓w_Isi, ↓w_Cut, ↓kC1_ok, ↓kC2_ok, ↓kC3_ok, ↓w_oNone, ↓w_oSome, ↓w_vO, ↓w_Chain, ↓kCh1_ok, ↓kCh2_ok, ↓kCh3_ok, ↓w_chA, ↓w_App, ↓w_Ins, ↓w_insG, ↓z_nx, ↓z_End, ↓z_Seq, ↓kT_nx, ↓kT_rt, ↓kT_bk, ↓kT_ct, ↓kT_exc, ↓z_If, ↓kIfS_ok, ↓kIfS_exc, ↓z_Ret, ↓kRet_ok, ↓kRet_exc, ↓z_Expr, ↓kNx_ok, ↓kNx_exc, ↓z_Asg, ↓kAs_ok, ↓kAs_exc, ↓z_tgO, t_N, t_T, t_nil, t_cons, t_G, t_gnil, t_gcons, t_bind, ↓z_Par, ↓kPar_ok, ↓z_Raise, ↓z_Break, ↓z_Cont, ↓z_For, ↓kSrc_ok, ↓w_Range, ↓w_rgF, ↓w_SeqI, ↓w_sqT, ↓w_Zip, ↓w_zpT, ↓w_Comp, ↓kCo_ok, ↓w_of, ↓kF_rt, ↓kF_nx, ↓kF_exc, ↓w_add, ↓w_sub, ↓w_pow10, ↓w_neg, ↓w_lt, ↓w_le, ↓w_gt, ↓w_ge, ↓w_ix0, ↓w_ix1, ↓w_ix2, ↓w_ix3, ↓w_eqI, ↓w_eqS, ↓w_eqT2, ↓w_abs, ↓w_lenT, ↓w_lenS, ↓w_max, ↓w_min, ↓w_intT, ↓w_intF, ↓w_isBool, ↓w_isTup, ↓w_tupT, ↓w_listT, ↓w_cutT, ↓brw_t, ↓brw_f, ↓brz_t, ↓brz_f, List.getElem?_cons_zero, List.getElem?_cons_succ, List.set_cons_zero, List.set_cons_succ, List.length_cons, List.length_nil, List.map_cons, List.map_nil, List.replicate, List.cons_append, List.nil_append, small, Nat.reduceAdd, Nat.reduceLeDiff, Nat.reduceEqDiff, Int.cast_ofNat_Int, Int.reduceBEq, BEq.rfl, ↓w_Yes, ↓w_bTru, ↓augF_ok, ↓z_Put, ↓putF_ok, ↓putG_ok, ↓w_isNn, ↓w_isNt, wipeF_nil, wipeF_cons, Int.reduceLE, Int.reduceLT, Int.reduceToNat, Int.reducePow, Int.reduceNeg, Int.reduceSub, Int.reduceAdd, Int.reduceMul, decide_true, decide_false, Bool.not_true, Bool.not_false, Bool.bne_false, Bool.bne_true, ↓w_aStar, ↓w_stT, ↓kSt_ok, ↓w_aDef, ↓kDf_ok, ↓w_Cnt, ↓w_Ext, ↓w_isBB, ↓w_isIB, less_w fq.b1 fq.b2 fe.b1 fe.b2 hA]
    refine brzP (fun h3 => ?_) fun h3 => ?_
    rotate_left
    · simp only [↓w_ok, ↓kB_ok, ↓kI_ok, ↓w_K, ↓w_V, ↓w_vR, ↓w_Op, ↓kO1_ok, ↓kO2_ok, ↓w_Un, ↓w_bOf, ↓w_isB, ↓kBl_ok, ↓kBl_exc, ↓kIf_ok, ↓kIf_exc, ↓w_okB, ↓w_okD, ↓w_bAnd, ↓w_bOr, ↓w_bNot, ↓kNot_ok, ↓kNot_exc, ↓w_eAnd, ↓w_eOr, ↓w_eNot, ↓kNotV_ok, ↓w_eIf, ↓w_aNil, ↓w_aCons, ↓kA1_ok, ↓kA2_ok, ↓kA1_exc, ↓kA2_exc, ↓w_Tup, ↓w_Lst, ↓w_mkT, ↓w_mkL, ↓w_Dct, ↓w_Call, ↓w_goS, ↓w_Bi, ↓w_Isi, ↓w_Cut, ↓kC1_ok, ↓kC2_ok, ↓kC3_ok, ↓w_oNone, ↓w_oSome, ↓w_vO, ↓w_Chain, ↓kCh1_ok, ↓kCh2_ok, ↓kCh3_ok, ↓w_chA, ↓w_App, ↓w_Ins, ↓w_insG, ↓z_nx, ↓z_End, ↓z_Seq, ↓kT_nx, ↓kT_rt, ↓kT_bk, ↓kT_ct, ↓kT_exc, ↓z_If, ↓kIfS_ok, ↓kIfS_exc, ↓z_Ret, ↓kRet_ok, ↓kRet_exc, ↓z_Expr, ↓kNx_ok, ↓kNx_exc, ↓z_Asg, ↓kAs_ok, ↓kAs_exc, ↓z_tgO, t_N, t_T, t_nil, t_cons, t_G, t_gnil, t_gcons, t_bind, ↓z_Par, ↓kPar_ok, ↓z_Raise, ↓z_Break, ↓z_Cont, ↓z_For, ↓kSrc_ok, ↓w_Range, ↓w_rgF, ↓w_SeqI, ↓w_sqT, ↓w_Zip, ↓w_zpT, ↓w_Comp, ↓kCo_ok, ↓w_of, ↓kF_rt, ↓kF_nx, ↓kF_exc, ↓w_add, ↓w_sub, ↓w_pow10, ↓w_neg, ↓w_lt, ↓w_le, ↓w_gt, ↓w_ge, ↓w_ix0, ↓w_ix1, ↓w_ix2, ↓w_ix3, ↓w_eqI, ↓w_eqS, ↓w_eqT2, ↓w_abs, ↓w_lenT, ↓w_lenS, ↓w_max, ↓w_min, ↓w_intT, ↓w_intF, ↓w_isBool, ↓w_isTup, ↓w_tupT, ↓w_listT, ↓w_cutT, ↓brw_t, ↓brw_f, ↓brz_t, ↓brz_f, List.getElem?_cons_zero, List.getElem?_cons_succ, List.set_cons_zero, List.set_cons_succ, List.length_cons, List.length_nil, List.map_cons, List.map_nil, List.replicate, List.cons_append, List.nil_append, small, Nat.reduceAdd, Nat.reduceLeDiff, Nat.reduceEqDiff, Int.cast_ofNat_Int, Int.reduceBEq, BEq.rfl, ↓w_Yes, ↓w_bTru, ↓augF_ok, ↓z_Put, ↓putF_ok, ↓putG_ok, ↓w_isNn, ↓w_isNt, wipeF_nil, wipeF_cons, Int.reduceLE, Int.reduceLT, Int.reduceToNat, Int.reducePow, Int.reduceNeg, Int.reduceSub, Int.reduceAdd, Int.reduceMul, decide_true, decide_false, Bool.not_true, Bool.not_false, Bool.bne_false, Bool.bne_true, ↓w_aStar, ↓w_stT, ↓kSt_ok, ↓w_aDef, ↓kDf_ok, ↓w_Cnt, ↓w_Ext, ↓w_isBB, ↓w_isIB]
      exact ⟨mid, F, T, _, _, hF, rfl, rfl, by omega, stay fun a b => absurd b h3⟩
    have h3' : qlt q s.e := h3
    simp only [↓w_ok, ↓kB_ok, ↓kI_ok, ↓w_K, ↓w_V, ↓w_vR, ↓w_Op, ↓kO1_ok, ↓kO2_ok, ↓w_Un, ↓w_bOf, ↓w_isB, ↓kBl_ok, ↓kBl_exc, ↓kIf_ok, ↓kIf_exc, ↓w_okB, ↓w_okD, ↓w_bAnd, ↓w_bOr, ↓w_bNot, ↓kNot_ok, ↓kNot_exc, ↓w_eAnd, ↓w_eOr, ↓w_eNot, ↓kNotV_ok, ↓w_eIf, ↓w_aNil, ↓w_aCons, ↓kA1_ok, ↓kA2_ok, ↓kA1_exc, ↓kA2_exc, ↓w_Tup, ↓w_Lst, ↓w_mkT, ↓w_mkL, ↓w_Dct, ↓w_Call, ↓w_goS, ↓w_Bi, ↓w_Isi, ↓w_Cut, ↓kC1_ok, ↓kC2_ok, ↓kC3_ok, ↓w_oNone, ↓w_oSome, ↓w_vO, ↓w_Chain, ↓kCh1_ok, ↓kCh2_ok, ↓kCh3_ok, ↓w_chA, ↓w_App, ↓w_Ins, ↓w_insG, ↓z_nx, ↓z_End, ↓z_Seq, ↓kT_nx, ↓kT_rt, ↓kT_bk, ↓kT_ct, ↓kT_exc, ↓z_If, ↓kIfS_ok, ↓kIfS_exc, ↓z_Ret, ↓kRet_ok, ↓kRet_exc, ↓z_Expr, ↓kNx_ok, ↓kNx_exc, ↓z_Asg, ↓kAs_ok, ↓kAs_exc, ↓z_tgO, t_N, t_T, t_nil, t_cons, t_G, t_gnil, t_gcons, t_bind, ↓z_Par, ↓kPar_ok, ↓z_Raise, ↓z_Break, ↓z_Cont, ↓z_For, ↓kSrc_ok, ↓w_Range, ↓w_rgF, ↓w_SeqI, ↓w_sqT, ↓w_Zip, ↓w_zpT, ↓w_Comp, ↓kCo_ok, ↓w_of, ↓kF_rt, ↓kF_nx, ↓kF_exc, ↓w_add, ↓w_sub, ↓w_pow10, ↓w_neg, ↓w_lt, ↓w_le, ↓w_gt, ↓w_ge, ↓w_ix0, ↓w_ix1, ↓w_ix2, ↓w_ix3, ↓w_eqI, ↓w_eqS, ↓w_eqT2, ↓w_abs, ↓w_lenT, ↓w_lenS, ↓w_max, ↓w_min, ↓w_intT, ↓w_intF, ↓w_isBool, ↓w_isTup, ↓w_tupT, ↓w_listT, ↓w_cutT, ↓brw_t, ↓brw_f, ↓brz_t, ↓brz_f, List.getElem?_cons_zero, List.getElem?_cons_succ, List.set_cons_zero, List.set_cons_succ, List.length_cons, List.length_nil, List.map_cons, List.map_nil, List.replicate, List.cons_append, List.nil_append, small, Nat.reduceAdd, Nat.reduceLeDiff, Nat.reduceEqDiff, Int.cast_ofNat_Int, Int.reduceBEq, BEq.rfl, ↓w_Yes, ↓w_bTru, ↓augF_ok, ↓z_Put, ↓putF_ok, ↓putG_ok, ↓w_isNn, ↓w_isNt, wipeF_nil, wipeF_cons, Int.reduceLE, Int.reduceLT, Int.reduceToNat, Int.reducePow, Int.reduceNeg, Int.reduceSub, Int.reduceAdd, Int.reduceMul, decide_true, decide_false, Bool.not_true, Bool.not_false, Bool.bne_false, Bool.bne_true, ↓w_aStar, ↓w_stT, ↓kSt_ok, ↓w_aDef, ↓kDf_ok, ↓w_Cnt, ↓w_Ext, ↓w_isBB, ↓w_isIB]
    refine while_w (I := fun m fr h2 => ∃ (n : Nat), n + m = F.length ∧ (∀ j, j < n → ∀ z, F[j]? = some z → qlt z q) ∧ h2 = h ++ [.lst (F.map dq)] ++ T ∧ fr = [some (dsp s), some (.ref r), some (.ref h.length), some (dq q), some (.int (n : Int))]) ?_ (m := F.length) ⟨0, by omega, fun j hj => by omega, rfl, rfl⟩
    rintro m fr h2 ⟨n, hn, lo, rfl, rfl⟩
    have ln : n ≤ F.length := by omega
    have fin : (∀ z, F[n]? = some z → qlt q z) → ∀ Ψ : SR → Prop, (∀ mid', F.take n ++ [q] ++ F.drop n = s.b :: mid' → mid'.length = mid.length + 1 → PtI s (rs.take (i + 1)) mid' → Ψ (.nx [some (dsp s), some (.ref r), some (.ref h.length), some (dq q), some (.int (n : Int))] (h ++ [.lst ((F.take n ++ [q] ++ F.drop n).map dq)] ++ T))) →
        Z (sSeq (sExpr (eIns (eV 2) (eV 4) (eV 3))) sEnd [some (dsp s), some (.ref r), some (.ref h.length), some (dq q), some (.int (n : Int))] (h ++ [.lst (F.map dq)] ++ T)) Ψ := by
      intro hi' Ψ kk
      have n0 : n ≠ 0 := fun e => by
        subst e
        have := hi' s.b (by rw [hF]; rfl)
        exact qlt_asy h2' this
      obtain ⟨n', rfl⟩ : ∃ n', n = n' + 1 := ⟨n - 1, by omega⟩
      have srt := ins_srt fl fq (by rw [hF]; exact pt.srt) ln lo hi'
      have e1 : F.take (n' + 1) ++ [q] ++ F.drop (n' + 1) = s.b :: (mid.take n' ++ [q] ++ mid.drop n') := by rw [hF]; simp
      simp only [↓w_ok, ↓kB_ok, ↓kI_ok, ↓w_K, ↓w_V, ↓w_vR, ↓w_Op, ↓kO1_ok, ↓kO2_ok, ↓w_Un, ↓w_bOf, ↓w_isB, ↓kBl_ok, ↓kBl_exc, ↓kIf_ok, ↓kIf_exc, ↓w_okB, ↓w_okD, ↓w_bAnd, ↓w_bOr, ↓w_bNot, ↓kNot_ok, ↓kNot_exc, ↓w_eAnd, ↓w_eOr, ↓w_eNot, ↓kNotV_ok, ↓w_eIf, ↓w_aNil, ↓w_aCons, ↓kA1_ok, ↓kA2_ok, ↓kA1_exc, ↓kA2_exc, ↓w_Tup, ↓w_Lst, ↓w_mkT, ↓w_mkL, ↓w_Dct, ↓w_Call, ↓w_goS, ↓w_Bi, ↓w_Isi, ↓w_Cut, ↓kC1_ok, ↓kC2_ok, ↓kC3_ok, ↓w_oNone, ↓w_oSome, ↓w_vO, ↓w_Chain, ↓kCh1_ok, ↓kCh2_ok, ↓kCh3_ok, ↓w_chA, ↓w_App, ↓w_Ins, ↓w_insG, ↓z_nx, ↓z_End, ↓z_Seq, ↓kT_nx, ↓kT_rt, ↓kT_bk, ↓kT_ct, ↓kT_exc, ↓z_If, ↓kIfS_ok, ↓kIfS_exc, ↓z_Ret, ↓kRet_ok, ↓kRet_exc, ↓z_Expr, ↓kNx_ok, ↓kNx_exc, ↓z_Asg, ↓kAs_ok, ↓kAs_exc, ↓z_tgO, t_N, t_T, t_nil, t_cons, t_G, t_gnil, t_gcons, t_bind, ↓z_Par, ↓kPar_ok, ↓z_Raise, ↓z_Break, ↓z_Cont, ↓z_For, ↓kSrc_ok, ↓w_Range, ↓w_rgF, ↓w_SeqI, ↓w_sqT, ↓w_Zip, ↓w_zpT, ↓w_Comp, ↓kCo_ok, ↓w_of, ↓kF_rt, ↓kF_nx, ↓kF_exc, ↓w_add, ↓w_sub, ↓w_pow10, ↓w_neg, ↓w_lt, ↓w_le, ↓w_gt, ↓w_ge, ↓w_ix0, ↓w_ix1, ↓w_ix2, ↓w_ix3, ↓w_eqI, ↓w_eqS, ↓w_eqT2, ↓w_abs, ↓w_lenT, ↓w_lenS, ↓w_max, ↓w_min, ↓w_intT, ↓w_intF, ↓w_isBool, ↓w_isTup, ↓w_tupT, ↓w_listT, ↓w_cutT, ↓brw_t, ↓brw_f, ↓brz_t, ↓brz_f, List.getElem?_cons_zero, List.getElem?_cons_succ, List.set_cons_zero, List.set_cons_succ, List.length_cons, List.length_nil, List.map_cons, List.map_nil, List.replicate, List.cons_append, List.nil_append, small, Nat.reduceAdd, Nat.reduceLeDiff, Nat.reduceEqDiff, Int.cast_ofNat_Int, Int.reduceBEq, BEq.rfl, ↓w_Yes, ↓w_bTru, ↓augF_ok, ↓z_Put, ↓putF_ok, ↓putG_ok, ↓w_isNn, ↓w_isNt, wipeF_nil, wipeF_cons, Int.reduceLE, Int.reduceLT, Int.reduceToNat, Int.reducePow, Int.reduceNeg, Int.reduceSub, Int.reduceAdd, Int.reduceMul, decide_true, decide_false, Bool.not_true, Bool.not_false, Bool.bne_false, Bool.bne_true, ↓w_aStar, ↓w_stT, ↓kSt_ok, ↓w_aDef, ↓kDf_ok, ↓w_Cnt, ↓w_Ext, ↓w_isBB, ↓w_isIB, w_insF lm, w_insH lm (show (0 : Int) ≤ ((n' + 1 : Nat) : Int) by omega) (show ((n' + 1 : Nat) : Int) < 2 ^ 63 by omega) (show small ((F.map dq).length + 1) = true from decide_eq_true (by simp; omega))]
      rw [set_mid]
      have e2 : (F.map dq).take ((n' + 1 : Nat) : Int).toNat ++ [dq q] ++ (F.map dq).drop ((n' + 1 : Nat) : Int).toNat = (F.take (n' + 1) ++ [q] ++ F.drop (n' + 1)).map dq := by
        rw [Int.toNat_natCast, map_take, map_drop, List.map_append, List.map_append]; rfl
      rw [e2]
      refine kk _ e1 (by simp; omega) ?_
      rw [e1] at srt
      have mem : ∀ z, z ∈ mid.take n' ++ [q] ++ mid.drop n' ↔ z = q ∨ z ∈ mid := fun z => by
        rw [List.append_assoc, List.mem_append, List.mem_append, List.mem_singleton]
        have : z ∈ mid ↔ z ∈ mid.take n' ∨ z ∈ mid.drop n' := by rw [← List.mem_append, List.take_append_drop]
        rw [this]
        constructor
        · rintro (a | a | a)
          · exact .inr (.inl a)
          · exact .inl a
          · exact .inr (.inr a)
        · rintro (a | a | a)
          · exact .inr (.inl a)
          · exact .inl a
          · exact .inr (.inr a)
      refine ⟨srt, fun z hz => ?_, fun z hz a b => ?_⟩
      · rcases (mem z).mp hz with rfl | hz
        · exact ⟨by rw [tk]; simp, h2', h3'⟩
        · exact ⟨by rw [tk]; exact List.mem_append_left _ (pt.frm z hz).1, (pt.frm z hz).2⟩
      · rw [tk] at hz
        rcases List.mem_append.mp hz with hz | hz
        · exact (mem z).mpr (.inr (pt.all z hz a b))
        · exact (mem z).mpr (.inl (List.mem_singleton.mp hz))
    simp only [↓w_ok, ↓kB_ok, ↓kI_ok, ↓w_K, ↓w_V, ↓w_vR, ↓w_Op, ↓kO1_ok, ↓kO2_ok, ↓w_Un, ↓w_bOf, ↓w_isB, ↓kBl_ok, ↓kBl_exc, ↓kIf_ok, ↓kIf_exc, ↓w_okB, ↓w_okD, ↓w_bAnd, ↓w_bOr, ↓w_bNot, ↓kNot_ok, ↓kNot_exc, ↓w_eAnd, ↓w_eOr, ↓w_eNot, ↓kNotV_ok, ↓w_eIf, ↓w_aNil, ↓w_aCons, ↓kA1_ok, ↓kA2_ok, ↓kA1_exc, ↓kA2_exc, ↓w_Tup, ↓w_Lst, ↓w_mkT, ↓w_mkL, ↓w_Dct, ↓w_Call, ↓w_goS, ↓w_Bi, ↓w_Isi, ↓w_Cut, ↓kC1_ok, ↓kC2_ok, ↓kC3_ok, ↓w_oNone, ↓w_oSome, ↓w_vO, ↓w_Chain, ↓kCh1_ok, ↓kCh2_ok, ↓kCh3_ok, ↓w_chA, ↓w_App, ↓w_Ins, ↓w_insG, ↓z_nx, ↓z_End, ↓z_Seq, ↓kT_nx, ↓kT_rt, ↓kT_bk, ↓kT_ct, ↓kT_exc, ↓z_If, ↓kIfS_ok, ↓kIfS_exc, ↓z_Ret, ↓kRet_ok, ↓kRet_exc, ↓z_Expr, ↓kNx_ok, ↓kNx_exc, ↓z_Asg, ↓kAs_ok, ↓kAs_exc, ↓z_tgO, t_N, t_T, t_nil, t_cons, t_G, t_gnil, t_gcons, t_bind, ↓z_Par, ↓kPar_ok, ↓z_Raise, ↓z_Break, ↓z_Cont, ↓z_For, ↓kSrc_ok, ↓w_Range, ↓w_rgF, ↓w_SeqI, ↓w_sqT, ↓w_Zip, ↓w_zpT, ↓w_Comp, ↓kCo_ok, ↓w_of, ↓kF_rt, ↓kF_nx, ↓kF_exc, ↓w_add, ↓w_sub, ↓w_pow10, ↓w_neg, ↓w_lt, ↓w_le, ↓w_gt, ↓w_ge, ↓w_ix0, ↓w_ix1, ↓w_ix2, ↓w_ix3, ↓w_eqI, ↓w_eqS, ↓w_eqT2, ↓w_abs, ↓w_lenT, ↓w_lenS, ↓w_max, ↓w_min, ↓w_intT, ↓w_intF, ↓w_isBool, ↓w_isTup, ↓w_tupT, ↓w_listT, ↓w_cutT, ↓brw_t, ↓brw_f, ↓brz_t, ↓brz_f, List.getElem?_cons_zero, List.getElem?_cons_succ, List.set_cons_zero, List.set_cons_succ, List.length_cons, List.length_nil, List.map_cons, List.map_nil, List.replicate, List.cons_append, List.nil_append, small, Nat.reduceAdd, Nat.reduceLeDiff, Nat.reduceEqDiff, Int.cast_ofNat_Int, Int.reduceBEq, BEq.rfl, ↓w_Yes, ↓w_bTru, ↓augF_ok, ↓z_Put, ↓putF_ok, ↓putG_ok, ↓w_isNn, ↓w_isNt, wipeF_nil, wipeF_cons, Int.reduceLE, Int.reduceLT, Int.reduceToNat, Int.reducePow, Int.reduceNeg, Int.reduceSub, Int.reduceAdd, Int.reduceMul, decide_true, decide_false, Bool.not_true, Bool.not_false, Bool.bne_false, Bool.bne_true, ↓w_aStar, ↓w_stT, ↓kSt_ok, ↓w_aDef, ↓kDf_ok, ↓w_Cnt, ↓w_Ext, ↓w_isBB, ↓w_isIB, w_lenL lm, List.length_map]
    refine brwP (fun hc => ?_) fun hc => ?_
    rotate_left
    · simp only [↓w_ok, ↓kB_ok, ↓kI_ok, ↓w_K, ↓w_V, ↓w_vR, ↓w_Op, ↓kO1_ok, ↓kO2_ok, ↓w_Un, ↓w_bOf, ↓w_isB, ↓kBl_ok, ↓kBl_exc, ↓kIf_ok, ↓kIf_exc, ↓w_okB, ↓w_okD, ↓w_bAnd, ↓w_bOr, ↓w_bNot, ↓kNot_ok, ↓kNot_exc, ↓w_eAnd, ↓w_eOr, ↓w_eNot, ↓kNotV_ok, ↓w_eIf, ↓w_aNil, ↓w_aCons, ↓kA1_ok, ↓kA2_ok, ↓kA1_exc, ↓kA2_exc, ↓w_Tup, ↓w_Lst, ↓w_mkT, ↓w_mkL, ↓w_Dct, ↓w_Call, ↓w_goS, ↓w_Bi, ↓w_Isi, ↓w_Cut, ↓kC1_ok, ↓kC2_ok, ↓kC3_ok, ↓w_oNone, ↓w_oSome, ↓w_vO, ↓w_Chain, ↓kCh1_ok, ↓kCh2_ok, ↓kCh3_ok, ↓w_chA, ↓w_App, ↓w_Ins, ↓w_insG, ↓z_nx, ↓z_End, ↓z_Seq, ↓kT_nx, ↓kT_rt, ↓kT_bk, ↓kT_ct, ↓kT_exc, ↓z_If, ↓kIfS_ok, ↓kIfS_exc, ↓z_Ret, ↓kRet_ok, ↓kRet_exc, ↓z_Expr, ↓kNx_ok, ↓kNx_exc, ↓z_Asg, ↓kAs_ok, ↓kAs_exc, ↓z_tgO, t_N, t_T, t_nil, t_cons, t_G, t_gnil, t_gcons, t_bind, ↓z_Par, ↓kPar_ok, ↓z_Raise, ↓z_Break, ↓z_Cont, ↓z_For, ↓kSrc_ok, ↓w_Range, ↓w_rgF, ↓w_SeqI, ↓w_sqT, ↓w_Zip, ↓w_zpT, ↓w_Comp, ↓kCo_ok, ↓w_of, ↓kF_rt, ↓kF_nx, ↓kF_exc, ↓w_add, ↓w_sub, ↓w_pow10, ↓w_neg, ↓w_lt, ↓w_le, ↓w_gt, ↓w_ge, ↓w_ix0, ↓w_ix1, ↓w_ix2, ↓w_ix3, ↓w_eqI, ↓w_eqS, ↓w_eqT2, ↓w_abs, ↓w_lenT, ↓w_lenS, ↓w_max, ↓w_min, ↓w_intT, ↓w_intF, ↓w_isBool, ↓w_isTup, ↓w_tupT, ↓w_listT, ↓w_cutT, ↓brw_t, ↓brw_f, ↓brz_t, ↓brz_f, List.getElem?_cons_zero, List.getElem?_cons_succ, List.set_cons_zero, List.set_cons_succ, List.length_cons, List.length_nil, List.map_cons, List.map_nil, List.replicate, List.cons_append, List.nil_append, small, Nat.reduceAdd, Nat.reduceLeDiff, Nat.reduceEqDiff, Int.cast_ofNat_Int, Int.reduceBEq, BEq.rfl, ↓w_Yes, ↓w_bTru, ↓augF_ok, ↓z_Put, ↓putF_ok, ↓putG_ok, ↓w_isNn, ↓w_isNt, wipeF_nil, wipeF_cons, Int.reduceLE, Int.reduceLT, Int.reduceToNat, Int.reducePow, Int.reduceNeg, Int.reduceSub, Int.reduceAdd, Int.reduceMul, decide_true, decide_false, Bool.not_true, Bool.not_false, Bool.bne_false, Bool.bne_true, ↓w_aStar, ↓w_stT, ↓kSt_ok, ↓w_aDef, ↓kDf_ok, ↓w_Cnt, ↓w_Ext, ↓w_isBB, ↓w_isIB]
      refine ⟨fun e => (nomatch e), fun _ => ?_⟩
      rw [kT_nx]
      refine fin (fun z hz => ?_) _ fun mid' e1 e2 e3 => ?_
      · have := (List.getElem?_eq_some_iff.mp hz).1
        omega
      · simp only [↓w_ok, ↓kB_ok, ↓kI_ok, ↓w_K, ↓w_V, ↓w_vR, ↓w_Op, ↓kO1_ok, ↓kO2_ok, ↓w_Un, ↓w_bOf, ↓w_isB, ↓kBl_ok, ↓kBl_exc, ↓kIf_ok, ↓kIf_exc, ↓w_okB, ↓w_okD, ↓w_bAnd, ↓w_bOr, ↓w_bNot, ↓kNot_ok, ↓kNot_exc, ↓w_eAnd, ↓w_eOr, ↓w_eNot, ↓kNotV_ok, ↓w_eIf, ↓w_aNil, ↓w_aCons, ↓kA1_ok, ↓kA2_ok, ↓kA1_exc, ↓kA2_exc, ↓w_Tup, ↓w_Lst, ↓w_mkT, ↓w_mkL, ↓w_Dct, ↓w_Call, ↓w_goS, ↓w_Bi, ↓w_Isi, ↓w_Cut, ↓kC1_ok, ↓kC2_ok, ↓kC3_ok, ↓w_oNone, ↓w_oSome, ↓w_vO, ↓w_Chain, ↓kCh1_ok, ↓kCh2_ok, ↓kCh3_ok, ↓w_chA, ↓w_App, ↓w_Ins, ↓w_insG, ↓z_nx, ↓z_End, ↓z_Seq, ↓kT_nx, ↓kT_rt, ↓kT_bk, ↓kT_ct, ↓kT_exc, ↓z_If, ↓kIfS_ok, ↓kIfS_exc, ↓z_Ret, ↓kRet_ok, ↓kRet_exc, ↓z_Expr, ↓kNx_ok, ↓kNx_exc, ↓z_Asg, ↓kAs_ok, ↓kAs_exc, ↓z_tgO, t_N, t_T, t_nil, t_cons, t_G, t_gnil, t_gcons, t_bind, ↓z_Par, ↓kPar_ok, ↓z_Raise, ↓z_Break, ↓z_Cont, ↓z_For, ↓kSrc_ok, ↓w_Range, ↓w_rgF, ↓w_SeqI, ↓w_sqT, ↓w_Zip, ↓w_zpT, ↓w_Comp, ↓kCo_ok, ↓w_of, ↓kF_rt, ↓kF_nx, ↓kF_exc, ↓w_add, ↓w_sub, ↓w_pow10, ↓w_neg, ↓w_lt, ↓w_le, ↓w_gt, ↓w_ge, ↓w_ix0, ↓w_ix1, ↓w_ix2, ↓w_ix3, ↓w_eqI, ↓w_eqS, ↓w_eqT2, ↓w_abs, ↓w_lenT, ↓w_lenS, ↓w_max, ↓w_min, ↓w_intT, ↓w_intF, ↓w_isBool, ↓w_isTup, ↓w_tupT, ↓w_listT, ↓w_cutT, ↓brw_t, ↓brw_f, ↓brz_t, ↓brz_f, List.getElem?_cons_zero, List.getElem?_cons_succ, List.set_cons_zero, List.set_cons_succ, List.length_cons, List.length_nil, List.map_cons, List.map_nil, List.replicate, List.cons_append, List.nil_append, small, Nat.reduceAdd, Nat.reduceLeDiff, Nat.reduceEqDiff, Int.cast_ofNat_Int, Int.reduceBEq, BEq.rfl, ↓w_Yes, ↓w_bTru, ↓augF_ok, ↓z_Put, ↓putF_ok, ↓putG_ok, ↓w_isNn, ↓w_isNt, wipeF_nil, wipeF_cons, Int.reduceLE, Int.reduceLT, Int.reduceToNat, Int.reducePow, Int.reduceNeg, Int.reduceSub, Int.reduceAdd, Int.reduceMul, decide_true, decide_false, Bool.not_true, Bool.not_false, Bool.bne_false, Bool.bne_true, ↓w_aStar, ↓w_stT, ↓kSt_ok, ↓w_aDef, ↓kDf_ok, ↓w_Cnt, ↓w_Ext, ↓w_isBB, ↓w_isIB]
        exact ⟨mid', _, T, _, _, e1, rfl, rfl, by omega, e3⟩
    have hc' : n < F.length := by omega
    have ix : atI (F.map dq) (n : Int) = some (dq F[n]) := by
      unfold atI ixN
      have : ¬ ((n : Int) < 0) := by omega
      simp [this, hc']
    have fz := fl F[n] (List.getElem_mem hc')
    simp only [↓w_ok, ↓kB_ok, ↓kI_ok, ↓w_K, ↓w_V, ↓w_vR, ↓w_Op, ↓kO1_ok, ↓kO2_ok, ↓w_Un, ↓w_bOf, ↓w_isB, ↓kBl_ok, ↓kBl_exc, ↓kIf_ok, ↓kIf_exc, ↓w_okB, ↓w_okD, ↓w_bAnd, ↓w_bOr, ↓w_bNot, ↓kNot_ok, ↓kNot_exc, ↓w_eAnd, ↓w_eOr, ↓w_eNot, ↓kNotV_ok, ↓w_eIf, ↓w_aNil, ↓w_aCons, ↓kA1_ok, ↓kA2_ok, ↓kA1_exc, ↓kA2_exc, ↓w_Tup, ↓w_Lst, ↓w_mkT, ↓w_mkL, ↓w_Dct, ↓w_Call, ↓w_goS, ↓w_Bi, ↓w_Isi, ↓w_Cut, ↓kC1_ok, ↓kC2_ok, ↓kC3_ok, ↓w_oNone, ↓w_oSome, ↓w_vO, ↓w_Chain, ↓kCh1_ok, ↓kCh2_ok, ↓kCh3_ok, ↓w_chA, ↓w_App, ↓w_Ins, ↓w_insG, ↓z_nx, ↓z_End, ↓z_Seq, ↓kT_nx, ↓kT_rt, ↓kT_bk, ↓kT_ct, ↓kT_exc, ↓z_If, ↓kIfS_ok, ↓kIfS_exc, ↓z_Ret, ↓kRet_ok, ↓kRet_exc, ↓z_Expr, ↓kNx_ok, ↓kNx_exc, ↓z_Asg, ↓kAs_ok, ↓kAs_exc, ↓z_tgO, t_N, t_T, t_nil, t_cons, t_G, t_gnil, t_gcons, t_bind, ↓z_Par, ↓kPar_ok, ↓z_Raise, ↓z_Break, ↓z_Cont, ↓z_For, ↓kSrc_ok, ↓w_Range, ↓w_rgF, ↓w_SeqI, ↓w_sqT, ↓w_Zip, ↓w_zpT, ↓w_Comp, ↓kCo_ok, ↓w_of, ↓kF_rt, ↓kF_nx, ↓kF_exc, ↓w_add, ↓w_sub, ↓w_pow10, ↓w_neg, ↓w_lt, ↓w_le, ↓w_gt, ↓w_ge, ↓w_ix0, ↓w_ix1, ↓w_ix2, ↓w_ix3, ↓w_eqI, ↓w_eqS, ↓w_eqT2, ↓w_abs, ↓w_lenT, ↓w_lenS, ↓w_max, ↓w_min, ↓w_intT, ↓w_intF, ↓w_isBool, ↓w_isTup, ↓w_tupT, ↓w_listT, ↓w_cutT, ↓brw_t, ↓brw_f, ↓brz_t, ↓brz_f, List.getElem?_cons_zero, List.getElem?_cons_succ, List.set_cons_zero, List.set_cons_succ, List.length_cons, List.length_nil, List.map_cons, List.map_nil, List.replicate, List.cons_append, List.nil_append, small, Nat.reduceAdd, Nat.reduceLeDiff, Nat.reduceEqDiff, Int.cast_ofNat_Int, Int.reduceBEq, BEq.rfl, ↓w_Yes, ↓w_bTru, ↓augF_ok, ↓z_Put, ↓putF_ok, ↓putG_ok, ↓w_isNn, ↓w_isNt, wipeF_nil, wipeF_cons, Int.reduceLE, Int.reduceLT, Int.reduceToNat, Int.reducePow, Int.reduceNeg, Int.reduceSub, Int.reduceAdd, Int.reduceMul, decide_true, decide_false, Bool.not_true, Bool.not_false, Bool.bne_false, Bool.bne_true, ↓w_aStar, ↓w_stT, ↓kSt_ok, ↓w_aDef, ↓kDf_ok, ↓w_Cnt, ↓w_Ext, ↓w_isBB, ↓w_isIB, w_ixL lm ix, less_w fz.b1 fz.b2 fq.b1 fq.b2 hA]
    refine ⟨fun hd => ?_, fun hd => ?_⟩
    · have hd' : qlt F[n] q := of_decide_eq_true hd
      simp only [↓w_ok, ↓kB_ok, ↓kI_ok, ↓w_K, ↓w_V, ↓w_vR, ↓w_Op, ↓kO1_ok, ↓kO2_ok, ↓w_Un, ↓w_bOf, ↓w_isB, ↓kBl_ok, ↓kBl_exc, ↓kIf_ok, ↓kIf_exc, ↓w_okB, ↓w_okD, ↓w_bAnd, ↓w_bOr, ↓w_bNot, ↓kNot_ok, ↓kNot_exc, ↓w_eAnd, ↓w_eOr, ↓w_eNot, ↓kNotV_ok, ↓w_eIf, ↓w_aNil, ↓w_aCons, ↓kA1_ok, ↓kA2_ok, ↓kA1_exc, ↓kA2_exc, ↓w_Tup, ↓w_Lst, ↓w_mkT, ↓w_mkL, ↓w_Dct, ↓w_Call, ↓w_goS, ↓w_Bi, ↓w_Isi, ↓w_Cut, ↓kC1_ok, ↓kC2_ok, ↓kC3_ok, ↓w_oNone, ↓w_oSome, ↓w_vO, ↓w_Chain, ↓kCh1_ok, ↓kCh2_ok, ↓kCh3_ok, ↓w_chA, ↓w_App, ↓w_Ins, ↓w_insG, ↓z_nx, ↓z_End, ↓z_Seq, ↓kT_nx, ↓kT_rt, ↓kT_bk, ↓kT_ct, ↓kT_exc, ↓z_If, ↓kIfS_ok, ↓kIfS_exc, ↓z_Ret, ↓kRet_ok, ↓kRet_exc, ↓z_Expr, ↓kNx_ok, ↓kNx_exc, ↓z_Asg, ↓kAs_ok, ↓kAs_exc, ↓z_tgO, t_N, t_T, t_nil, t_cons, t_G, t_gnil, t_gcons, t_bind, ↓z_Par, ↓kPar_ok, ↓z_Raise, ↓z_Break, ↓z_Cont, ↓z_For, ↓kSrc_ok, ↓w_Range, ↓w_rgF, ↓w_SeqI, ↓w_sqT, ↓w_Zip, ↓w_zpT, ↓w_Comp, ↓kCo_ok, ↓w_of, ↓kF_rt, ↓kF_nx, ↓kF_exc, ↓w_add, ↓w_sub, ↓w_pow10, ↓w_neg, ↓w_lt, ↓w_le, ↓w_gt, ↓w_ge, ↓w_ix0, ↓w_ix1, ↓w_ix2, ↓w_ix3, ↓w_eqI, ↓w_eqS, ↓w_eqT2, ↓w_abs, ↓w_lenT, ↓w_lenS, ↓w_max, ↓w_min, ↓w_intT, ↓w_intF, ↓w_isBool, ↓w_isTup, ↓w_tupT, ↓w_listT, ↓w_cutT, ↓brw_t, ↓brw_f, ↓brz_t, ↓brz_f, List.getElem?_cons_zero, List.getElem?_cons_succ, List.set_cons_zero, List.set_cons_succ, List.length_cons, List.length_nil, List.map_cons, List.map_nil, List.replicate, List.cons_append, List.nil_append, small, Nat.reduceAdd, Nat.reduceLeDiff, Nat.reduceEqDiff, Int.cast_ofNat_Int, Int.reduceBEq, BEq.rfl, ↓w_Yes, ↓w_bTru, ↓augF_ok, ↓z_Put, ↓putF_ok, ↓putG_ok, ↓w_isNn, ↓w_isNt, wipeF_nil, wipeF_cons, Int.reduceLE, Int.reduceLT, Int.reduceToNat, Int.reducePow, Int.reduceNeg, Int.reduceSub, Int.reduceAdd, Int.reduceMul, decide_true, decide_false, Bool.not_true, Bool.not_false, Bool.bne_false, Bool.bne_true, ↓w_aStar, ↓w_stT, ↓kSt_ok, ↓w_aDef, ↓kDf_ok, ↓w_Cnt, ↓w_Ext, ↓w_isBB, ↓w_isIB]
      refine ⟨m - 1, by omega, n + 1, by omega, fun j hj z hz => ?_, rfl, by simp⟩
      by_cases ej : j = n
      · subst ej
        rw [List.getElem?_eq_getElem hc'] at hz
        cases hz
        exact hd'
      · exact lo j (by omega) z hz
    · have hd' : ¬ qlt F[n] q := of_decide_eq_false hd
      rw [kT_nx]
      refine fin (fun z hz => ?_) _ fun mid' e1 e2 e3 => ?_
      · rw [List.getElem?_eq_getElem hc'] at hz
        cases hz
        by_cases hq' : qlt q F[n]
        · exact hq'
        · exact absurd (List.getElem_mem hc') (by rw [← fq.ext fz hq' hd']; exact h1')
      · simp only [↓w_ok, ↓kB_ok, ↓kI_ok, ↓w_K, ↓w_V, ↓w_vR, ↓w_Op, ↓kO1_ok, ↓kO2_ok, ↓w_Un, ↓w_bOf, ↓w_isB, ↓kBl_ok, ↓kBl_exc, ↓kIf_ok, ↓kIf_exc, ↓w_okB, ↓w_okD, ↓w_bAnd, ↓w_bOr, ↓w_bNot, ↓kNot_ok, ↓kNot_exc, ↓w_eAnd, ↓w_eOr, ↓w_eNot, ↓kNotV_ok, ↓w_eIf, ↓w_aNil, ↓w_aCons, ↓kA1_ok, ↓kA2_ok, ↓kA1_exc, ↓kA2_exc, ↓w_Tup, ↓w_Lst, ↓w_mkT, ↓w_mkL, ↓w_Dct, ↓w_Call, ↓w_goS, ↓w_Bi, ↓w_Isi, ↓w_Cut, ↓kC1_ok, ↓kC2_ok, ↓kC3_ok, ↓w_oNone, ↓w_oSome, ↓w_vO, ↓w_Chain, ↓kCh1_ok, ↓kCh2_ok, ↓kCh3_ok, ↓w_chA, ↓w_App, ↓w_Ins, ↓w_insG, ↓z_nx, ↓z_End, ↓z_Seq, ↓kT_nx, ↓kT_rt, ↓kT_bk, ↓kT_ct, ↓kT_exc, ↓z_If, ↓kIfS_ok, ↓kIfS_exc, ↓z_Ret, ↓kRet_ok, ↓kRet_exc, ↓z_Expr, ↓kNx_ok, ↓kNx_exc, ↓z_Asg, ↓kAs_ok, ↓kAs_exc, ↓z_tgO, t_N, t_T, t_nil, t_cons, t_G, t_gnil, t_gcons, t_bind, ↓z_Par, ↓kPar_ok, ↓z_Raise, ↓z_Break, ↓z_Cont, ↓z_For, ↓kSrc_ok, ↓w_Range, ↓w_rgF, ↓w_SeqI, ↓w_sqT, ↓w_Zip, ↓w_zpT, ↓w_Comp, ↓kCo_ok, ↓w_of, ↓kF_rt, ↓kF_nx, ↓kF_exc, ↓w_add, ↓w_sub, ↓w_pow10, ↓w_neg, ↓w_lt, ↓w_le, ↓w_gt, ↓w_ge, ↓w_ix0, ↓w_ix1, ↓w_ix2, ↓w_ix3, ↓w_eqI, ↓w_eqS, ↓w_eqT2, ↓w_abs, ↓w_lenT, ↓w_lenS, ↓w_max, ↓w_min, ↓w_intT, ↓w_intF, ↓w_isBool, ↓w_isTup, ↓w_tupT, ↓w_listT, ↓w_cutT, ↓brw_t, ↓brw_f, ↓brz_t, ↓brz_f, List.getElem?_cons_zero, List.getElem?_cons_succ, List.set_cons_zero, List.set_cons_succ, List.length_cons, List.length_nil, List.map_cons, List.map_nil, List.replicate, List.cons_append, List.nil_append, small, Nat.reduceAdd, Nat.reduceLeDiff, Nat.reduceEqDiff, Int.cast_ofNat_Int, Int.reduceBEq, BEq.rfl, ↓w_Yes, ↓w_bTru, ↓augF_ok, ↓z_Put, ↓putF_ok, ↓putG_ok, ↓w_isNn, ↓w_isNt, wipeF_nil, wipeF_cons, Int.reduceLE, Int.reduceLT, Int.reduceToNat, Int.reducePow, Int.reduceNeg, Int.reduceSub, Int.reduceAdd, Int.reduceMul, decide_true, decide_false, Bool.not_true, Bool.not_false, Bool.bne_false, Bool.bne_true, ↓w_aStar, ↓w_stT, ↓kSt_ok, ↓w_aDef, ↓kDf_ok, ↓w_Cnt, ↓w_Ext, ↓w_isBB, ↓w_isIB]
        exact ⟨mid', _, T, _, _, e1, rfl, rfl, by omega, e3⟩
  · rintro fr h' ⟨mid, F, T, x, y, hF, rfl, rfl, hm, pt⟩
    rw [List.take_of_length_le (Nat.le_refl _)] at pt
    have gr : Gr h (h ++ [.lst (F.map dq)] ++ T) := ⟨[.lst (F.map dq)] ++ T, by simp⟩
    have lm : lstAt (h ++ [.lst (F.map dq)] ++ T) h.length = some (F.map dq) := lst_mid _ _ _
    refine ⟨by have := srcC_fin er _ gr; simpa using this, ?_⟩
    have hFl : F.length = mid.length + 1 := by rw [hF]; simp
    simp only [↓w_ok, ↓kB_ok, ↓kI_ok, ↓w_K, ↓w_V, ↓w_vR, ↓w_Op, ↓kO1_ok, ↓kO2_ok, ↓w_Un, ↓w_bOf, ↓w_isB, ↓kBl_ok, ↓kBl_exc, ↓kIf_ok, ↓kIf_exc, ↓w_okB, ↓w_okD, ↓w_bAnd, ↓w_bOr, ↓w_bNot, ↓kNot_ok, ↓kNot_exc, ↓w_eAnd, ↓w_eOr, ↓w_eNot, ↓kNotV_ok, ↓w_eIf, ↓w_aNil, ↓w_aCons, ↓kA1_ok, ↓kA2_ok, ↓kA1_exc, ↓kA2_exc, ↓w_Tup, ↓w_Lst, ↓w_mkT, ↓w_mkL, ↓w_Dct, ↓w_Call, ↓w_goS, ↓w_Bi, ↓w_Isi, ↓w_Cut, ↓kC1_ok, ↓kC2_ok, ↓kC3_ok, ↓w_oNone, ↓w_oSome, ↓w_vO, ↓w_Chain, ↓kCh1_ok, ↓kCh2_ok, ↓kCh3_ok, ↓w_chA, ↓w_App, ↓w_Ins, ↓w_insG, ↓z_nx, ↓z_End, ↓z_Seq, ↓kT_nx, ↓kT_rt, ↓kT_bk, ↓kT_ct, ↓kT_exc, ↓z_If, ↓kIfS_ok, ↓kIfS_exc, ↓z_Ret, ↓kRet_ok, ↓kRet_exc, ↓z_Expr, ↓kNx_ok, ↓kNx_exc, ↓z_Asg, ↓kAs_ok, ↓kAs_exc, ↓z_tgO, t_N, t_T, t_nil, t_cons, t_G, t_gnil, t_gcons, t_bind, ↓z_Par, ↓kPar_ok, ↓z_Raise, ↓z_Break, ↓z_Cont, ↓z_For, ↓kSrc_ok, ↓w_Range, ↓w_rgF, ↓w_SeqI, ↓w_sqT, ↓w_Zip, ↓w_zpT, ↓w_Comp, ↓kCo_ok, ↓w_of, ↓kF_rt, ↓kF_nx, ↓kF_exc, ↓w_add, ↓w_sub, ↓w_pow10, ↓w_neg, ↓w_lt, ↓w_le, ↓w_gt, ↓w_ge, ↓w_ix0, ↓w_ix1, ↓w_ix2, ↓w_ix3, ↓w_eqI, ↓w_eqS, ↓w_eqT2, ↓w_abs, ↓w_lenT, ↓w_lenS, ↓w_max, ↓w_min, ↓w_intT, ↓w_intF, ↓w_isBool, ↓w_isTup, ↓w_tupT, ↓w_listT, ↓w_cutT, ↓brw_t, ↓brw_f, ↓brz_t, ↓brz_f, List.getElem?_cons_zero, List.getElem?_cons_succ, List.set_cons_zero, List.set_cons_succ, List.length_cons, List.length_nil, List.map_cons, List.map_nil, List.replicate, List.cons_append, List.nil_append, small, Nat.reduceAdd, Nat.reduceLeDiff, Nat.reduceEqDiff, Int.cast_ofNat_Int, Int.reduceBEq, BEq.rfl, ↓w_Yes, ↓w_bTru, ↓augF_ok, ↓z_Put, ↓putF_ok, ↓putG_ok, ↓w_isNn, ↓w_isNt, wipeF_nil, wipeF_cons, Int.reduceLE, Int.reduceLT, Int.reduceToNat, Int.reducePow, Int.reduceNeg, Int.reduceSub, Int.reduceAdd, Int.reduceMul, decide_true, decide_false, Bool.not_true, Bool.not_false, Bool.bne_false, Bool.bne_true, ↓w_aStar, ↓w_stT, ↓kSt_ok, ↓w_aDef, ↓kDf_ok, ↓w_Cnt, ↓w_Ext, ↓w_isBB, ↓w_isIB]
    generalize h ++ [.lst (F.map dq)] ++ T = h2 at *
    have l3 : lstAt (h2 ++ [.lst [dq s.e]]) h2.length = some [dq s.e] := lst_new _ _
    cases he : decide (s.e = s.b) with
    | true =>
      have he' : s.e = s.b := of_decide_eq_true he
      simp only [↓w_ok, ↓kB_ok, ↓kI_ok, ↓w_K, ↓w_V, ↓w_vR, ↓w_Op, ↓kO1_ok, ↓kO2_ok, ↓w_Un, ↓w_bOf, ↓w_isB, ↓kBl_ok, ↓kBl_exc, ↓kIf_ok, ↓kIf_exc, ↓w_okB, ↓w_okD, ↓w_bAnd, ↓w_bOr, ↓w_bNot, ↓kNot_ok, ↓kNot_exc, ↓w_eAnd, ↓w_eOr, ↓w_eNot, ↓kNotV_ok, ↓w_eIf, ↓w_aNil, ↓w_aCons, ↓kA1_ok, ↓kA2_ok, ↓kA1_exc, ↓kA2_exc, ↓w_Tup, ↓w_Lst, ↓w_mkT, ↓w_mkL, ↓w_Dct, ↓w_Call, ↓w_goS, ↓w_Bi, ↓w_Isi, ↓w_Cut, ↓kC1_ok, ↓kC2_ok, ↓kC3_ok, ↓w_oNone, ↓w_oSome, ↓w_vO, ↓w_Chain, ↓kCh1_ok, ↓kCh2_ok, ↓kCh3_ok, ↓w_chA, ↓w_App, ↓w_Ins, ↓w_insG, ↓z_nx, ↓z_End, ↓z_Seq, ↓kT_nx, ↓kT_rt, ↓kT_bk, ↓kT_ct, ↓kT_exc, ↓z_If, ↓kIfS_ok, ↓kIfS_exc, ↓z_Ret, ↓kRet_ok, ↓kRet_exc, ↓z_Expr, ↓kNx_ok, ↓kNx_exc, ↓z_Asg, ↓kAs_ok, ↓kAs_exc, ↓z_tgO, t_N, t_T, t_nil, t_cons, t_G, t_gnil, t_gcons, t_bind, ↓z_Par, ↓kPar_ok, ↓z_Raise, ↓z_Break, ↓z_Cont, ↓z_For, ↓kSrc_ok, ↓w_Range, ↓w_rgF, ↓w_SeqI, ↓w_sqT, ↓w_Zip, ↓w_zpT, ↓w_Comp, ↓kCo_ok, ↓w_of, ↓kF_rt, ↓kF_nx, ↓kF_exc, ↓w_add, ↓w_sub, ↓w_pow10, ↓w_neg, ↓w_lt, ↓w_le, ↓w_gt, ↓w_ge, ↓w_ix0, ↓w_ix1, ↓w_ix2, ↓w_ix3, ↓w_eqI, ↓w_eqS, ↓w_eqT2, ↓w_abs, ↓w_lenT, ↓w_lenS, ↓w_max, ↓w_min, ↓w_intT, ↓w_intF, ↓w_isBool, ↓w_isTup, ↓w_tupT, ↓w_listT, ↓w_cutT, ↓brw_t, ↓brw_f, ↓brz_t, ↓brz_f, List.getElem?_cons_zero, List.getElem?_cons_succ, List.set_cons_zero, List.set_cons_succ, List.length_cons, List.length_nil, List.map_cons, List.map_nil, List.replicate, List.cons_append, List.nil_append, small, Nat.reduceAdd, Nat.reduceLeDiff, Nat.reduceEqDiff, Int.cast_ofNat_Int, Int.reduceBEq, BEq.rfl, ↓w_Yes, ↓w_bTru, ↓augF_ok, ↓z_Put, ↓putF_ok, ↓putG_ok, ↓w_isNn, ↓w_isNt, wipeF_nil, wipeF_cons, Int.reduceLE, Int.reduceLT, Int.reduceToNat, Int.reducePow, Int.reduceNeg, Int.reduceSub, Int.reduceAdd, Int.reduceMul, decide_true, decide_false, Bool.not_true, Bool.not_false, Bool.bne_false, Bool.bne_true, ↓w_aStar, ↓w_stT, ↓kSt_ok, ↓w_aDef, ↓kDf_ok, ↓w_Cnt, ↓w_Ext, ↓w_isBB, ↓w_isIB, beq_q, he]
      have l4 := lst_new (h2 ++ [.lst [dq s.e]]) []
      have l5 : lstAt (h2 ++ [.lst [dq s.e]] ++ [.lst []]) h.length = some (F.map dq) := lstAt_app (lstAt_app lm _) _
      simp only [↓w_ok, ↓kB_ok, ↓kI_ok, ↓w_K, ↓w_V, ↓w_vR, ↓w_Op, ↓kO1_ok, ↓kO2_ok, ↓w_Un, ↓w_bOf, ↓w_isB, ↓kBl_ok, ↓kBl_exc, ↓kIf_ok, ↓kIf_exc, ↓w_okB, ↓w_okD, ↓w_bAnd, ↓w_bOr, ↓w_bNot, ↓kNot_ok, ↓kNot_exc, ↓w_eAnd, ↓w_eOr, ↓w_eNot, ↓kNotV_ok, ↓w_eIf, ↓w_aNil, ↓w_aCons, ↓kA1_ok, ↓kA2_ok, ↓kA1_exc, ↓kA2_exc, ↓w_Tup, ↓w_Lst, ↓w_mkT, ↓w_mkL, ↓w_Dct, ↓w_Call, ↓w_goS, ↓w_Bi, ↓w_Isi, ↓w_Cut, ↓kC1_ok, ↓kC2_ok, ↓kC3_ok, ↓w_oNone, ↓w_oSome, ↓w_vO, ↓w_Chain, ↓kCh1_ok, ↓kCh2_ok, ↓kCh3_ok, ↓w_chA, ↓w_App, ↓w_Ins, ↓w_insG, ↓z_nx, ↓z_End, ↓z_Seq, ↓kT_nx, ↓kT_rt, ↓kT_bk, ↓kT_ct, ↓kT_exc, ↓z_If, ↓kIfS_ok, ↓kIfS_exc, ↓z_Ret, ↓kRet_ok, ↓kRet_exc, ↓z_Expr, ↓kNx_ok, ↓kNx_exc, ↓z_Asg, ↓kAs_ok, ↓kAs_exc, ↓z_tgO, t_N, t_T, t_nil, t_cons, t_G, t_gnil, t_gcons, t_bind, ↓z_Par, ↓kPar_ok, ↓z_Raise, ↓z_Break, ↓z_Cont, ↓z_For, ↓kSrc_ok, ↓w_Range, ↓w_rgF, ↓w_SeqI, ↓w_sqT, ↓w_Zip, ↓w_zpT, ↓w_Comp, ↓kCo_ok, ↓w_of, ↓kF_rt, ↓kF_nx, ↓kF_exc, ↓w_add, ↓w_sub, ↓w_pow10, ↓w_neg, ↓w_lt, ↓w_le, ↓w_gt, ↓w_ge, ↓w_ix0, ↓w_ix1, ↓w_ix2, ↓w_ix3, ↓w_eqI, ↓w_eqS, ↓w_eqT2, ↓w_abs, ↓w_lenT, ↓w_lenS, ↓w_max, ↓w_min, ↓w_intT, ↓w_intF, ↓w_isBool, ↓w_isTup, ↓w_tupT, ↓w_listT, ↓w_cutT, ↓brw_t, ↓brw_f, ↓brz_t, ↓brz_f, List.getElem?_cons_zero, List.getElem?_cons_succ, List.set_cons_zero, List.set_cons_succ, List.length_cons, List.length_nil, List.map_cons, List.map_nil, List.replicate, List.cons_append, List.nil_append, small, Nat.reduceAdd, Nat.reduceLeDiff, Nat.reduceEqDiff, Int.cast_ofNat_Int, Int.reduceBEq, BEq.rfl, ↓w_Yes, ↓w_bTru, ↓augF_ok, ↓z_Put, ↓putF_ok, ↓putG_ok, ↓w_isNn, ↓w_isNt, wipeF_nil, wipeF_cons, Int.reduceLE, Int.reduceLT, Int.reduceToNat, Int.reducePow, Int.reduceNeg, Int.reduceSub, Int.reduceAdd, Int.reduceMul, decide_true, decide_false, Bool.not_true, Bool.not_false, Bool.bne_false, Bool.bne_true, ↓w_aStar, ↓w_stT, ↓kSt_ok, ↓w_aDef, ↓kDf_ok, ↓w_Cnt, ↓w_Ext, ↓w_isBB, ↓w_isIB, w_rep l3 (i := 0) (by simp [small]), List.flatten_nil, w_addL l5 l4 (show small ((F.map dq).length + ([] : List D).length) = true from decide_eq_true (by simp; omega))]
      refine k mid _ _ (((gr.trans (Gr.app _ _)).trans (Gr.app _ _)).trans (Gr.app _ _)) ?_ ?_ (by omega) pt
      · have := gr.len
        simp
        omega
      · rw [lst_new]
        simp [ptl, he', hF]
    | false =>
      have he' : ¬ s.e = s.b := of_decide_eq_false he
      simp only [↓w_ok, ↓kB_ok, ↓kI_ok, ↓w_K, ↓w_V, ↓w_vR, ↓w_Op, ↓kO1_ok, ↓kO2_ok, ↓w_Un, ↓w_bOf, ↓w_isB, ↓kBl_ok, ↓kBl_exc, ↓kIf_ok, ↓kIf_exc, ↓w_okB, ↓w_okD, ↓w_bAnd, ↓w_bOr, ↓w_bNot, ↓kNot_ok, ↓kNot_exc, ↓w_eAnd, ↓w_eOr, ↓w_eNot, ↓kNotV_ok, ↓w_eIf, ↓w_aNil, ↓w_aCons, ↓kA1_ok, ↓kA2_ok, ↓kA1_exc, ↓kA2_exc, ↓w_Tup, ↓w_Lst, ↓w_mkT, ↓w_mkL, ↓w_Dct, ↓w_Call, ↓w_goS, ↓w_Bi, ↓w_Isi, ↓w_Cut, ↓kC1_ok, ↓kC2_ok, ↓kC3_ok, ↓w_oNone, ↓w_oSome, ↓w_vO, ↓w_Chain, ↓kCh1_ok, ↓kCh2_ok, ↓kCh3_ok, ↓w_chA, ↓w_App, ↓w_Ins, ↓w_insG, ↓z_nx, ↓z_End, ↓z_Seq, ↓kT_nx, ↓kT_rt, ↓kT_bk, ↓kT_ct, ↓kT_exc, ↓z_If, ↓kIfS_ok, ↓kIfS_exc, ↓z_Ret, ↓kRet_ok, ↓kRet_exc, ↓z_Expr, ↓kNx_ok, ↓kNx_exc, ↓z_Asg, ↓kAs_ok, ↓kAs_exc, ↓z_tgO, t_N, t_T, t_nil, t_cons, t_G, t_gnil, t_gcons, t_bind, ↓z_Par, ↓kPar_ok, ↓z_Raise, ↓z_Break, ↓z_Cont, ↓z_For, ↓kSrc_ok, ↓w_Range, ↓w_rgF, ↓w_SeqI, ↓w_sqT, ↓w_Zip, ↓w_zpT, ↓w_Comp, ↓kCo_ok, ↓w_of, ↓kF_rt, ↓kF_nx, ↓kF_exc, ↓w_add, ↓w_sub, ↓w_pow10, ↓w_neg, ↓w_lt, ↓w_le, ↓w_gt, ↓w_ge, ↓w_ix0, ↓w_ix1, ↓w_ix2, ↓w_ix3, ↓w_eqI, ↓w_eqS, ↓w_eqT2, ↓w_abs, ↓w_lenT, ↓w_lenS, ↓w_max, ↓w_min, ↓w_intT, ↓w_intF, ↓w_isBool, ↓w_isTup, ↓w_tupT, ↓w_listT, ↓w_cutT, ↓brw_t, ↓brw_f, ↓brz_t, ↓brz_f, List.getElem?_cons_zero, List.getElem?_cons_succ, List.set_cons_zero, List.set_cons_succ, List.length_cons, List.length_nil, List.map_cons, List.map_nil, List.replicate, List.cons_append, List.nil_append, small, Nat.reduceAdd, Nat.reduceLeDiff, Nat.reduceEqDiff, Int.cast_ofNat_Int, Int.reduceBEq, BEq.rfl, ↓w_Yes, ↓w_bTru, ↓augF_ok, ↓z_Put, ↓putF_ok, ↓putG_ok, ↓w_isNn, ↓w_isNt, wipeF_nil, wipeF_cons, Int.reduceLE, Int.reduceLT, Int.reduceToNat, Int.reducePow, Int.reduceNeg, Int.reduceSub, Int.reduceAdd, Int.reduceMul, decide_true, decide_false, Bool.not_true, Bool.not_false, Bool.bne_false, Bool.bne_true, ↓w_aStar, ↓w_stT, ↓kSt_ok, ↓w_aDef, ↓kDf_ok, ↓w_Cnt, ↓w_Ext, ↓w_isBB, ↓w_isIB, beq_q, he]
      have l4 := lst_new (h2 ++ [.lst [dq s.e]]) [dq s.e]
      have l5 : lstAt (h2 ++ [.lst [dq s.e]] ++ [.lst [dq s.e]]) h.length = some (F.map dq) := lstAt_app (lstAt_app lm _) _
      simp only [↓w_ok, ↓kB_ok, ↓kI_ok, ↓w_K, ↓w_V, ↓w_vR, ↓w_Op, ↓kO1_ok, ↓kO2_ok, ↓w_Un, ↓w_bOf, ↓w_isB, ↓kBl_ok, ↓kBl_exc, ↓kIf_ok, ↓kIf_exc, ↓w_okB, ↓w_okD, ↓w_bAnd, ↓w_bOr, ↓w_bNot, ↓kNot_ok, ↓kNot_exc, ↓w_eAnd, ↓w_eOr, ↓w_eNot, ↓kNotV_ok, ↓w_eIf, ↓w_aNil, ↓w_aCons, ↓kA1_ok, ↓kA2_ok, ↓kA1_exc, ↓kA2_exc, ↓w_Tup, ↓w_Lst, ↓w_mkT, ↓w_mkL, ↓w_Dct, ↓w_Call, ↓w_goS, ↓w_Bi, ↓w_Isi, ↓w_Cut, ↓kC1_ok, ↓kC2_ok, ↓kC3_ok, ↓w_oNone, ↓w_oSome, ↓w_vO, ↓w_Chain, ↓kCh1_ok, ↓kCh2_ok, ↓kCh3_ok, ↓w_chA, ↓w_App, ↓w_Ins, ↓w_insG, ↓z_nx, ↓z_End, ↓z_Seq, ↓kT_nx, ↓kT_rt, ↓kT_bk, ↓kT_ct, ↓kT_exc, ↓z_If, ↓kIfS_ok, ↓kIfS_exc, ↓z_Ret, ↓kRet_ok, ↓kRet_exc, ↓z_Expr, ↓kNx_ok, ↓kNx_exc, ↓z_Asg, ↓kAs_ok, ↓kAs_exc, ↓z_tgO, t_N, t_T, t_nil, t_cons, t_G, t_gnil, t_gcons, t_bind, ↓z_Par, ↓kPar_ok, ↓z_Raise, ↓z_Break, ↓z_Cont, ↓z_For, ↓kSrc_ok, ↓w_Range, ↓w_rgF, ↓w_SeqI, ↓w_sqT, ↓w_Zip, ↓w_zpT, ↓w_Comp, ↓kCo_ok, ↓w_of, ↓kF_rt, ↓kF_nx, ↓kF_exc, ↓w_add, ↓w_sub, ↓w_pow10, ↓w_neg, ↓w_lt, ↓w_le, ↓w_gt, ↓w_ge, ↓w_ix0, ↓w_ix1, ↓w_ix2, ↓w_ix3, ↓w_eqI, ↓w_eqS, ↓w_eqT2, ↓w_abs, ↓w_lenT, ↓w_lenS, ↓w_max, ↓w_min, ↓w_intT, ↓w_intF, ↓w_isBool, ↓w_isTup, ↓w_tupT, ↓w_listT, ↓w_cutT, ↓brw_t, ↓brw_f, ↓brz_t, ↓brz_f, List.getElem?_cons_zero, List.getElem?_cons_succ, List.set_cons_zero, List.set_cons_succ, List.length_cons, List.length_nil, List.map_cons, List.map_nil, List.replicate, List.cons_append, List.nil_append, small, Nat.reduceAdd, Nat.reduceLeDiff, Nat.reduceEqDiff, Int.cast_ofNat_Int, Int.reduceBEq, BEq.rfl, ↓w_Yes, ↓w_bTru, ↓augF_ok, ↓z_Put, ↓putF_ok, ↓putG_ok, ↓w_isNn, ↓w_isNt, wipeF_nil, wipeF_cons, Int.reduceLE, Int.reduceLT, Int.reduceToNat, Int.reducePow, Int.reduceNeg, Int.reduceSub, Int.reduceAdd, Int.reduceMul, decide_true, decide_false, Bool.not_true, Bool.not_false, Bool.bne_false, Bool.bne_true, ↓w_aStar, ↓w_stT, ↓kSt_ok, ↓w_aDef, ↓kDf_ok, ↓w_Cnt, ↓w_Ext, ↓w_isBB, ↓w_isIB, w_rep l3 (i := 1) (by simp [small]), List.flatten_cons, List.flatten_nil, List.append_nil, w_addL l5 l4 (show small ((F.map dq).length + [dq s.e].length) = true from decide_eq_true (by simp; omega))]
      refine k mid _ _ (((gr.trans (Gr.app _ _)).trans (Gr.app _ _)).trans (Gr.app _ _)) ?_ ?_ (by omega) pt
      · have := gr.len
        simp
        omega
      · rw [lst_new]
        simp [ptl, he', hF]
end
end MI
end

section
set_option Elab.async false
set_option linter.all false
set_option autoImplicit false
set_option maxRecDepth 100000
set_option exponentiation.threshold 20000
set_option maxHeartbeats 4000000
/-! lines, conditions, roots, marks -/
open PySem L2
namespace MI
structure Ln where
  a : Qp
  b : Qp
abbrev dln (l : Ln) : D := .tup [dq l.a, dq l.b]
structure LnOk (B : Nat) (l : Ln) : Prop where
  fa : Fq B l.a
  fb : Fq B l.b
abbrev Cn := Ln × Bool
abbrev dcn (c : Cn) : D := .tup [dln c.1, .bl c.2]
/-- the worth's sign: x of a line, y of it -/
def Ln.x (l : Ln) : Int := l.a.1 * l.b.2
def Ln.y (l : Ln) : Int := l.b.1 * l.a.2
def lv (x y : Int) (q : Qp) : Int := x * q.2 + y * q.1
/-! ### what the law reckons -/
def wth (l : Ln) (t : Qp) : Qp := lowQ (l.a.1 * l.b.2 * t.2 + l.b.1 * t.1 * l.a.2) (l.a.2 * l.b.2 * t.2)
section
variable {h : Hq} {Φ : Rs D → Prop} {A B : Nat} {l : Ln} {t : Qp}
theorem LnOk.bx (k : LnOk A l) : Bd (A + A) l.x := k.fa.b1.mul k.fb.b2
theorem LnOk.by_ (k : LnOk A l) : Bd (A + A) l.y := k.fb.b1.mul k.fa.b2
theorem lworth_w (k : LnOk A l) (f : Fq A t) (hA : A ≤ 2000) (kk : Φ (.ok (dq (wth l t)) h)) : W (S__law_worth [dln l, dq t] h) Φ := by
  have lt : ∀ n, n ≤ 6001 → n < 400000 := fun n h => by omega
  unfold S__law_worth
  simp only [↓w_ok, ↓kB_ok, ↓kI_ok, ↓w_K, ↓w_V, ↓w_vR, ↓w_Op, ↓kO1_ok, ↓kO2_ok, ↓w_Un, ↓w_bOf, ↓w_isB, ↓kBl_ok, ↓kBl_exc, ↓kIf_ok, ↓kIf_exc, ↓w_okB, ↓w_okD, ↓w_bAnd, ↓w_bOr, ↓w_bNot, ↓kNot_ok, ↓kNot_exc, ↓w_eAnd, ↓w_eOr, ↓w_eNot, ↓kNotV_ok, ↓w_eIf, ↓w_aNil, ↓w_aCons, ↓kA1_ok, ↓kA2_ok, ↓kA1_exc, ↓kA2_exc, ↓w_Tup, ↓w_Lst, ↓w_mkT, ↓w_mkL, ↓w_Dct, ↓w_Call, ↓w_goS, ↓w_Bi, ↓w_Isi, ↓w_Cut, ↓kC1_ok, ↓kC2_ok, ↓kC3_ok, ↓w_oNone, ↓w_oSome, ↓w_vO, ↓w_Chain, ↓kCh1_ok, ↓kCh2_ok, ↓kCh3_ok, ↓w_chA, ↓w_App, ↓w_Ins, ↓w_insG, ↓z_nx, ↓z_End, ↓z_Seq, ↓kT_nx, ↓kT_rt, ↓kT_bk, ↓kT_ct, ↓kT_exc, ↓z_If, ↓kIfS_ok, ↓kIfS_exc, ↓z_Ret, ↓kRet_ok, ↓kRet_exc, ↓z_Expr, ↓kNx_ok, ↓kNx_exc, ↓z_Asg, ↓kAs_ok, ↓kAs_exc, ↓z_tgO, t_N, t_T, t_nil, t_cons, t_G, t_gnil, t_gcons, t_bind, ↓z_Par, ↓kPar_ok, ↓z_Raise, ↓z_Break, ↓z_Cont, ↓z_For, ↓kSrc_ok, ↓w_Range, ↓w_rgF, ↓w_SeqI, ↓w_sqT, ↓w_Zip, ↓w_zpT, ↓w_Comp, ↓kCo_ok, ↓w_of, ↓kF_rt, ↓kF_nx, ↓kF_exc, ↓w_add, ↓w_sub, ↓w_pow10, ↓w_neg, ↓w_lt, ↓w_le, ↓w_gt, ↓w_ge, ↓w_ix0, ↓w_ix1, ↓w_ix2, ↓w_ix3, ↓w_eqI, ↓w_eqS, ↓w_eqT2, ↓w_abs, ↓w_lenT, ↓w_lenS, ↓w_max, ↓w_min, ↓w_intT, ↓w_intF, ↓w_isBool, ↓w_isTup, ↓w_tupT, ↓w_listT, ↓w_cutT, ↓brw_t, ↓brw_f, ↓brz_t, ↓brz_f, List.getElem?_cons_zero, List.getElem?_cons_succ, List.set_cons_zero, List.set_cons_succ, List.length_cons, List.length_nil, List.map_cons, List.map_nil, List.replicate, List.cons_append, List.nil_append, small, Nat.reduceAdd, Nat.reduceLeDiff, Nat.reduceEqDiff, Int.cast_ofNat_Int, Int.reduceBEq, BEq.rfl, ↓w_Yes, ↓w_bTru, ↓augF_ok, ↓z_Put, ↓putF_ok, ↓putG_ok, ↓w_isNn, ↓w_isNt, wipeF_nil, wipeF_cons, Int.reduceLE, Int.reduceLT, Int.reduceToNat, Int.reducePow, Int.reduceNeg, Int.reduceSub, Int.reduceAdd, Int.reduceMul, decide_true, decide_false, Bool.not_true, Bool.not_false, Bool.bne_false, Bool.bne_true, ↓w_aStar, ↓w_stT, ↓kSt_ok, ↓w_aDef, ↓kDf_ok, ↓w_Cnt, ↓w_Ext, ↓w_isBB, ↓w_isIB, w_mul (k.fa.b1.mk k.fb.b2 (lt _ (by omega)) (lt _ (by omega))), w_mul ((k.fa.b1.mul k.fb.b2).mk f.b2 (lt _ (by omega)) (lt _ (by omega))), w_mul (k.fb.b1.mk f.b1 (lt _ (by omega)) (lt _ (by omega))), w_mul ((k.fb.b1.mul f.b1).mk k.fa.b2 (lt _ (by omega)) (lt _ (by omega))),
    w_mul (k.fa.b2.mk k.fb.b2 (lt _ (by omega)) (lt _ (by omega))), w_mul ((k.fa.b2.mul k.fb.b2).mk f.b2 (lt _ (by omega)) (lt _ (by omega)))]
  have p1 := Int.mul_pos (show 0 < l.a.2 by have := k.fa.pos; omega) (show 0 < l.b.2 by have := k.fb.pos; omega)
  have p2 := Int.mul_pos p1 (show 0 < t.2 by have := f.pos; omega)
  refine low_w p2 ((k.fa.b2.mul k.fb.b2).mul f.b2) (by omega) ?_
  simp only [↓w_ok, ↓kB_ok, ↓kI_ok, ↓w_K, ↓w_V, ↓w_vR, ↓w_Op, ↓kO1_ok, ↓kO2_ok, ↓w_Un, ↓w_bOf, ↓w_isB, ↓kBl_ok, ↓kBl_exc, ↓kIf_ok, ↓kIf_exc, ↓w_okB, ↓w_okD, ↓w_bAnd, ↓w_bOr, ↓w_bNot, ↓kNot_ok, ↓kNot_exc, ↓w_eAnd, ↓w_eOr, ↓w_eNot, ↓kNotV_ok, ↓w_eIf, ↓w_aNil, ↓w_aCons, ↓kA1_ok, ↓kA2_ok, ↓kA1_exc, ↓kA2_exc, ↓w_Tup, ↓w_Lst, ↓w_mkT, ↓w_mkL, ↓w_Dct, ↓w_Call, ↓w_goS, ↓w_Bi, ↓w_Isi, ↓w_Cut, ↓kC1_ok, ↓kC2_ok, ↓kC3_ok, ↓w_oNone, ↓w_oSome, ↓w_vO, ↓w_Chain, ↓kCh1_ok, ↓kCh2_ok, ↓kCh3_ok, ↓w_chA, ↓w_App, ↓w_Ins, ↓w_insG, ↓z_nx, ↓z_End, ↓z_Seq, ↓kT_nx, ↓kT_rt, ↓kT_bk, ↓kT_ct, ↓kT_exc, ↓z_If, ↓kIfS_ok, ↓kIfS_exc, ↓z_Ret, ↓kRet_ok, ↓kRet_exc, ↓z_Expr, ↓kNx_ok, ↓kNx_exc, ↓z_Asg, ↓kAs_ok, ↓kAs_exc, ↓z_tgO, t_N, t_T, t_nil, t_cons, t_G, t_gnil, t_gcons, t_bind, ↓z_Par, ↓kPar_ok, ↓z_Raise, ↓z_Break, ↓z_Cont, ↓z_For, ↓kSrc_ok, ↓w_Range, ↓w_rgF, ↓w_SeqI, ↓w_sqT, ↓w_Zip, ↓w_zpT, ↓w_Comp, ↓kCo_ok, ↓w_of, ↓kF_rt, ↓kF_nx, ↓kF_exc, ↓w_add, ↓w_sub, ↓w_pow10, ↓w_neg, ↓w_lt, ↓w_le, ↓w_gt, ↓w_ge, ↓w_ix0, ↓w_ix1, ↓w_ix2, ↓w_ix3, ↓w_eqI, ↓w_eqS, ↓w_eqT2, ↓w_abs, ↓w_lenT, ↓w_lenS, ↓w_max, ↓w_min, ↓w_intT, ↓w_intF, ↓w_isBool, ↓w_isTup, ↓w_tupT, ↓w_listT, ↓w_cutT, ↓brw_t, ↓brw_f, ↓brz_t, ↓brz_f, List.getElem?_cons_zero, List.getElem?_cons_succ, List.set_cons_zero, List.set_cons_succ, List.length_cons, List.length_nil, List.map_cons, List.map_nil, List.replicate, List.cons_append, List.nil_append, small, Nat.reduceAdd, Nat.reduceLeDiff, Nat.reduceEqDiff, Int.cast_ofNat_Int, Int.reduceBEq, BEq.rfl, ↓w_Yes, ↓w_bTru, ↓augF_ok, ↓z_Put, ↓putF_ok, ↓putG_ok, ↓w_isNn, ↓w_isNt, wipeF_nil, wipeF_cons, Int.reduceLE, Int.reduceLT, Int.reduceToNat, Int.reducePow, Int.reduceNeg, Int.reduceSub, Int.reduceAdd, Int.reduceMul, decide_true, decide_false, Bool.not_true, Bool.not_false, Bool.bne_false, Bool.bne_true, ↓w_aStar, ↓w_stT, ↓kSt_ok, ↓w_aDef, ↓kDf_ok, ↓w_Cnt, ↓w_Ext, ↓w_isBB, ↓w_isIB]
  exact kk
/-- .. and the program -/
theorem worth_same (k : LnOk A l) (f : Fq A t) : lowQ (l.a.1 * (lowQ (l.b.1 * t.1) (l.b.2 * t.2)).2 + (lowQ (l.b.1 * t.1) (l.b.2 * t.2)).1 * l.a.2) (l.a.2 * (lowQ (l.b.1 * t.1) (l.b.2 * t.2)).2) = wth l t := by
  have p0 : 0 < l.a.2 := by have := k.fa.pos; omega
  have p1 : 0 < l.b.2 := by have := k.fb.pos; omega
  have p2 : 0 < t.2 := by have := f.pos; omega
  have p3 := Int.mul_pos p1 p2
  have cr := lowQ_cross (x := l.b.1 * t.1) p3
  have ps := lowQ_pos (x := l.b.1 * t.1) p3
  refine lowQ_eq (Int.mul_pos p0 ps) (Int.mul_pos (Int.mul_pos p0 p1) p2) ?_
  generalize lowQ (l.b.1 * t.1) (l.b.2 * t.2) = s at *
  grind
theorem need_isq {a b : Int} (f : Fq B (a, b)) (hB : B ≤ 8000) : W (S_is_fraction [.tup [.int a, .int b]] h) Φ = Φ (.ok (.bl true) h) := by
  unfold W
  rw [isq_ok f hB]
theorem isline_w (k : LnOk A l) (hA : A ≤ 8000) (kk : ∀ h1, Gr h h1 → Φ (.ok (.bl true) h1)) : W (S_is_line [dln l] h) Φ := by
  unfold S_is_line
  simp only [↓w_ok, ↓kB_ok, ↓kI_ok, ↓w_K, ↓w_V, ↓w_vR, ↓w_Op, ↓kO1_ok, ↓kO2_ok, ↓w_Un, ↓w_bOf, ↓w_isB, ↓kBl_ok, ↓kBl_exc, ↓kIf_ok, ↓kIf_exc, ↓w_okB, ↓w_okD, ↓w_bAnd, ↓w_bOr, ↓w_bNot, ↓kNot_ok, ↓kNot_exc, ↓w_eAnd, ↓w_eOr, ↓w_eNot, ↓kNotV_ok, ↓w_eIf, ↓w_aNil, ↓w_aCons, ↓kA1_ok, ↓kA2_ok, ↓kA1_exc, ↓kA2_exc, ↓w_Tup, ↓w_Lst, ↓w_mkT, ↓w_mkL, ↓w_Dct, ↓w_Call, ↓w_goS, ↓w_Bi, ↓w_Isi, ↓w_Cut, ↓kC1_ok, ↓kC2_ok, ↓kC3_ok, ↓w_oNone, ↓w_oSome, ↓w_vO, ↓w_Chain, ↓kCh1_ok, ↓kCh2_ok, ↓kCh3_ok, ↓w_chA, ↓w_App, ↓w_Ins, ↓w_insG, ↓z_nx, ↓z_End, ↓z_Seq, ↓kT_nx, ↓kT_rt, ↓kT_bk, ↓kT_ct, ↓kT_exc, ↓z_If, ↓kIfS_ok, ↓kIfS_exc, ↓z_Ret, ↓kRet_ok, ↓kRet_exc, ↓z_Expr, ↓kNx_ok, ↓kNx_exc, ↓z_Asg, ↓kAs_ok, ↓kAs_exc, ↓z_tgO, t_N, t_T, t_nil, t_cons, t_G, t_gnil, t_gcons, t_bind, ↓z_Par, ↓kPar_ok, ↓z_Raise, ↓z_Break, ↓z_Cont, ↓z_For, ↓kSrc_ok, ↓w_Range, ↓w_rgF, ↓w_SeqI, ↓w_sqT, ↓w_Zip, ↓w_zpT, ↓w_Comp, ↓kCo_ok, ↓w_of, ↓kF_rt, ↓kF_nx, ↓kF_exc, ↓w_add, ↓w_sub, ↓w_pow10, ↓w_neg, ↓w_lt, ↓w_le, ↓w_gt, ↓w_ge, ↓w_ix0, ↓w_ix1, ↓w_ix2, ↓w_ix3, ↓w_eqI, ↓w_eqS, ↓w_eqT2, ↓w_abs, ↓w_lenT, ↓w_lenS, ↓w_max, ↓w_min, ↓w_intT, ↓w_intF, ↓w_isBool, ↓w_isTup, ↓w_tupT, ↓w_listT, ↓w_cutT, ↓brw_t, ↓brw_f, ↓brz_t, ↓brz_f, List.getElem?_cons_zero, List.getElem?_cons_succ, List.set_cons_zero, List.set_cons_succ, List.length_cons, List.length_nil, List.map_cons, List.map_nil, List.replicate, List.cons_append, List.nil_append, small, Nat.reduceAdd, Nat.reduceLeDiff, Nat.reduceEqDiff, Int.cast_ofNat_Int, Int.reduceBEq, BEq.rfl, ↓w_Yes, ↓w_bTru, ↓augF_ok, ↓z_Put, ↓putF_ok, ↓putG_ok, ↓w_isNn, ↓w_isNt, wipeF_nil, wipeF_cons, Int.reduceLE, Int.reduceLT, Int.reduceToNat, Int.reducePow, Int.reduceNeg, Int.reduceSub, Int.reduceAdd, Int.reduceMul, decide_true, decide_false, Bool.not_true, Bool.not_false, Bool.bne_false, Bool.bne_true, ↓w_aStar, ↓w_stT, ↓kSt_ok, ↓w_aDef, ↓kDf_ok, ↓w_Cnt, ↓w_Ext, ↓w_isBB, ↓w_isIB]
  refine comp_pure [dq l.a, dq l.b] rfl (by simp) (fun i h' _ => srcT_get i h') (fun h' _ => srcT_fin h') (fun _ => true) (fun _ => .bl true) (fun d hd => ⟨_, rfl, fun h' Θ _ hΘ => by simp only [↓w_ok, ↓kB_ok, ↓kI_ok, ↓w_K, ↓w_V, ↓w_vR, ↓w_Op, ↓kO1_ok, ↓kO2_ok, ↓w_Un, ↓w_bOf, ↓w_isB, ↓kBl_ok, ↓kBl_exc, ↓kIf_ok, ↓kIf_exc, ↓w_okB, ↓w_okD, ↓w_bAnd, ↓w_bOr, ↓w_bNot, ↓kNot_ok, ↓kNot_exc, ↓w_eAnd, ↓w_eOr, ↓w_eNot, ↓kNotV_ok, ↓w_eIf, ↓w_aNil, ↓w_aCons, ↓kA1_ok, ↓kA2_ok, ↓kA1_exc, ↓kA2_exc, ↓w_Tup, ↓w_Lst, ↓w_mkT, ↓w_mkL, ↓w_Dct, ↓w_Call, ↓w_goS, ↓w_Bi, ↓w_Isi, ↓w_Cut, ↓kC1_ok, ↓kC2_ok, ↓kC3_ok, ↓w_oNone, ↓w_oSome, ↓w_vO, ↓w_Chain, ↓kCh1_ok, ↓kCh2_ok, ↓kCh3_ok, ↓w_chA, ↓w_App, ↓w_Ins, ↓w_insG, ↓z_nx, ↓z_End, ↓z_Seq, ↓kT_nx, ↓kT_rt, ↓kT_bk, ↓kT_ct, ↓kT_exc, ↓z_If, ↓kIfS_ok, ↓kIfS_exc, ↓z_Ret, ↓kRet_ok, ↓kRet_exc, ↓z_Expr, ↓kNx_ok, ↓kNx_exc, ↓z_Asg, ↓kAs_ok, ↓kAs_exc, ↓z_tgO, t_N, t_T, t_nil, t_cons, t_G, t_gnil, t_gcons, t_bind, ↓z_Par, ↓kPar_ok, ↓z_Raise, ↓z_Break, ↓z_Cont, ↓z_For, ↓kSrc_ok, ↓w_Range, ↓w_rgF, ↓w_SeqI, ↓w_sqT, ↓w_Zip, ↓w_zpT, ↓w_Comp, ↓kCo_ok, ↓w_of, ↓kF_rt, ↓kF_nx, ↓kF_exc, ↓w_add, ↓w_sub, ↓w_pow10, ↓w_neg, ↓w_lt, ↓w_le, ↓w_gt, ↓w_ge, ↓w_ix0, ↓w_ix1, ↓w_ix2, ↓w_ix3, ↓w_eqI, ↓w_eqS, ↓w_eqT2, ↓w_abs, ↓w_lenT, ↓w_lenS, ↓w_max, ↓w_min, ↓w_intT, ↓w_intF, ↓w_isBool, ↓w_isTup, ↓w_tupT, ↓w_listT, ↓w_cutT, ↓brw_t, ↓brw_f, ↓brz_t, ↓brz_f, List.getElem?_cons_zero, List.getElem?_cons_succ, List.set_cons_zero, List.set_cons_succ, List.length_cons, List.length_nil, List.map_cons, List.map_nil, List.replicate, List.cons_append, List.nil_append, small, Nat.reduceAdd, Nat.reduceLeDiff, Nat.reduceEqDiff, Int.cast_ofNat_Int, Int.reduceBEq, BEq.rfl, ↓w_Yes, ↓w_bTru, ↓augF_ok, ↓z_Put, ↓putF_ok, ↓putG_ok, ↓w_isNn, ↓w_isNt, wipeF_nil, wipeF_cons, Int.reduceLE, Int.reduceLT, Int.reduceToNat, Int.reducePow, Int.reduceNeg, Int.reduceSub, Int.reduceAdd, Int.reduceMul, decide_true, decide_false, Bool.not_true, Bool.not_false, Bool.bne_false, Bool.bne_true, ↓w_aStar, ↓w_stT, ↓kSt_ok, ↓w_aDef, ↓kDf_ok, ↓w_Cnt, ↓w_Ext, ↓w_isBB, ↓w_isIB]; exact hΘ h' (Gr.refl _), fun _ h' Ψ _ hΨ => ?_⟩) fun T => ?_
  · simp at hd
    rcases hd with rfl | rfl
    · simp only [↓w_ok, ↓kB_ok, ↓kI_ok, ↓w_K, ↓w_V, ↓w_vR, ↓w_Op, ↓kO1_ok, ↓kO2_ok, ↓w_Un, ↓w_bOf, ↓w_isB, ↓kBl_ok, ↓kBl_exc, ↓kIf_ok, ↓kIf_exc, ↓w_okB, ↓w_okD, ↓w_bAnd, ↓w_bOr, ↓w_bNot, ↓kNot_ok, ↓kNot_exc, ↓w_eAnd, ↓w_eOr, ↓w_eNot, ↓kNotV_ok, ↓w_eIf, ↓w_aNil, ↓w_aCons, ↓kA1_ok, ↓kA2_ok, ↓kA1_exc, ↓kA2_exc, ↓w_Tup, ↓w_Lst, ↓w_mkT, ↓w_mkL, ↓w_Dct, ↓w_Call, ↓w_goS, ↓w_Bi, ↓w_Isi, ↓w_Cut, ↓kC1_ok, ↓kC2_ok, ↓kC3_ok, ↓w_oNone, ↓w_oSome, ↓w_vO, ↓w_Chain, ↓kCh1_ok, ↓kCh2_ok, ↓kCh3_ok, ↓w_chA, ↓w_App, ↓w_Ins, ↓w_insG, ↓z_nx, ↓z_End, ↓z_Seq, ↓kT_nx, ↓kT_rt, ↓kT_bk, ↓kT_ct, ↓kT_exc, ↓z_If, ↓kIfS_ok, ↓kIfS_exc, ↓z_Ret, ↓kRet_ok, ↓kRet_exc, ↓z_Expr, ↓kNx_ok, ↓kNx_exc, ↓z_Asg, ↓kAs_ok, ↓kAs_exc, ↓z_tgO, t_N, t_T, t_nil, t_cons, t_G, t_gnil, t_gcons, t_bind, ↓z_Par, ↓kPar_ok, ↓z_Raise, ↓z_Break, ↓z_Cont, ↓z_For, ↓kSrc_ok, ↓w_Range, ↓w_rgF, ↓w_SeqI, ↓w_sqT, ↓w_Zip, ↓w_zpT, ↓w_Comp, ↓kCo_ok, ↓w_of, ↓kF_rt, ↓kF_nx, ↓kF_exc, ↓w_add, ↓w_sub, ↓w_pow10, ↓w_neg, ↓w_lt, ↓w_le, ↓w_gt, ↓w_ge, ↓w_ix0, ↓w_ix1, ↓w_ix2, ↓w_ix3, ↓w_eqI, ↓w_eqS, ↓w_eqT2, ↓w_abs, ↓w_lenT, ↓w_lenS, ↓w_max, ↓w_min, ↓w_intT, ↓w_intF, ↓w_isBool, ↓w_isTup, ↓w_tupT, ↓w_listT, ↓w_cutT, ↓brw_t, ↓brw_f, ↓brz_t, ↓brz_f, List.getElem?_cons_zero, List.getElem?_cons_succ, List.set_cons_zero, List.set_cons_succ, List.length_cons, List.length_nil, List.map_cons, List.map_nil, List.replicate, List.cons_append, List.nil_append, small, Nat.reduceAdd, Nat.reduceLeDiff, Nat.reduceEqDiff, Int.cast_ofNat_Int, Int.reduceBEq, BEq.rfl, ↓w_Yes, ↓w_bTru, ↓augF_ok, ↓z_Put, ↓putF_ok, ↓putG_ok, ↓w_isNn, ↓w_isNt, wipeF_nil, wipeF_cons, Int.reduceLE, Int.reduceLT, Int.reduceToNat, Int.reducePow, Int.reduceNeg, Int.reduceSub, Int.reduceAdd, Int.reduceMul, decide_true, decide_false, Bool.not_true, Bool.not_false, Bool.bne_false, Bool.bne_true, ↓w_aStar, ↓w_stT, ↓kSt_ok, ↓w_aDef, ↓kDf_ok, ↓w_Cnt, ↓w_Ext, ↓w_isBB, ↓w_isIB, need_isq k.fa hA]
      exact hΨ h' (Gr.refl _)
    · simp only [↓w_ok, ↓kB_ok, ↓kI_ok, ↓w_K, ↓w_V, ↓w_vR, ↓w_Op, ↓kO1_ok, ↓kO2_ok, ↓w_Un, ↓w_bOf, ↓w_isB, ↓kBl_ok, ↓kBl_exc, ↓kIf_ok, ↓kIf_exc, ↓w_okB, ↓w_okD, ↓w_bAnd, ↓w_bOr, ↓w_bNot, ↓kNot_ok, ↓kNot_exc, ↓w_eAnd, ↓w_eOr, ↓w_eNot, ↓kNotV_ok, ↓w_eIf, ↓w_aNil, ↓w_aCons, ↓kA1_ok, ↓kA2_ok, ↓kA1_exc, ↓kA2_exc, ↓w_Tup, ↓w_Lst, ↓w_mkT, ↓w_mkL, ↓w_Dct, ↓w_Call, ↓w_goS, ↓w_Bi, ↓w_Isi, ↓w_Cut, ↓kC1_ok, ↓kC2_ok, ↓kC3_ok, ↓w_oNone, ↓w_oSome, ↓w_vO, ↓w_Chain, ↓kCh1_ok, ↓kCh2_ok, ↓kCh3_ok, ↓w_chA, ↓w_App, ↓w_Ins, ↓w_insG, ↓z_nx, ↓z_End, ↓z_Seq, ↓kT_nx, ↓kT_rt, ↓kT_bk, ↓kT_ct, ↓kT_exc, ↓z_If, ↓kIfS_ok, ↓kIfS_exc, ↓z_Ret, ↓kRet_ok, ↓kRet_exc, ↓z_Expr, ↓kNx_ok, ↓kNx_exc, ↓z_Asg, ↓kAs_ok, ↓kAs_exc, ↓z_tgO, t_N, t_T, t_nil, t_cons, t_G, t_gnil, t_gcons, t_bind, ↓z_Par, ↓kPar_ok, ↓z_Raise, ↓z_Break, ↓z_Cont, ↓z_For, ↓kSrc_ok, ↓w_Range, ↓w_rgF, ↓w_SeqI, ↓w_sqT, ↓w_Zip, ↓w_zpT, ↓w_Comp, ↓kCo_ok, ↓w_of, ↓kF_rt, ↓kF_nx, ↓kF_exc, ↓w_add, ↓w_sub, ↓w_pow10, ↓w_neg, ↓w_lt, ↓w_le, ↓w_gt, ↓w_ge, ↓w_ix0, ↓w_ix1, ↓w_ix2, ↓w_ix3, ↓w_eqI, ↓w_eqS, ↓w_eqT2, ↓w_abs, ↓w_lenT, ↓w_lenS, ↓w_max, ↓w_min, ↓w_intT, ↓w_intF, ↓w_isBool, ↓w_isTup, ↓w_tupT, ↓w_listT, ↓w_cutT, ↓brw_t, ↓brw_f, ↓brz_t, ↓brz_f, List.getElem?_cons_zero, List.getElem?_cons_succ, List.set_cons_zero, List.set_cons_succ, List.length_cons, List.length_nil, List.map_cons, List.map_nil, List.replicate, List.cons_append, List.nil_append, small, Nat.reduceAdd, Nat.reduceLeDiff, Nat.reduceEqDiff, Int.cast_ofNat_Int, Int.reduceBEq, BEq.rfl, ↓w_Yes, ↓w_bTru, ↓augF_ok, ↓z_Put, ↓putF_ok, ↓putG_ok, ↓w_isNn, ↓w_isNt, wipeF_nil, wipeF_cons, Int.reduceLE, Int.reduceLT, Int.reduceToNat, Int.reducePow, Int.reduceNeg, Int.reduceSub, Int.reduceAdd, Int.reduceMul, decide_true, decide_false, Bool.not_true, Bool.not_false, Bool.bne_false, Bool.bne_true, ↓w_aStar, ↓w_stT, ↓kSt_ok, ↓w_aDef, ↓kDf_ok, ↓w_Cnt, ↓w_Ext, ↓w_isBB, ↓w_isIB, need_isq k.fb hA]
      exact hΨ h' (Gr.refl _)
  · have e := lst_mid h [D.bl true, D.bl true] T
    simp only [↓w_ok, ↓kB_ok, ↓kI_ok, ↓w_K, ↓w_V, ↓w_vR, ↓w_Op, ↓kO1_ok, ↓kO2_ok, ↓w_Un, ↓w_bOf, ↓w_isB, ↓kBl_ok, ↓kBl_exc, ↓kIf_ok, ↓kIf_exc, ↓w_okB, ↓w_okD, ↓w_bAnd, ↓w_bOr, ↓w_bNot, ↓kNot_ok, ↓kNot_exc, ↓w_eAnd, ↓w_eOr, ↓w_eNot, ↓kNotV_ok, ↓w_eIf, ↓w_aNil, ↓w_aCons, ↓kA1_ok, ↓kA2_ok, ↓kA1_exc, ↓kA2_exc, ↓w_Tup, ↓w_Lst, ↓w_mkT, ↓w_mkL, ↓w_Dct, ↓w_Call, ↓w_goS, ↓w_Bi, ↓w_Isi, ↓w_Cut, ↓kC1_ok, ↓kC2_ok, ↓kC3_ok, ↓w_oNone, ↓w_oSome, ↓w_vO, ↓w_Chain, ↓kCh1_ok, ↓kCh2_ok, ↓kCh3_ok, ↓w_chA, ↓w_App, ↓w_Ins, ↓w_insG, ↓z_nx, ↓z_End, ↓z_Seq, ↓kT_nx, ↓kT_rt, ↓kT_bk, ↓kT_ct, ↓kT_exc, ↓z_If, ↓kIfS_ok, ↓kIfS_exc, ↓z_Ret, ↓kRet_ok, ↓kRet_exc, ↓z_Expr, ↓kNx_ok, ↓kNx_exc, ↓z_Asg, ↓kAs_ok, ↓kAs_exc, ↓z_tgO, t_N, t_T, t_nil, t_cons, t_G, t_gnil, t_gcons, t_bind, ↓z_Par, ↓kPar_ok, ↓z_Raise, ↓z_Break, ↓z_Cont, ↓z_For, ↓kSrc_ok, ↓w_Range, ↓w_rgF, ↓w_SeqI, ↓w_sqT, ↓w_Zip, ↓w_zpT, ↓w_Comp, ↓kCo_ok, ↓w_of, ↓kF_rt, ↓kF_nx, ↓kF_exc, ↓w_add, ↓w_sub, ↓w_pow10, ↓w_neg, ↓w_lt, ↓w_le, ↓w_gt, ↓w_ge, ↓w_ix0, ↓w_ix1, ↓w_ix2, ↓w_ix3, ↓w_eqI, ↓w_eqS, ↓w_eqT2, ↓w_abs, ↓w_lenT, ↓w_lenS, ↓w_max, ↓w_min, ↓w_intT, ↓w_intF, ↓w_isBool, ↓w_isTup, ↓w_tupT, ↓w_listT, ↓w_cutT, ↓brw_t, ↓brw_f, ↓brz_t, ↓brz_f, List.getElem?_cons_zero, List.getElem?_cons_succ, List.set_cons_zero, List.set_cons_succ, List.length_cons, List.length_nil, List.map_cons, List.map_nil, List.replicate, List.cons_append, List.nil_append, small, Nat.reduceAdd, Nat.reduceLeDiff, Nat.reduceEqDiff, Int.cast_ofNat_Int, Int.reduceBEq, BEq.rfl, ↓w_Yes, ↓w_bTru, ↓augF_ok, ↓z_Put, ↓putF_ok, ↓putG_ok, ↓w_isNn, ↓w_isNt, wipeF_nil, wipeF_cons, Int.reduceLE, Int.reduceLT, Int.reduceToNat, Int.reducePow, Int.reduceNeg, Int.reduceSub, Int.reduceAdd, Int.reduceMul, decide_true, decide_false, Bool.not_true, Bool.not_false, Bool.bne_false, Bool.bne_true, ↓w_aStar, ↓w_stT, ↓kSt_ok, ↓w_aDef, ↓kDf_ok, ↓w_Cnt, ↓w_Ext, ↓w_isBB, ↓w_isIB]
    refine W.of (show gAll [D.ref h.length] (h ++ [Cell.lst [D.bl true, D.bl true]] ++ T) = .ok (.bl true) _ by unfold gAll; simp only [e]; rfl) ?_
    exact kk _ ⟨[Cell.lst [D.bl true, D.bl true]] ++ T, by simp⟩
theorem needcn_w {c : Cn} (k : LnOk A c.1) (hA : A ≤ 8000) (kk : ∀ h1, Gr h h1 → Φ (.ok .non h1)) : W (S_need_condition [dcn c] h) Φ := by
  unfold S_need_condition S_is_condition
  simp only [↓w_ok, ↓kB_ok, ↓kI_ok, ↓w_K, ↓w_V, ↓w_vR, ↓w_Op, ↓kO1_ok, ↓kO2_ok, ↓w_Un, ↓w_bOf, ↓w_isB, ↓kBl_ok, ↓kBl_exc, ↓kIf_ok, ↓kIf_exc, ↓w_okB, ↓w_okD, ↓w_bAnd, ↓w_bOr, ↓w_bNot, ↓kNot_ok, ↓kNot_exc, ↓w_eAnd, ↓w_eOr, ↓w_eNot, ↓kNotV_ok, ↓w_eIf, ↓w_aNil, ↓w_aCons, ↓kA1_ok, ↓kA2_ok, ↓kA1_exc, ↓kA2_exc, ↓w_Tup, ↓w_Lst, ↓w_mkT, ↓w_mkL, ↓w_Dct, ↓w_Call, ↓w_goS, ↓w_Bi, ↓w_Isi, ↓w_Cut, ↓kC1_ok, ↓kC2_ok, ↓kC3_ok, ↓w_oNone, ↓w_oSome, ↓w_vO, ↓w_Chain, ↓kCh1_ok, ↓kCh2_ok, ↓kCh3_ok, ↓w_chA, ↓w_App, ↓w_Ins, ↓w_insG, ↓z_nx, ↓z_End, ↓z_Seq, ↓kT_nx, ↓kT_rt, ↓kT_bk, ↓kT_ct, ↓kT_exc, ↓z_If, ↓kIfS_ok, ↓kIfS_exc, ↓z_Ret, ↓kRet_ok, ↓kRet_exc, ↓z_Expr, ↓kNx_ok, ↓kNx_exc, ↓z_Asg, ↓kAs_ok, ↓kAs_exc, ↓z_tgO, t_N, t_T, t_nil, t_cons, t_G, t_gnil, t_gcons, t_bind, ↓z_Par, ↓kPar_ok, ↓z_Raise, ↓z_Break, ↓z_Cont, ↓z_For, ↓kSrc_ok, ↓w_Range, ↓w_rgF, ↓w_SeqI, ↓w_sqT, ↓w_Zip, ↓w_zpT, ↓w_Comp, ↓kCo_ok, ↓w_of, ↓kF_rt, ↓kF_nx, ↓kF_exc, ↓w_add, ↓w_sub, ↓w_pow10, ↓w_neg, ↓w_lt, ↓w_le, ↓w_gt, ↓w_ge, ↓w_ix0, ↓w_ix1, ↓w_ix2, ↓w_ix3, ↓w_eqI, ↓w_eqS, ↓w_eqT2, ↓w_abs, ↓w_lenT, ↓w_lenS, ↓w_max, ↓w_min, ↓w_intT, ↓w_intF, ↓w_isBool, ↓w_isTup, ↓w_tupT, ↓w_listT, ↓w_cutT, ↓brw_t, ↓brw_f, ↓brz_t, ↓brz_f, List.getElem?_cons_zero, List.getElem?_cons_succ, List.set_cons_zero, List.set_cons_succ, List.length_cons, List.length_nil, List.map_cons, List.map_nil, List.replicate, List.cons_append, List.nil_append, small, Nat.reduceAdd, Nat.reduceLeDiff, Nat.reduceEqDiff, Int.cast_ofNat_Int, Int.reduceBEq, BEq.rfl, ↓w_Yes, ↓w_bTru, ↓augF_ok, ↓z_Put, ↓putF_ok, ↓putG_ok, ↓w_isNn, ↓w_isNt, wipeF_nil, wipeF_cons, Int.reduceLE, Int.reduceLT, Int.reduceToNat, Int.reducePow, Int.reduceNeg, Int.reduceSub, Int.reduceAdd, Int.reduceMul, decide_true, decide_false, Bool.not_true, Bool.not_false, Bool.bne_false, Bool.bne_true, ↓w_aStar, ↓w_stT, ↓kSt_ok, ↓w_aDef, ↓kDf_ok, ↓w_Cnt, ↓w_Ext, ↓w_isBB, ↓w_isIB]
  refine isline_w k hA fun h1 g => ?_
  simp only [↓w_ok, ↓kB_ok, ↓kI_ok, ↓w_K, ↓w_V, ↓w_vR, ↓w_Op, ↓kO1_ok, ↓kO2_ok, ↓w_Un, ↓w_bOf, ↓w_isB, ↓kBl_ok, ↓kBl_exc, ↓kIf_ok, ↓kIf_exc, ↓w_okB, ↓w_okD, ↓w_bAnd, ↓w_bOr, ↓w_bNot, ↓kNot_ok, ↓kNot_exc, ↓w_eAnd, ↓w_eOr, ↓w_eNot, ↓kNotV_ok, ↓w_eIf, ↓w_aNil, ↓w_aCons, ↓kA1_ok, ↓kA2_ok, ↓kA1_exc, ↓kA2_exc, ↓w_Tup, ↓w_Lst, ↓w_mkT, ↓w_mkL, ↓w_Dct, ↓w_Call, ↓w_goS, ↓w_Bi, ↓w_Isi, ↓w_Cut, ↓kC1_ok, ↓kC2_ok, ↓kC3_ok, ↓w_oNone, ↓w_oSome, ↓w_vO, ↓w_Chain, ↓kCh1_ok, ↓kCh2_ok, ↓kCh3_ok, ↓w_chA, ↓w_App, ↓w_Ins, ↓w_insG, ↓z_nx, ↓z_End, ↓z_Seq, ↓kT_nx, ↓kT_rt, ↓kT_bk, ↓kT_ct, ↓kT_exc, ↓z_If, ↓kIfS_ok, ↓kIfS_exc, ↓z_Ret, ↓kRet_ok, ↓kRet_exc, ↓z_Expr, ↓kNx_ok, ↓kNx_exc, ↓z_Asg, ↓kAs_ok, ↓kAs_exc, ↓z_tgO, t_N, t_T, t_nil, t_cons, t_G, t_gnil, t_gcons, t_bind, ↓z_Par, ↓kPar_ok, ↓z_Raise, ↓z_Break, ↓z_Cont, ↓z_For, ↓kSrc_ok, ↓w_Range, ↓w_rgF, ↓w_SeqI, ↓w_sqT, ↓w_Zip, ↓w_zpT, ↓w_Comp, ↓kCo_ok, ↓w_of, ↓kF_rt, ↓kF_nx, ↓kF_exc, ↓w_add, ↓w_sub, ↓w_pow10, ↓w_neg, ↓w_lt, ↓w_le, ↓w_gt, ↓w_ge, ↓w_ix0, ↓w_ix1, ↓w_ix2, ↓w_ix3, ↓w_eqI, ↓w_eqS, ↓w_eqT2, ↓w_abs, ↓w_lenT, ↓w_lenS, ↓w_max, ↓w_min, ↓w_intT, ↓w_intF, ↓w_isBool, ↓w_isTup, ↓w_tupT, ↓w_listT, ↓w_cutT, ↓brw_t, ↓brw_f, ↓brz_t, ↓brz_f, List.getElem?_cons_zero, List.getElem?_cons_succ, List.set_cons_zero, List.set_cons_succ, List.length_cons, List.length_nil, List.map_cons, List.map_nil, List.replicate, List.cons_append, List.nil_append, small, Nat.reduceAdd, Nat.reduceLeDiff, Nat.reduceEqDiff, Int.cast_ofNat_Int, Int.reduceBEq, BEq.rfl, ↓w_Yes, ↓w_bTru, ↓augF_ok, ↓z_Put, ↓putF_ok, ↓putG_ok, ↓w_isNn, ↓w_isNt, wipeF_nil, wipeF_cons, Int.reduceLE, Int.reduceLT, Int.reduceToNat, Int.reducePow, Int.reduceNeg, Int.reduceSub, Int.reduceAdd, Int.reduceMul, decide_true, decide_false, Bool.not_true, Bool.not_false, Bool.bne_false, Bool.bne_true, ↓w_aStar, ↓w_stT, ↓kSt_ok, ↓w_aDef, ↓kDf_ok, ↓w_Cnt, ↓w_Ext, ↓w_isBB, ↓w_isIB]
  exact kk h1 g
theorem worth_w (k : LnOk A l) (f : Fq A t) (m : mom t) (hA : A ≤ 2000) (kk : ∀ h1, Gr h h1 → Φ (.ok (dq (wth l t)) h1)) : W (S_worth [dln l, dq t] h) Φ := by
  have lt : ∀ n, n ≤ 6001 → n < 400000 := fun n h => by omega
  unfold S_worth
  simp only [↓w_ok, ↓kB_ok, ↓kI_ok, ↓w_K, ↓w_V, ↓w_vR, ↓w_Op, ↓kO1_ok, ↓kO2_ok, ↓w_Un, ↓w_bOf, ↓w_isB, ↓kBl_ok, ↓kBl_exc, ↓kIf_ok, ↓kIf_exc, ↓w_okB, ↓w_okD, ↓w_bAnd, ↓w_bOr, ↓w_bNot, ↓kNot_ok, ↓kNot_exc, ↓w_eAnd, ↓w_eOr, ↓w_eNot, ↓kNotV_ok, ↓w_eIf, ↓w_aNil, ↓w_aCons, ↓kA1_ok, ↓kA2_ok, ↓kA1_exc, ↓kA2_exc, ↓w_Tup, ↓w_Lst, ↓w_mkT, ↓w_mkL, ↓w_Dct, ↓w_Call, ↓w_goS, ↓w_Bi, ↓w_Isi, ↓w_Cut, ↓kC1_ok, ↓kC2_ok, ↓kC3_ok, ↓w_oNone, ↓w_oSome, ↓w_vO, ↓w_Chain, ↓kCh1_ok, ↓kCh2_ok, ↓kCh3_ok, ↓w_chA, ↓w_App, ↓w_Ins, ↓w_insG, ↓z_nx, ↓z_End, ↓z_Seq, ↓kT_nx, ↓kT_rt, ↓kT_bk, ↓kT_ct, ↓kT_exc, ↓z_If, ↓kIfS_ok, ↓kIfS_exc, ↓z_Ret, ↓kRet_ok, ↓kRet_exc, ↓z_Expr, ↓kNx_ok, ↓kNx_exc, ↓z_Asg, ↓kAs_ok, ↓kAs_exc, ↓z_tgO, t_N, t_T, t_nil, t_cons, t_G, t_gnil, t_gcons, t_bind, ↓z_Par, ↓kPar_ok, ↓z_Raise, ↓z_Break, ↓z_Cont, ↓z_For, ↓kSrc_ok, ↓w_Range, ↓w_rgF, ↓w_SeqI, ↓w_sqT, ↓w_Zip, ↓w_zpT, ↓w_Comp, ↓kCo_ok, ↓w_of, ↓kF_rt, ↓kF_nx, ↓kF_exc, ↓w_add, ↓w_sub, ↓w_pow10, ↓w_neg, ↓w_lt, ↓w_le, ↓w_gt, ↓w_ge, ↓w_ix0, ↓w_ix1, ↓w_ix2, ↓w_ix3, ↓w_eqI, ↓w_eqS, ↓w_eqT2, ↓w_abs, ↓w_lenT, ↓w_lenS, ↓w_max, ↓w_min, ↓w_intT, ↓w_intF, ↓w_isBool, ↓w_isTup, ↓w_tupT, ↓w_listT, ↓w_cutT, ↓brw_t, ↓brw_f, ↓brz_t, ↓brz_f, List.getElem?_cons_zero, List.getElem?_cons_succ, List.set_cons_zero, List.set_cons_succ, List.length_cons, List.length_nil, List.map_cons, List.map_nil, List.replicate, List.cons_append, List.nil_append, small, Nat.reduceAdd, Nat.reduceLeDiff, Nat.reduceEqDiff, Int.cast_ofNat_Int, Int.reduceBEq, BEq.rfl, ↓w_Yes, ↓w_bTru, ↓augF_ok, ↓z_Put, ↓putF_ok, ↓putG_ok, ↓w_isNn, ↓w_isNt, wipeF_nil, wipeF_cons, Int.reduceLE, Int.reduceLT, Int.reduceToNat, Int.reducePow, Int.reduceNeg, Int.reduceSub, Int.reduceAdd, Int.reduceMul, decide_true, decide_false, Bool.not_true, Bool.not_false, Bool.bne_false, Bool.bne_true, ↓w_aStar, ↓w_stT, ↓kSt_ok, ↓w_aDef, ↓kDf_ok, ↓w_Cnt, ↓w_Ext, ↓w_isBB, ↓w_isIB]
  refine isline_w k (by omega) fun h1 g => ?_
  simp only [↓w_ok, ↓kB_ok, ↓kI_ok, ↓w_K, ↓w_V, ↓w_vR, ↓w_Op, ↓kO1_ok, ↓kO2_ok, ↓w_Un, ↓w_bOf, ↓w_isB, ↓kBl_ok, ↓kBl_exc, ↓kIf_ok, ↓kIf_exc, ↓w_okB, ↓w_okD, ↓w_bAnd, ↓w_bOr, ↓w_bNot, ↓kNot_ok, ↓kNot_exc, ↓w_eAnd, ↓w_eOr, ↓w_eNot, ↓kNotV_ok, ↓w_eIf, ↓w_aNil, ↓w_aCons, ↓kA1_ok, ↓kA2_ok, ↓kA1_exc, ↓kA2_exc, ↓w_Tup, ↓w_Lst, ↓w_mkT, ↓w_mkL, ↓w_Dct, ↓w_Call, ↓w_goS, ↓w_Bi, ↓w_Isi, ↓w_Cut, ↓kC1_ok, ↓kC2_ok, ↓kC3_ok, ↓w_oNone, ↓w_oSome, ↓w_vO, ↓w_Chain, ↓kCh1_ok, ↓kCh2_ok, ↓kCh3_ok, ↓w_chA, ↓w_App, ↓w_Ins, ↓w_insG, ↓z_nx, ↓z_End, ↓z_Seq, ↓kT_nx, ↓kT_rt, ↓kT_bk, ↓kT_ct, ↓kT_exc, ↓z_If, ↓kIfS_ok, ↓kIfS_exc, ↓z_Ret, ↓kRet_ok, ↓kRet_exc, ↓z_Expr, ↓kNx_ok, ↓kNx_exc, ↓z_Asg, ↓kAs_ok, ↓kAs_exc, ↓z_tgO, t_N, t_T, t_nil, t_cons, t_G, t_gnil, t_gcons, t_bind, ↓z_Par, ↓kPar_ok, ↓z_Raise, ↓z_Break, ↓z_Cont, ↓z_For, ↓kSrc_ok, ↓w_Range, ↓w_rgF, ↓w_SeqI, ↓w_sqT, ↓w_Zip, ↓w_zpT, ↓w_Comp, ↓kCo_ok, ↓w_of, ↓kF_rt, ↓kF_nx, ↓kF_exc, ↓w_add, ↓w_sub, ↓w_pow10, ↓w_neg, ↓w_lt, ↓w_le, ↓w_gt, ↓w_ge, ↓w_ix0, ↓w_ix1, ↓w_ix2, ↓w_ix3, ↓w_eqI, ↓w_eqS, ↓w_eqT2, ↓w_abs, ↓w_lenT, ↓w_lenS, ↓w_max, ↓w_min, ↓w_intT, ↓w_intF, ↓w_isBool, ↓w_isTup, ↓w_tupT, ↓w_listT, ↓w_cutT, ↓brw_t, ↓brw_f, ↓brz_t, ↓brz_f, List.getElem?_cons_zero, List.getElem?_cons_succ, List.set_cons_zero, List.set_cons_succ, List.length_cons, List.length_nil, List.map_cons, List.map_nil, List.replicate, List.cons_append, List.nil_append, small, Nat.reduceAdd, Nat.reduceLeDiff, Nat.reduceEqDiff, Int.cast_ofNat_Int, Int.reduceBEq, BEq.rfl, ↓w_Yes, ↓w_bTru, ↓augF_ok, ↓z_Put, ↓putF_ok, ↓putG_ok, ↓w_isNn, ↓w_isNt, wipeF_nil, wipeF_cons, Int.reduceLE, Int.reduceLT, Int.reduceToNat, Int.reducePow, Int.reduceNeg, Int.reduceSub, Int.reduceAdd, Int.reduceMul, decide_true, decide_false, Bool.not_true, Bool.not_false, Bool.bne_false, Bool.bne_true, ↓w_aStar, ↓w_stT, ↓kSt_ok, ↓w_aDef, ↓kDf_ok, ↓w_Cnt, ↓w_Ext, ↓w_isBB, ↓w_isIB]
  have nm := needmom_ok (h := h1) f m (by omega)
  refine W.of nm ?_
  simp only [↓w_ok, ↓kB_ok, ↓kI_ok, ↓w_K, ↓w_V, ↓w_vR, ↓w_Op, ↓kO1_ok, ↓kO2_ok, ↓w_Un, ↓w_bOf, ↓w_isB, ↓kBl_ok, ↓kBl_exc, ↓kIf_ok, ↓kIf_exc, ↓w_okB, ↓w_okD, ↓w_bAnd, ↓w_bOr, ↓w_bNot, ↓kNot_ok, ↓kNot_exc, ↓w_eAnd, ↓w_eOr, ↓w_eNot, ↓kNotV_ok, ↓w_eIf, ↓w_aNil, ↓w_aCons, ↓kA1_ok, ↓kA2_ok, ↓kA1_exc, ↓kA2_exc, ↓w_Tup, ↓w_Lst, ↓w_mkT, ↓w_mkL, ↓w_Dct, ↓w_Call, ↓w_goS, ↓w_Bi, ↓w_Isi, ↓w_Cut, ↓kC1_ok, ↓kC2_ok, ↓kC3_ok, ↓w_oNone, ↓w_oSome, ↓w_vO, ↓w_Chain, ↓kCh1_ok, ↓kCh2_ok, ↓kCh3_ok, ↓w_chA, ↓w_App, ↓w_Ins, ↓w_insG, ↓z_nx, ↓z_End, ↓z_Seq, ↓kT_nx, ↓kT_rt, ↓kT_bk, ↓kT_ct, ↓kT_exc, ↓z_If, ↓kIfS_ok, ↓kIfS_exc, ↓z_Ret, ↓kRet_ok, ↓kRet_exc, ↓z_Expr, ↓kNx_ok, ↓kNx_exc, ↓z_Asg, ↓kAs_ok, ↓kAs_exc, ↓z_tgO, t_N, t_T, t_nil, t_cons, t_G, t_gnil, t_gcons, t_bind, ↓z_Par, ↓kPar_ok, ↓z_Raise, ↓z_Break, ↓z_Cont, ↓z_For, ↓kSrc_ok, ↓w_Range, ↓w_rgF, ↓w_SeqI, ↓w_sqT, ↓w_Zip, ↓w_zpT, ↓w_Comp, ↓kCo_ok, ↓w_of, ↓kF_rt, ↓kF_nx, ↓kF_exc, ↓w_add, ↓w_sub, ↓w_pow10, ↓w_neg, ↓w_lt, ↓w_le, ↓w_gt, ↓w_ge, ↓w_ix0, ↓w_ix1, ↓w_ix2, ↓w_ix3, ↓w_eqI, ↓w_eqS, ↓w_eqT2, ↓w_abs, ↓w_lenT, ↓w_lenS, ↓w_max, ↓w_min, ↓w_intT, ↓w_intF, ↓w_isBool, ↓w_isTup, ↓w_tupT, ↓w_listT, ↓w_cutT, ↓brw_t, ↓brw_f, ↓brz_t, ↓brz_f, List.getElem?_cons_zero, List.getElem?_cons_succ, List.set_cons_zero, List.set_cons_succ, List.length_cons, List.length_nil, List.map_cons, List.map_nil, List.replicate, List.cons_append, List.nil_append, small, Nat.reduceAdd, Nat.reduceLeDiff, Nat.reduceEqDiff, Int.cast_ofNat_Int, Int.reduceBEq, BEq.rfl, ↓w_Yes, ↓w_bTru, ↓augF_ok, ↓z_Put, ↓putF_ok, ↓putG_ok, ↓w_isNn, ↓w_isNt, wipeF_nil, wipeF_cons, Int.reduceLE, Int.reduceLT, Int.reduceToNat, Int.reducePow, Int.reduceNeg, Int.reduceSub, Int.reduceAdd, Int.reduceMul, decide_true, decide_false, Bool.not_true, Bool.not_false, Bool.bne_false, Bool.bne_true, ↓w_aStar, ↓w_stT, ↓kSt_ok, ↓w_aDef, ↓kDf_ok, ↓w_Cnt, ↓w_Ext, ↓w_isBB, ↓w_isIB, w_mul (k.fb.b1.mk f.b1 (lt _ (by omega)) (lt _ (by omega))), w_mul (k.fb.b2.mk f.b2 (lt _ (by omega)) (lt _ (by omega)))]
  have p3 := Int.mul_pos (show 0 < l.b.2 by have := k.fb.pos; omega) (show 0 < t.2 by have := f.pos; omega)
  refine W.of (lowp_ok p3 (k.fb.b2.mul f.b2) (by omega)) ?_
  simp only [↓w_ok, ↓kB_ok, ↓kI_ok, ↓w_K, ↓w_V, ↓w_vR, ↓w_Op, ↓kO1_ok, ↓kO2_ok, ↓w_Un, ↓w_bOf, ↓w_isB, ↓kBl_ok, ↓kBl_exc, ↓kIf_ok, ↓kIf_exc, ↓w_okB, ↓w_okD, ↓w_bAnd, ↓w_bOr, ↓w_bNot, ↓kNot_ok, ↓kNot_exc, ↓w_eAnd, ↓w_eOr, ↓w_eNot, ↓kNotV_ok, ↓w_eIf, ↓w_aNil, ↓w_aCons, ↓kA1_ok, ↓kA2_ok, ↓kA1_exc, ↓kA2_exc, ↓w_Tup, ↓w_Lst, ↓w_mkT, ↓w_mkL, ↓w_Dct, ↓w_Call, ↓w_goS, ↓w_Bi, ↓w_Isi, ↓w_Cut, ↓kC1_ok, ↓kC2_ok, ↓kC3_ok, ↓w_oNone, ↓w_oSome, ↓w_vO, ↓w_Chain, ↓kCh1_ok, ↓kCh2_ok, ↓kCh3_ok, ↓w_chA, ↓w_App, ↓w_Ins, ↓w_insG, ↓z_nx, ↓z_End, ↓z_Seq, ↓kT_nx, ↓kT_rt, ↓kT_bk, ↓kT_ct, ↓kT_exc, ↓z_If, ↓kIfS_ok, ↓kIfS_exc, ↓z_Ret, ↓kRet_ok, ↓kRet_exc, ↓z_Expr, ↓kNx_ok, ↓kNx_exc, ↓z_Asg, ↓kAs_ok, ↓kAs_exc, ↓z_tgO, t_N, t_T, t_nil, t_cons, t_G, t_gnil, t_gcons, t_bind, ↓z_Par, ↓kPar_ok, ↓z_Raise, ↓z_Break, ↓z_Cont, ↓z_For, ↓kSrc_ok, ↓w_Range, ↓w_rgF, ↓w_SeqI, ↓w_sqT, ↓w_Zip, ↓w_zpT, ↓w_Comp, ↓kCo_ok, ↓w_of, ↓kF_rt, ↓kF_nx, ↓kF_exc, ↓w_add, ↓w_sub, ↓w_pow10, ↓w_neg, ↓w_lt, ↓w_le, ↓w_gt, ↓w_ge, ↓w_ix0, ↓w_ix1, ↓w_ix2, ↓w_ix3, ↓w_eqI, ↓w_eqS, ↓w_eqT2, ↓w_abs, ↓w_lenT, ↓w_lenS, ↓w_max, ↓w_min, ↓w_intT, ↓w_intF, ↓w_isBool, ↓w_isTup, ↓w_tupT, ↓w_listT, ↓w_cutT, ↓brw_t, ↓brw_f, ↓brz_t, ↓brz_f, List.getElem?_cons_zero, List.getElem?_cons_succ, List.set_cons_zero, List.set_cons_succ, List.length_cons, List.length_nil, List.map_cons, List.map_nil, List.replicate, List.cons_append, List.nil_append, small, Nat.reduceAdd, Nat.reduceLeDiff, Nat.reduceEqDiff, Int.cast_ofNat_Int, Int.reduceBEq, BEq.rfl, ↓w_Yes, ↓w_bTru, ↓augF_ok, ↓z_Put, ↓putF_ok, ↓putG_ok, ↓w_isNn, ↓w_isNt, wipeF_nil, wipeF_cons, Int.reduceLE, Int.reduceLT, Int.reduceToNat, Int.reducePow, Int.reduceNeg, Int.reduceSub, Int.reduceAdd, Int.reduceMul, decide_true, decide_false, Bool.not_true, Bool.not_false, Bool.bne_false, Bool.bne_true, ↓w_aStar, ↓w_stT, ↓kSt_ok, ↓w_aDef, ↓kDf_ok, ↓w_Cnt, ↓w_Ext, ↓w_isBB, ↓w_isIB]
  have fs := lowQ_ok p3 (k.fb.b1.mul f.b1) (k.fb.b2.mul f.b2)
  have ws := worth_same k f
  generalize lowQ (l.b.1 * t.1) (l.b.2 * t.2) = s at *
  unfold S_added
  simp only [↓w_ok, ↓kB_ok, ↓kI_ok, ↓w_K, ↓w_V, ↓w_vR, ↓w_Op, ↓kO1_ok, ↓kO2_ok, ↓w_Un, ↓w_bOf, ↓w_isB, ↓kBl_ok, ↓kBl_exc, ↓kIf_ok, ↓kIf_exc, ↓w_okB, ↓w_okD, ↓w_bAnd, ↓w_bOr, ↓w_bNot, ↓kNot_ok, ↓kNot_exc, ↓w_eAnd, ↓w_eOr, ↓w_eNot, ↓kNotV_ok, ↓w_eIf, ↓w_aNil, ↓w_aCons, ↓kA1_ok, ↓kA2_ok, ↓kA1_exc, ↓kA2_exc, ↓w_Tup, ↓w_Lst, ↓w_mkT, ↓w_mkL, ↓w_Dct, ↓w_Call, ↓w_goS, ↓w_Bi, ↓w_Isi, ↓w_Cut, ↓kC1_ok, ↓kC2_ok, ↓kC3_ok, ↓w_oNone, ↓w_oSome, ↓w_vO, ↓w_Chain, ↓kCh1_ok, ↓kCh2_ok, ↓kCh3_ok, ↓w_chA, ↓w_App, ↓w_Ins, ↓w_insG, ↓z_nx, ↓z_End, ↓z_Seq, ↓kT_nx, ↓kT_rt, ↓kT_bk, ↓kT_ct, ↓kT_exc, ↓z_If, ↓kIfS_ok, ↓kIfS_exc, ↓z_Ret, ↓kRet_ok, ↓kRet_exc, ↓z_Expr, ↓kNx_ok, ↓kNx_exc, ↓z_Asg, ↓kAs_ok, ↓kAs_exc, ↓z_tgO, t_N, t_T, t_nil, t_cons, t_G, t_gnil, t_gcons, t_bind, ↓z_Par, ↓kPar_ok, ↓z_Raise, ↓z_Break, ↓z_Cont, ↓z_For, ↓kSrc_ok, ↓w_Range, ↓w_rgF, ↓w_SeqI, ↓w_sqT, ↓w_Zip, ↓w_zpT, ↓w_Comp, ↓kCo_ok, ↓w_of, ↓kF_rt, ↓kF_nx, ↓kF_exc, ↓w_add, ↓w_sub, ↓w_pow10, ↓w_neg, ↓w_lt, ↓w_le, ↓w_gt, ↓w_ge, ↓w_ix0, ↓w_ix1, ↓w_ix2, ↓w_ix3, ↓w_eqI, ↓w_eqS, ↓w_eqT2, ↓w_abs, ↓w_lenT, ↓w_lenS, ↓w_max, ↓w_min, ↓w_intT, ↓w_intF, ↓w_isBool, ↓w_isTup, ↓w_tupT, ↓w_listT, ↓w_cutT, ↓brw_t, ↓brw_f, ↓brz_t, ↓brz_f, List.getElem?_cons_zero, List.getElem?_cons_succ, List.set_cons_zero, List.set_cons_succ, List.length_cons, List.length_nil, List.map_cons, List.map_nil, List.replicate, List.cons_append, List.nil_append, small, Nat.reduceAdd, Nat.reduceLeDiff, Nat.reduceEqDiff, Int.cast_ofNat_Int, Int.reduceBEq, BEq.rfl, ↓w_Yes, ↓w_bTru, ↓augF_ok, ↓z_Put, ↓putF_ok, ↓putG_ok, ↓w_isNn, ↓w_isNt, wipeF_nil, wipeF_cons, Int.reduceLE, Int.reduceLT, Int.reduceToNat, Int.reducePow, Int.reduceNeg, Int.reduceSub, Int.reduceAdd, Int.reduceMul, decide_true, decide_false, Bool.not_true, Bool.not_false, Bool.bne_false, Bool.bne_true, ↓w_aStar, ↓w_stT, ↓kSt_ok, ↓w_aDef, ↓kDf_ok, ↓w_Cnt, ↓w_Ext, ↓w_isBB, ↓w_isIB, w_mul (k.fa.b1.mk fs.b2 (lt _ (by omega)) (lt _ (by omega))), w_mul (fs.b1.mk k.fa.b2 (lt _ (by omega)) (lt _ (by omega))), w_mul (k.fa.b2.mk fs.b2 (lt _ (by omega)) (lt _ (by omega)))]
  refine W.of (lowp_ok (Int.mul_pos (show 0 < l.a.2 by have := k.fa.pos; omega) (show 0 < s.2 by have := fs.pos; omega)) (k.fa.b2.mul fs.b2) (by omega)) ?_
  simp only [↓w_ok, ↓kB_ok, ↓kI_ok, ↓w_K, ↓w_V, ↓w_vR, ↓w_Op, ↓kO1_ok, ↓kO2_ok, ↓w_Un, ↓w_bOf, ↓w_isB, ↓kBl_ok, ↓kBl_exc, ↓kIf_ok, ↓kIf_exc, ↓w_okB, ↓w_okD, ↓w_bAnd, ↓w_bOr, ↓w_bNot, ↓kNot_ok, ↓kNot_exc, ↓w_eAnd, ↓w_eOr, ↓w_eNot, ↓kNotV_ok, ↓w_eIf, ↓w_aNil, ↓w_aCons, ↓kA1_ok, ↓kA2_ok, ↓kA1_exc, ↓kA2_exc, ↓w_Tup, ↓w_Lst, ↓w_mkT, ↓w_mkL, ↓w_Dct, ↓w_Call, ↓w_goS, ↓w_Bi, ↓w_Isi, ↓w_Cut, ↓kC1_ok, ↓kC2_ok, ↓kC3_ok, ↓w_oNone, ↓w_oSome, ↓w_vO, ↓w_Chain, ↓kCh1_ok, ↓kCh2_ok, ↓kCh3_ok, ↓w_chA, ↓w_App, ↓w_Ins, ↓w_insG, ↓z_nx, ↓z_End, ↓z_Seq, ↓kT_nx, ↓kT_rt, ↓kT_bk, ↓kT_ct, ↓kT_exc, ↓z_If, ↓kIfS_ok, ↓kIfS_exc, ↓z_Ret, ↓kRet_ok, ↓kRet_exc, ↓z_Expr, ↓kNx_ok, ↓kNx_exc, ↓z_Asg, ↓kAs_ok, ↓kAs_exc, ↓z_tgO, t_N, t_T, t_nil, t_cons, t_G, t_gnil, t_gcons, t_bind, ↓z_Par, ↓kPar_ok, ↓z_Raise, ↓z_Break, ↓z_Cont, ↓z_For, ↓kSrc_ok, ↓w_Range, ↓w_rgF, ↓w_SeqI, ↓w_sqT, ↓w_Zip, ↓w_zpT, ↓w_Comp, ↓kCo_ok, ↓w_of, ↓kF_rt, ↓kF_nx, ↓kF_exc, ↓w_add, ↓w_sub, ↓w_pow10, ↓w_neg, ↓w_lt, ↓w_le, ↓w_gt, ↓w_ge, ↓w_ix0, ↓w_ix1, ↓w_ix2, ↓w_ix3, ↓w_eqI, ↓w_eqS, ↓w_eqT2, ↓w_abs, ↓w_lenT, ↓w_lenS, ↓w_max, ↓w_min, ↓w_intT, ↓w_intF, ↓w_isBool, ↓w_isTup, ↓w_tupT, ↓w_listT, ↓w_cutT, ↓brw_t, ↓brw_f, ↓brz_t, ↓brz_f, List.getElem?_cons_zero, List.getElem?_cons_succ, List.set_cons_zero, List.set_cons_succ, List.length_cons, List.length_nil, List.map_cons, List.map_nil, List.replicate, List.cons_append, List.nil_append, small, Nat.reduceAdd, Nat.reduceLeDiff, Nat.reduceEqDiff, Int.cast_ofNat_Int, Int.reduceBEq, BEq.rfl, ↓w_Yes, ↓w_bTru, ↓augF_ok, ↓z_Put, ↓putF_ok, ↓putG_ok, ↓w_isNn, ↓w_isNt, wipeF_nil, wipeF_cons, Int.reduceLE, Int.reduceLT, Int.reduceToNat, Int.reducePow, Int.reduceNeg, Int.reduceSub, Int.reduceAdd, Int.reduceMul, decide_true, decide_false, Bool.not_true, Bool.not_false, Bool.bne_false, Bool.bne_true, ↓w_aStar, ↓w_stT, ↓kSt_ok, ↓w_aDef, ↓kDf_ok, ↓w_Cnt, ↓w_Ext, ↓w_isBB, ↓w_isIB]
  rw [ws]
  exact kk h1 g
/-! ### spells looked at -/
theorem ismom_w (f : Fq B t) (m : mom t) (hB : B ≤ 8000) : W (S_is_moment [.tup [.int t.1, .int t.2]] h) Φ = Φ (.ok (.bl true) h) := by
  unfold W
  rw [ismom_ok f hB, decide_eq_true m]
theorem isspell_w {s : Spl} (k : SpOk B s) (hB : B ≤ 8000) (kk : Φ (.ok (.bl true) h)) : W (S_is_spell [dsp s] h) Φ := by
  have hA : B < 400000 := by omega
  unfold S_is_spell S_begin_edge S_end_edge S_edge_below
  obtain ⟨⟨b1, b2⟩, wb, ⟨e1, e2⟩, we⟩ := s
  simp only [↓w_ok, ↓kB_ok, ↓kI_ok, ↓w_K, ↓w_V, ↓w_vR, ↓w_Op, ↓kO1_ok, ↓kO2_ok, ↓w_Un, ↓w_bOf, ↓w_isB, ↓kBl_ok, ↓kBl_exc, ↓kIf_ok, ↓kIf_exc, ↓w_okB, ↓w_okD, ↓w_bAnd, ↓w_bOr, ↓w_bNot, ↓kNot_ok, ↓kNot_exc, ↓w_eAnd, ↓w_eOr, ↓w_eNot, ↓kNotV_ok, ↓w_eIf, ↓w_aNil, ↓w_aCons, ↓kA1_ok, ↓kA2_ok, ↓kA1_exc, ↓kA2_exc, ↓w_Tup, ↓w_Lst, ↓w_mkT, ↓w_mkL, ↓w_Dct, ↓w_Call, ↓w_goS, ↓w_Bi, ↓w_Isi, ↓w_Cut, ↓kC1_ok, ↓kC2_ok, ↓kC3_ok, ↓w_oNone, ↓w_oSome, ↓w_vO, ↓w_Chain, ↓kCh1_ok, ↓kCh2_ok, ↓kCh3_ok, ↓w_chA, ↓w_App, ↓w_Ins, ↓w_insG, ↓z_nx, ↓z_End, ↓z_Seq, ↓kT_nx, ↓kT_rt, ↓kT_bk, ↓kT_ct, ↓kT_exc, ↓z_If, ↓kIfS_ok, ↓kIfS_exc, ↓z_Ret, ↓kRet_ok, ↓kRet_exc, ↓z_Expr, ↓kNx_ok, ↓kNx_exc, ↓z_Asg, ↓kAs_ok, ↓kAs_exc, ↓z_tgO, t_N, t_T, t_nil, t_cons, t_G, t_gnil, t_gcons, t_bind, ↓z_Par, ↓kPar_ok, ↓z_Raise, ↓z_Break, ↓z_Cont, ↓z_For, ↓kSrc_ok, ↓w_Range, ↓w_rgF, ↓w_SeqI, ↓w_sqT, ↓w_Zip, ↓w_zpT, ↓w_Comp, ↓kCo_ok, ↓w_of, ↓kF_rt, ↓kF_nx, ↓kF_exc, ↓w_add, ↓w_sub, ↓w_pow10, ↓w_neg, ↓w_lt, ↓w_le, ↓w_gt, ↓w_ge, ↓w_ix0, ↓w_ix1, ↓w_ix2, ↓w_ix3, ↓w_eqI, ↓w_eqS, ↓w_eqT2, ↓w_abs, ↓w_lenT, ↓w_lenS, ↓w_max, ↓w_min, ↓w_intT, ↓w_intF, ↓w_isBool, ↓w_isTup, ↓w_tupT, ↓w_listT, ↓w_cutT, ↓brw_t, ↓brw_f, ↓brz_t, ↓brz_f, List.getElem?_cons_zero, List.getElem?_cons_succ, List.set_cons_zero, List.set_cons_succ, List.length_cons, List.length_nil, List.map_cons, List.map_nil, List.replicate, List.cons_append, List.nil_append, small, Nat.reduceAdd, Nat.reduceLeDiff, Nat.reduceEqDiff, Int.cast_ofNat_Int, Int.reduceBEq, BEq.rfl, ↓w_Yes, ↓w_bTru, ↓augF_ok, ↓z_Put, ↓putF_ok, ↓putG_ok, ↓w_isNn, ↓w_isNt, wipeF_nil, wipeF_cons, Int.reduceLE, Int.reduceLT, Int.reduceToNat, Int.reducePow, Int.reduceNeg, Int.reduceSub, Int.reduceAdd, Int.reduceMul, decide_true, decide_false, Bool.not_true, Bool.not_false, Bool.bne_false, Bool.bne_true, ↓w_aStar, ↓w_stT, ↓kSt_ok, ↓w_aDef, ↓kDf_ok, ↓w_Cnt, ↓w_Ext, ↓w_isBB, ↓w_isIB, ismom_w k.fb k.mb hB, ismom_w k.fe k.me hB]
  have lw := fun (Φ : Rs D → Prop) => below_w (h := h) (Φ := Φ) k.fb.b1 k.fb.b2 k.fe.b1 k.fe.b2 hA
  rcases k.live with hl | ⟨hl, hw, hv⟩
  · have ne : (b1 == e1 && b2 == e2) = false := by
      cases hq : (b1 == e1 && b2 == e2)
      · rfl
      · exfalso
        have := qp_eq (a := (b1, b2)) (b := (e1, e2)) hq
        rw [this] at hl
        exact qlt_irr hl
    have hl' : decide (b1 * e2 < e1 * b2) = true := decide_eq_true hl
    simp only [↓w_ok, ↓kB_ok, ↓kI_ok, ↓w_K, ↓w_V, ↓w_vR, ↓w_Op, ↓kO1_ok, ↓kO2_ok, ↓w_Un, ↓w_bOf, ↓w_isB, ↓kBl_ok, ↓kBl_exc, ↓kIf_ok, ↓kIf_exc, ↓w_okB, ↓w_okD, ↓w_bAnd, ↓w_bOr, ↓w_bNot, ↓kNot_ok, ↓kNot_exc, ↓w_eAnd, ↓w_eOr, ↓w_eNot, ↓kNotV_ok, ↓w_eIf, ↓w_aNil, ↓w_aCons, ↓kA1_ok, ↓kA2_ok, ↓kA1_exc, ↓kA2_exc, ↓w_Tup, ↓w_Lst, ↓w_mkT, ↓w_mkL, ↓w_Dct, ↓w_Call, ↓w_goS, ↓w_Bi, ↓w_Isi, ↓w_Cut, ↓kC1_ok, ↓kC2_ok, ↓kC3_ok, ↓w_oNone, ↓w_oSome, ↓w_vO, ↓w_Chain, ↓kCh1_ok, ↓kCh2_ok, ↓kCh3_ok, ↓w_chA, ↓w_App, ↓w_Ins, ↓w_insG, ↓z_nx, ↓z_End, ↓z_Seq, ↓kT_nx, ↓kT_rt, ↓kT_bk, ↓kT_ct, ↓kT_exc, ↓z_If, ↓kIfS_ok, ↓kIfS_exc, ↓z_Ret, ↓kRet_ok, ↓kRet_exc, ↓z_Expr, ↓kNx_ok, ↓kNx_exc, ↓z_Asg, ↓kAs_ok, ↓kAs_exc, ↓z_tgO, t_N, t_T, t_nil, t_cons, t_G, t_gnil, t_gcons, t_bind, ↓z_Par, ↓kPar_ok, ↓z_Raise, ↓z_Break, ↓z_Cont, ↓z_For, ↓kSrc_ok, ↓w_Range, ↓w_rgF, ↓w_SeqI, ↓w_sqT, ↓w_Zip, ↓w_zpT, ↓w_Comp, ↓kCo_ok, ↓w_of, ↓kF_rt, ↓kF_nx, ↓kF_exc, ↓w_add, ↓w_sub, ↓w_pow10, ↓w_neg, ↓w_lt, ↓w_le, ↓w_gt, ↓w_ge, ↓w_ix0, ↓w_ix1, ↓w_ix2, ↓w_ix3, ↓w_eqI, ↓w_eqS, ↓w_eqT2, ↓w_abs, ↓w_lenT, ↓w_lenS, ↓w_max, ↓w_min, ↓w_intT, ↓w_intF, ↓w_isBool, ↓w_isTup, ↓w_tupT, ↓w_listT, ↓w_cutT, ↓brw_t, ↓brw_f, ↓brz_t, ↓brz_f, List.getElem?_cons_zero, List.getElem?_cons_succ, List.set_cons_zero, List.set_cons_succ, List.length_cons, List.length_nil, List.map_cons, List.map_nil, List.replicate, List.cons_append, List.nil_append, small, Nat.reduceAdd, Nat.reduceLeDiff, Nat.reduceEqDiff, Int.cast_ofNat_Int, Int.reduceBEq, BEq.rfl, ↓w_Yes, ↓w_bTru, ↓augF_ok, ↓z_Put, ↓putF_ok, ↓putG_ok, ↓w_isNn, ↓w_isNt, wipeF_nil, wipeF_cons, Int.reduceLE, Int.reduceLT, Int.reduceToNat, Int.reducePow, Int.reduceNeg, Int.reduceSub, Int.reduceAdd, Int.reduceMul, decide_true, decide_false, Bool.not_true, Bool.not_false, Bool.bne_false, Bool.bne_true, ↓w_aStar, ↓w_stT, ↓kSt_ok, ↓w_aDef, ↓kDf_ok, ↓w_Cnt, ↓w_Ext, ↓w_isBB, ↓w_isIB, ne, lw, hl']
    exact kk
  · cases hl
    have e1 : wb = true := hw
    have e2 : we = true := hv
    subst e1 e2
    simp only [↓w_ok, ↓kB_ok, ↓kI_ok, ↓w_K, ↓w_V, ↓w_vR, ↓w_Op, ↓kO1_ok, ↓kO2_ok, ↓w_Un, ↓w_bOf, ↓w_isB, ↓kBl_ok, ↓kBl_exc, ↓kIf_ok, ↓kIf_exc, ↓w_okB, ↓w_okD, ↓w_bAnd, ↓w_bOr, ↓w_bNot, ↓kNot_ok, ↓kNot_exc, ↓w_eAnd, ↓w_eOr, ↓w_eNot, ↓kNotV_ok, ↓w_eIf, ↓w_aNil, ↓w_aCons, ↓kA1_ok, ↓kA2_ok, ↓kA1_exc, ↓kA2_exc, ↓w_Tup, ↓w_Lst, ↓w_mkT, ↓w_mkL, ↓w_Dct, ↓w_Call, ↓w_goS, ↓w_Bi, ↓w_Isi, ↓w_Cut, ↓kC1_ok, ↓kC2_ok, ↓kC3_ok, ↓w_oNone, ↓w_oSome, ↓w_vO, ↓w_Chain, ↓kCh1_ok, ↓kCh2_ok, ↓kCh3_ok, ↓w_chA, ↓w_App, ↓w_Ins, ↓w_insG, ↓z_nx, ↓z_End, ↓z_Seq, ↓kT_nx, ↓kT_rt, ↓kT_bk, ↓kT_ct, ↓kT_exc, ↓z_If, ↓kIfS_ok, ↓kIfS_exc, ↓z_Ret, ↓kRet_ok, ↓kRet_exc, ↓z_Expr, ↓kNx_ok, ↓kNx_exc, ↓z_Asg, ↓kAs_ok, ↓kAs_exc, ↓z_tgO, t_N, t_T, t_nil, t_cons, t_G, t_gnil, t_gcons, t_bind, ↓z_Par, ↓kPar_ok, ↓z_Raise, ↓z_Break, ↓z_Cont, ↓z_For, ↓kSrc_ok, ↓w_Range, ↓w_rgF, ↓w_SeqI, ↓w_sqT, ↓w_Zip, ↓w_zpT, ↓w_Comp, ↓kCo_ok, ↓w_of, ↓kF_rt, ↓kF_nx, ↓kF_exc, ↓w_add, ↓w_sub, ↓w_pow10, ↓w_neg, ↓w_lt, ↓w_le, ↓w_gt, ↓w_ge, ↓w_ix0, ↓w_ix1, ↓w_ix2, ↓w_ix3, ↓w_eqI, ↓w_eqS, ↓w_eqT2, ↓w_abs, ↓w_lenT, ↓w_lenS, ↓w_max, ↓w_min, ↓w_intT, ↓w_intF, ↓w_isBool, ↓w_isTup, ↓w_tupT, ↓w_listT, ↓w_cutT, ↓brw_t, ↓brw_f, ↓brz_t, ↓brz_f, List.getElem?_cons_zero, List.getElem?_cons_succ, List.set_cons_zero, List.set_cons_succ, List.length_cons, List.length_nil, List.map_cons, List.map_nil, List.replicate, List.cons_append, List.nil_append, small, Nat.reduceAdd, Nat.reduceLeDiff, Nat.reduceEqDiff, Int.cast_ofNat_Int, Int.reduceBEq, BEq.rfl, ↓w_Yes, ↓w_bTru, ↓augF_ok, ↓z_Put, ↓putF_ok, ↓putG_ok, ↓w_isNn, ↓w_isNt, wipeF_nil, wipeF_cons, Int.reduceLE, Int.reduceLT, Int.reduceToNat, Int.reducePow, Int.reduceNeg, Int.reduceSub, Int.reduceAdd, Int.reduceMul, decide_true, decide_false, Bool.not_true, Bool.not_false, Bool.bne_false, Bool.bne_true, ↓w_aStar, ↓w_stT, ↓kSt_ok, ↓w_aDef, ↓kDf_ok, ↓w_Cnt, ↓w_Ext, ↓w_isBB, ↓w_isIB, beq_self_eq_true, Bool.and_self]
    exact kk
theorem needspell_w {s : Spl} (k : SpOk B s) (hB : B ≤ 8000) : W (S_need_spell [dsp s] h) Φ = Φ (.ok .non h) := by
  have e : S_is_spell [dsp s] h = .ok (.bl true) h := by
    have := isspell_w (h := h) (Φ := fun r => r = .ok (.bl true) h) k hB rfl
    exact this
  unfold S_need_spell
  simp only [↓w_ok, ↓kB_ok, ↓kI_ok, ↓w_K, ↓w_V, ↓w_vR, ↓w_Op, ↓kO1_ok, ↓kO2_ok, ↓w_Un, ↓w_bOf, ↓w_isB, ↓kBl_ok, ↓kBl_exc, ↓kIf_ok, ↓kIf_exc, ↓w_okB, ↓w_okD, ↓w_bAnd, ↓w_bOr, ↓w_bNot, ↓kNot_ok, ↓kNot_exc, ↓w_eAnd, ↓w_eOr, ↓w_eNot, ↓kNotV_ok, ↓w_eIf, ↓w_aNil, ↓w_aCons, ↓kA1_ok, ↓kA2_ok, ↓kA1_exc, ↓kA2_exc, ↓w_Tup, ↓w_Lst, ↓w_mkT, ↓w_mkL, ↓w_Dct, ↓w_Call, ↓w_goS, ↓w_Bi, ↓w_Isi, ↓w_Cut, ↓kC1_ok, ↓kC2_ok, ↓kC3_ok, ↓w_oNone, ↓w_oSome, ↓w_vO, ↓w_Chain, ↓kCh1_ok, ↓kCh2_ok, ↓kCh3_ok, ↓w_chA, ↓w_App, ↓w_Ins, ↓w_insG, ↓z_nx, ↓z_End, ↓z_Seq, ↓kT_nx, ↓kT_rt, ↓kT_bk, ↓kT_ct, ↓kT_exc, ↓z_If, ↓kIfS_ok, ↓kIfS_exc, ↓z_Ret, ↓kRet_ok, ↓kRet_exc, ↓z_Expr, ↓kNx_ok, ↓kNx_exc, ↓z_Asg, ↓kAs_ok, ↓kAs_exc, ↓z_tgO, t_N, t_T, t_nil, t_cons, t_G, t_gnil, t_gcons, t_bind, ↓z_Par, ↓kPar_ok, ↓z_Raise, ↓z_Break, ↓z_Cont, ↓z_For, ↓kSrc_ok, ↓w_Range, ↓w_rgF, ↓w_SeqI, ↓w_sqT, ↓w_Zip, ↓w_zpT, ↓w_Comp, ↓kCo_ok, ↓w_of, ↓kF_rt, ↓kF_nx, ↓kF_exc, ↓w_add, ↓w_sub, ↓w_pow10, ↓w_neg, ↓w_lt, ↓w_le, ↓w_gt, ↓w_ge, ↓w_ix0, ↓w_ix1, ↓w_ix2, ↓w_ix3, ↓w_eqI, ↓w_eqS, ↓w_eqT2, ↓w_abs, ↓w_lenT, ↓w_lenS, ↓w_max, ↓w_min, ↓w_intT, ↓w_intF, ↓w_isBool, ↓w_isTup, ↓w_tupT, ↓w_listT, ↓w_cutT, ↓brw_t, ↓brw_f, ↓brz_t, ↓brz_f, List.getElem?_cons_zero, List.getElem?_cons_succ, List.set_cons_zero, List.set_cons_succ, List.length_cons, List.length_nil, List.map_cons, List.map_nil, List.replicate, List.cons_append, List.nil_append, small, Nat.reduceAdd, Nat.reduceLeDiff, Nat.reduceEqDiff, Int.cast_ofNat_Int, Int.reduceBEq, BEq.rfl, ↓w_Yes, ↓w_bTru, ↓augF_ok, ↓z_Put, ↓putF_ok, ↓putG_ok, ↓w_isNn, ↓w_isNt, wipeF_nil, wipeF_cons, Int.reduceLE, Int.reduceLT, Int.reduceToNat, Int.reducePow, Int.reduceNeg, Int.reduceSub, Int.reduceAdd, Int.reduceMul, decide_true, decide_false, Bool.not_true, Bool.not_false, Bool.bne_false, Bool.bne_true, ↓w_aStar, ↓w_stT, ↓kSt_ok, ↓w_aDef, ↓kDf_ok, ↓w_Cnt, ↓w_Ext, ↓w_isBB, ↓w_isIB, show ∀ Φ : Rs D → Prop, W (S_is_spell [dsp s] h) Φ = Φ (.ok (.bl true) h) from fun Φ => by unfold W; rw [e]]
end
end MI
end

section
set_option Elab.async false
set_option linter.all false
set_option autoImplicit false
set_option maxRecDepth 100000
set_option exponentiation.threshold 20000
set_option maxHeartbeats 4000000
/-! conditions through spells; roots; marks; the reckoning that both agree -/
open PySem L2
namespace MI
/-- what the program reckons of a condition's signs -/
def thr (x y : Int) (ab : Bool) (s : Spl) : Bool :=
  if lv x y s.b < 0 ∨ lv x y s.e < 0 then false else if ab = false then true else if lv x y s.b = 0 ∧ (s.wb = true ∨ lv x y s.e = 0) then false else decide (0 < lv x y s.e) || !s.we
/-- what the law asks of a moment -/
def hold (x y : Int) (ab : Bool) (t : Qp) : Bool := decide (0 < lv x y t) || (decide (lv x y t = 0) && !ab)
section
variable {h : Hq} {Φ : Rs D → Prop} {A B : Nat} {l : Ln} {t : Qp} {s : Spl}
theorem through_w {x y : Int} {ab : Bool} (bx : Bd A x) (by_ : Bd A y) (b : Bq B s.b) (e : Bq B s.e) (hA : A < 400000) (hB : B < 400000) (kk : Φ (.ok (.bl (thr x y ab s)) h)) : W (S_through [.tup [.int x, .int y, .bl ab], dsp s] h) Φ := by
  unfold S_through
  simp only [↓w_ok, ↓kB_ok, ↓kI_ok, ↓w_K, ↓w_V, ↓w_vR, ↓w_Op, ↓kO1_ok, ↓kO2_ok, ↓w_Un, ↓w_bOf, ↓w_isB, ↓kBl_ok, ↓kBl_exc, ↓kIf_ok, ↓kIf_exc, ↓w_okB, ↓w_okD, ↓w_bAnd, ↓w_bOr, ↓w_bNot, ↓kNot_ok, ↓kNot_exc, ↓w_eAnd, ↓w_eOr, ↓w_eNot, ↓kNotV_ok, ↓w_eIf, ↓w_aNil, ↓w_aCons, ↓kA1_ok, ↓kA2_ok, ↓kA1_exc, ↓kA2_exc, ↓w_Tup, ↓w_Lst, ↓w_mkT, ↓w_mkL, ↓w_Dct, ↓w_Call, ↓w_goS, ↓w_Bi, ↓w_Isi, ↓w_Cut, ↓kC1_ok, ↓kC2_ok, ↓kC3_ok, ↓w_oNone, ↓w_oSome, ↓w_vO, ↓w_Chain, ↓kCh1_ok, ↓kCh2_ok, ↓kCh3_ok, ↓w_chA, ↓w_App, ↓w_Ins, ↓w_insG, ↓z_nx, ↓z_End, ↓z_Seq, ↓kT_nx, ↓kT_rt, ↓kT_bk, ↓kT_ct, ↓kT_exc, ↓z_If, ↓kIfS_ok, ↓kIfS_exc, ↓z_Ret, ↓kRet_ok, ↓kRet_exc, ↓z_Expr, ↓kNx_ok, ↓kNx_exc, ↓z_Asg, ↓kAs_ok, ↓kAs_exc, ↓z_tgO, t_N, t_T, t_nil, t_cons, t_G, t_gnil, t_gcons, t_bind, ↓z_Par, ↓kPar_ok, ↓z_Raise, ↓z_Break, ↓z_Cont, ↓z_For, ↓kSrc_ok, ↓w_Range, ↓w_rgF, ↓w_SeqI, ↓w_sqT, ↓w_Zip, ↓w_zpT, ↓w_Comp, ↓kCo_ok, ↓w_of, ↓kF_rt, ↓kF_nx, ↓kF_exc, ↓w_add, ↓w_sub, ↓w_pow10, ↓w_neg, ↓w_lt, ↓w_le, ↓w_gt, ↓w_ge, ↓w_ix0, ↓w_ix1, ↓w_ix2, ↓w_ix3, ↓w_eqI, ↓w_eqS, ↓w_eqT2, ↓w_abs, ↓w_lenT, ↓w_lenS, ↓w_max, ↓w_min, ↓w_intT, ↓w_intF, ↓w_isBool, ↓w_isTup, ↓w_tupT, ↓w_listT, ↓w_cutT, ↓brw_t, ↓brw_f, ↓brz_t, ↓brz_f, List.getElem?_cons_zero, List.getElem?_cons_succ, List.set_cons_zero, List.set_cons_succ, List.length_cons, List.length_nil, List.map_cons, List.map_nil, List.replicate, List.cons_append, List.nil_append, small, Nat.reduceAdd, Nat.reduceLeDiff, Nat.reduceEqDiff, Int.cast_ofNat_Int, Int.reduceBEq, BEq.rfl, ↓w_Yes, ↓w_bTru, ↓augF_ok, ↓z_Put, ↓putF_ok, ↓putG_ok, ↓w_isNn, ↓w_isNt, wipeF_nil, wipeF_cons, Int.reduceLE, Int.reduceLT, Int.reduceToNat, Int.reducePow, Int.reduceNeg, Int.reduceSub, Int.reduceAdd, Int.reduceMul, decide_true, decide_false, Bool.not_true, Bool.not_false, Bool.bne_false, Bool.bne_true, ↓w_aStar, ↓w_stT, ↓kSt_ok, ↓w_aDef, ↓kDf_ok, ↓w_Cnt, ↓w_Ext, ↓w_isBB, ↓w_isIB, w_mul (bx.mk b.b2 hA hB), w_mul (by_.mk b.b1 hA hB), w_mul (bx.mk e.b2 hA hB), w_mul (by_.mk e.b1 hA hB)]
  have e1 : x * s.b.2 + y * s.b.1 = lv x y s.b := rfl
  have e2 : x * s.e.2 + y * s.e.1 = lv x y s.e := rfl
  rw [e1, e2]
  unfold thr at kk
  by_cases h1 : lv x y s.b < 0
  · rw [decide_eq_true h1]
    simp only [↓w_ok, ↓kB_ok, ↓kI_ok, ↓w_K, ↓w_V, ↓w_vR, ↓w_Op, ↓kO1_ok, ↓kO2_ok, ↓w_Un, ↓w_bOf, ↓w_isB, ↓kBl_ok, ↓kBl_exc, ↓kIf_ok, ↓kIf_exc, ↓w_okB, ↓w_okD, ↓w_bAnd, ↓w_bOr, ↓w_bNot, ↓kNot_ok, ↓kNot_exc, ↓w_eAnd, ↓w_eOr, ↓w_eNot, ↓kNotV_ok, ↓w_eIf, ↓w_aNil, ↓w_aCons, ↓kA1_ok, ↓kA2_ok, ↓kA1_exc, ↓kA2_exc, ↓w_Tup, ↓w_Lst, ↓w_mkT, ↓w_mkL, ↓w_Dct, ↓w_Call, ↓w_goS, ↓w_Bi, ↓w_Isi, ↓w_Cut, ↓kC1_ok, ↓kC2_ok, ↓kC3_ok, ↓w_oNone, ↓w_oSome, ↓w_vO, ↓w_Chain, ↓kCh1_ok, ↓kCh2_ok, ↓kCh3_ok, ↓w_chA, ↓w_App, ↓w_Ins, ↓w_insG, ↓z_nx, ↓z_End, ↓z_Seq, ↓kT_nx, ↓kT_rt, ↓kT_bk, ↓kT_ct, ↓kT_exc, ↓z_If, ↓kIfS_ok, ↓kIfS_exc, ↓z_Ret, ↓kRet_ok, ↓kRet_exc, ↓z_Expr, ↓kNx_ok, ↓kNx_exc, ↓z_Asg, ↓kAs_ok, ↓kAs_exc, ↓z_tgO, t_N, t_T, t_nil, t_cons, t_G, t_gnil, t_gcons, t_bind, ↓z_Par, ↓kPar_ok, ↓z_Raise, ↓z_Break, ↓z_Cont, ↓z_For, ↓kSrc_ok, ↓w_Range, ↓w_rgF, ↓w_SeqI, ↓w_sqT, ↓w_Zip, ↓w_zpT, ↓w_Comp, ↓kCo_ok, ↓w_of, ↓kF_rt, ↓kF_nx, ↓kF_exc, ↓w_add, ↓w_sub, ↓w_pow10, ↓w_neg, ↓w_lt, ↓w_le, ↓w_gt, ↓w_ge, ↓w_ix0, ↓w_ix1, ↓w_ix2, ↓w_ix3, ↓w_eqI, ↓w_eqS, ↓w_eqT2, ↓w_abs, ↓w_lenT, ↓w_lenS, ↓w_max, ↓w_min, ↓w_intT, ↓w_intF, ↓w_isBool, ↓w_isTup, ↓w_tupT, ↓w_listT, ↓w_cutT, ↓brw_t, ↓brw_f, ↓brz_t, ↓brz_f, List.getElem?_cons_zero, List.getElem?_cons_succ, List.set_cons_zero, List.set_cons_succ, List.length_cons, List.length_nil, List.map_cons, List.map_nil, List.replicate, List.cons_append, List.nil_append, small, Nat.reduceAdd, Nat.reduceLeDiff, Nat.reduceEqDiff, Int.cast_ofNat_Int, Int.reduceBEq, BEq.rfl, ↓w_Yes, ↓w_bTru, ↓augF_ok, ↓z_Put, ↓putF_ok, ↓putG_ok, ↓w_isNn, ↓w_isNt, wipeF_nil, wipeF_cons, Int.reduceLE, Int.reduceLT, Int.reduceToNat, Int.reducePow, Int.reduceNeg, Int.reduceSub, Int.reduceAdd, Int.reduceMul, decide_true, decide_false, Bool.not_true, Bool.not_false, Bool.bne_false, Bool.bne_true, ↓w_aStar, ↓w_stT, ↓kSt_ok, ↓w_aDef, ↓kDf_ok, ↓w_Cnt, ↓w_Ext, ↓w_isBB, ↓w_isIB]
    rw [if_pos (.inl h1)] at kk
    exact kk
  rw [decide_eq_false h1]
  by_cases h2 : lv x y s.e < 0
  · simp only [↓w_ok, ↓kB_ok, ↓kI_ok, ↓w_K, ↓w_V, ↓w_vR, ↓w_Op, ↓kO1_ok, ↓kO2_ok, ↓w_Un, ↓w_bOf, ↓w_isB, ↓kBl_ok, ↓kBl_exc, ↓kIf_ok, ↓kIf_exc, ↓w_okB, ↓w_okD, ↓w_bAnd, ↓w_bOr, ↓w_bNot, ↓kNot_ok, ↓kNot_exc, ↓w_eAnd, ↓w_eOr, ↓w_eNot, ↓kNotV_ok, ↓w_eIf, ↓w_aNil, ↓w_aCons, ↓kA1_ok, ↓kA2_ok, ↓kA1_exc, ↓kA2_exc, ↓w_Tup, ↓w_Lst, ↓w_mkT, ↓w_mkL, ↓w_Dct, ↓w_Call, ↓w_goS, ↓w_Bi, ↓w_Isi, ↓w_Cut, ↓kC1_ok, ↓kC2_ok, ↓kC3_ok, ↓w_oNone, ↓w_oSome, ↓w_vO, ↓w_Chain, ↓kCh1_ok, ↓kCh2_ok, ↓kCh3_ok, ↓w_chA, ↓w_App, ↓w_Ins, ↓w_insG, ↓z_nx, ↓z_End, ↓z_Seq, ↓kT_nx, ↓kT_rt, ↓kT_bk, ↓kT_ct, ↓kT_exc, ↓z_If, ↓kIfS_ok, ↓kIfS_exc, ↓z_Ret, ↓kRet_ok, ↓kRet_exc, ↓z_Expr, ↓kNx_ok, ↓kNx_exc, ↓z_Asg, ↓kAs_ok, ↓kAs_exc, ↓z_tgO, t_N, t_T, t_nil, t_cons, t_G, t_gnil, t_gcons, t_bind, ↓z_Par, ↓kPar_ok, ↓z_Raise, ↓z_Break, ↓z_Cont, ↓z_For, ↓kSrc_ok, ↓w_Range, ↓w_rgF, ↓w_SeqI, ↓w_sqT, ↓w_Zip, ↓w_zpT, ↓w_Comp, ↓kCo_ok, ↓w_of, ↓kF_rt, ↓kF_nx, ↓kF_exc, ↓w_add, ↓w_sub, ↓w_pow10, ↓w_neg, ↓w_lt, ↓w_le, ↓w_gt, ↓w_ge, ↓w_ix0, ↓w_ix1, ↓w_ix2, ↓w_ix3, ↓w_eqI, ↓w_eqS, ↓w_eqT2, ↓w_abs, ↓w_lenT, ↓w_lenS, ↓w_max, ↓w_min, ↓w_intT, ↓w_intF, ↓w_isBool, ↓w_isTup, ↓w_tupT, ↓w_listT, ↓w_cutT, ↓brw_t, ↓brw_f, ↓brz_t, ↓brz_f, List.getElem?_cons_zero, List.getElem?_cons_succ, List.set_cons_zero, List.set_cons_succ, List.length_cons, List.length_nil, List.map_cons, List.map_nil, List.replicate, List.cons_append, List.nil_append, small, Nat.reduceAdd, Nat.reduceLeDiff, Nat.reduceEqDiff, Int.cast_ofNat_Int, Int.reduceBEq, BEq.rfl, ↓w_Yes, ↓w_bTru, ↓augF_ok, ↓z_Put, ↓putF_ok, ↓putG_ok, ↓w_isNn, ↓w_isNt, wipeF_nil, wipeF_cons, Int.reduceLE, Int.reduceLT, Int.reduceToNat, Int.reducePow, Int.reduceNeg, Int.reduceSub, Int.reduceAdd, Int.reduceMul, decide_true, decide_false, Bool.not_true, Bool.not_false, Bool.bne_false, Bool.bne_true, ↓w_aStar, ↓w_stT, ↓kSt_ok, ↓w_aDef, ↓kDf_ok, ↓w_Cnt, ↓w_Ext, ↓w_isBB, ↓w_isIB, decide_eq_true h2]
    rw [if_pos (.inr h2)] at kk
    exact kk
  rw [if_neg (by rintro (z | z) <;> contradiction)] at kk
  simp only [↓w_ok, ↓kB_ok, ↓kI_ok, ↓w_K, ↓w_V, ↓w_vR, ↓w_Op, ↓kO1_ok, ↓kO2_ok, ↓w_Un, ↓w_bOf, ↓w_isB, ↓kBl_ok, ↓kBl_exc, ↓kIf_ok, ↓kIf_exc, ↓w_okB, ↓w_okD, ↓w_bAnd, ↓w_bOr, ↓w_bNot, ↓kNot_ok, ↓kNot_exc, ↓w_eAnd, ↓w_eOr, ↓w_eNot, ↓kNotV_ok, ↓w_eIf, ↓w_aNil, ↓w_aCons, ↓kA1_ok, ↓kA2_ok, ↓kA1_exc, ↓kA2_exc, ↓w_Tup, ↓w_Lst, ↓w_mkT, ↓w_mkL, ↓w_Dct, ↓w_Call, ↓w_goS, ↓w_Bi, ↓w_Isi, ↓w_Cut, ↓kC1_ok, ↓kC2_ok, ↓kC3_ok, ↓w_oNone, ↓w_oSome, ↓w_vO, ↓w_Chain, ↓kCh1_ok, ↓kCh2_ok, ↓kCh3_ok, ↓w_chA, ↓w_App, ↓w_Ins, ↓w_insG, ↓z_nx, ↓z_End, ↓z_Seq, ↓kT_nx, ↓kT_rt, ↓kT_bk, ↓kT_ct, ↓kT_exc, ↓z_If, ↓kIfS_ok, ↓kIfS_exc, ↓z_Ret, ↓kRet_ok, ↓kRet_exc, ↓z_Expr, ↓kNx_ok, ↓kNx_exc, ↓z_Asg, ↓kAs_ok, ↓kAs_exc, ↓z_tgO, t_N, t_T, t_nil, t_cons, t_G, t_gnil, t_gcons, t_bind, ↓z_Par, ↓kPar_ok, ↓z_Raise, ↓z_Break, ↓z_Cont, ↓z_For, ↓kSrc_ok, ↓w_Range, ↓w_rgF, ↓w_SeqI, ↓w_sqT, ↓w_Zip, ↓w_zpT, ↓w_Comp, ↓kCo_ok, ↓w_of, ↓kF_rt, ↓kF_nx, ↓kF_exc, ↓w_add, ↓w_sub, ↓w_pow10, ↓w_neg, ↓w_lt, ↓w_le, ↓w_gt, ↓w_ge, ↓w_ix0, ↓w_ix1, ↓w_ix2, ↓w_ix3, ↓w_eqI, ↓w_eqS, ↓w_eqT2, ↓w_abs, ↓w_lenT, ↓w_lenS, ↓w_max, ↓w_min, ↓w_intT, ↓w_intF, ↓w_isBool, ↓w_isTup, ↓w_tupT, ↓w_listT, ↓w_cutT, ↓brw_t, ↓brw_f, ↓brz_t, ↓brz_f, List.getElem?_cons_zero, List.getElem?_cons_succ, List.set_cons_zero, List.set_cons_succ, List.length_cons, List.length_nil, List.map_cons, List.map_nil, List.replicate, List.cons_append, List.nil_append, small, Nat.reduceAdd, Nat.reduceLeDiff, Nat.reduceEqDiff, Int.cast_ofNat_Int, Int.reduceBEq, BEq.rfl, ↓w_Yes, ↓w_bTru, ↓augF_ok, ↓z_Put, ↓putF_ok, ↓putG_ok, ↓w_isNn, ↓w_isNt, wipeF_nil, wipeF_cons, Int.reduceLE, Int.reduceLT, Int.reduceToNat, Int.reducePow, Int.reduceNeg, Int.reduceSub, Int.reduceAdd, Int.reduceMul, decide_true, decide_false, Bool.not_true, Bool.not_false, Bool.bne_false, Bool.bne_true, ↓w_aStar, ↓w_stT, ↓kSt_ok, ↓w_aDef, ↓kDf_ok, ↓w_Cnt, ↓w_Ext, ↓w_isBB, ↓w_isIB, decide_eq_false h2]
  cases ab with
  | false =>
    simp only [↓w_ok, ↓kB_ok, ↓kI_ok, ↓w_K, ↓w_V, ↓w_vR, ↓w_Op, ↓kO1_ok, ↓kO2_ok, ↓w_Un, ↓w_bOf, ↓w_isB, ↓kBl_ok, ↓kBl_exc, ↓kIf_ok, ↓kIf_exc, ↓w_okB, ↓w_okD, ↓w_bAnd, ↓w_bOr, ↓w_bNot, ↓kNot_ok, ↓kNot_exc, ↓w_eAnd, ↓w_eOr, ↓w_eNot, ↓kNotV_ok, ↓w_eIf, ↓w_aNil, ↓w_aCons, ↓kA1_ok, ↓kA2_ok, ↓kA1_exc, ↓kA2_exc, ↓w_Tup, ↓w_Lst, ↓w_mkT, ↓w_mkL, ↓w_Dct, ↓w_Call, ↓w_goS, ↓w_Bi, ↓w_Isi, ↓w_Cut, ↓kC1_ok, ↓kC2_ok, ↓kC3_ok, ↓w_oNone, ↓w_oSome, ↓w_vO, ↓w_Chain, ↓kCh1_ok, ↓kCh2_ok, ↓kCh3_ok, ↓w_chA, ↓w_App, ↓w_Ins, ↓w_insG, ↓z_nx, ↓z_End, ↓z_Seq, ↓kT_nx, ↓kT_rt, ↓kT_bk, ↓kT_ct, ↓kT_exc, ↓z_If, ↓kIfS_ok, ↓kIfS_exc, ↓z_Ret, ↓kRet_ok, ↓kRet_exc, ↓z_Expr, ↓kNx_ok, ↓kNx_exc, ↓z_Asg, ↓kAs_ok, ↓kAs_exc, ↓z_tgO, t_N, t_T, t_nil, t_cons, t_G, t_gnil, t_gcons, t_bind, ↓z_Par, ↓kPar_ok, ↓z_Raise, ↓z_Break, ↓z_Cont, ↓z_For, ↓kSrc_ok, ↓w_Range, ↓w_rgF, ↓w_SeqI, ↓w_sqT, ↓w_Zip, ↓w_zpT, ↓w_Comp, ↓kCo_ok, ↓w_of, ↓kF_rt, ↓kF_nx, ↓kF_exc, ↓w_add, ↓w_sub, ↓w_pow10, ↓w_neg, ↓w_lt, ↓w_le, ↓w_gt, ↓w_ge, ↓w_ix0, ↓w_ix1, ↓w_ix2, ↓w_ix3, ↓w_eqI, ↓w_eqS, ↓w_eqT2, ↓w_abs, ↓w_lenT, ↓w_lenS, ↓w_max, ↓w_min, ↓w_intT, ↓w_intF, ↓w_isBool, ↓w_isTup, ↓w_tupT, ↓w_listT, ↓w_cutT, ↓brw_t, ↓brw_f, ↓brz_t, ↓brz_f, List.getElem?_cons_zero, List.getElem?_cons_succ, List.set_cons_zero, List.set_cons_succ, List.length_cons, List.length_nil, List.map_cons, List.map_nil, List.replicate, List.cons_append, List.nil_append, small, Nat.reduceAdd, Nat.reduceLeDiff, Nat.reduceEqDiff, Int.cast_ofNat_Int, Int.reduceBEq, BEq.rfl, ↓w_Yes, ↓w_bTru, ↓augF_ok, ↓z_Put, ↓putF_ok, ↓putG_ok, ↓w_isNn, ↓w_isNt, wipeF_nil, wipeF_cons, Int.reduceLE, Int.reduceLT, Int.reduceToNat, Int.reducePow, Int.reduceNeg, Int.reduceSub, Int.reduceAdd, Int.reduceMul, decide_true, decide_false, Bool.not_true, Bool.not_false, Bool.bne_false, Bool.bne_true, ↓w_aStar, ↓w_stT, ↓kSt_ok, ↓w_aDef, ↓kDf_ok, ↓w_Cnt, ↓w_Ext, ↓w_isBB, ↓w_isIB]
    exact kk
  | true =>
    simp only [↓w_ok, ↓kB_ok, ↓kI_ok, ↓w_K, ↓w_V, ↓w_vR, ↓w_Op, ↓kO1_ok, ↓kO2_ok, ↓w_Un, ↓w_bOf, ↓w_isB, ↓kBl_ok, ↓kBl_exc, ↓kIf_ok, ↓kIf_exc, ↓w_okB, ↓w_okD, ↓w_bAnd, ↓w_bOr, ↓w_bNot, ↓kNot_ok, ↓kNot_exc, ↓w_eAnd, ↓w_eOr, ↓w_eNot, ↓kNotV_ok, ↓w_eIf, ↓w_aNil, ↓w_aCons, ↓kA1_ok, ↓kA2_ok, ↓kA1_exc, ↓kA2_exc, ↓w_Tup, ↓w_Lst, ↓w_mkT, ↓w_mkL, ↓w_Dct, ↓w_Call, ↓w_goS, ↓w_Bi, ↓w_Isi, ↓w_Cut, ↓kC1_ok, ↓kC2_ok, ↓kC3_ok, ↓w_oNone, ↓w_oSome, ↓w_vO, ↓w_Chain, ↓kCh1_ok, ↓kCh2_ok, ↓kCh3_ok, ↓w_chA, ↓w_App, ↓w_Ins, ↓w_insG, ↓z_nx, ↓z_End, ↓z_Seq, ↓kT_nx, ↓kT_rt, ↓kT_bk, ↓kT_ct, ↓kT_exc, ↓z_If, ↓kIfS_ok, ↓kIfS_exc, ↓z_Ret, ↓kRet_ok, ↓kRet_exc, ↓z_Expr, ↓kNx_ok, ↓kNx_exc, ↓z_Asg, ↓kAs_ok, ↓kAs_exc, ↓z_tgO, t_N, t_T, t_nil, t_cons, t_G, t_gnil, t_gcons, t_bind, ↓z_Par, ↓kPar_ok, ↓z_Raise, ↓z_Break, ↓z_Cont, ↓z_For, ↓kSrc_ok, ↓w_Range, ↓w_rgF, ↓w_SeqI, ↓w_sqT, ↓w_Zip, ↓w_zpT, ↓w_Comp, ↓kCo_ok, ↓w_of, ↓kF_rt, ↓kF_nx, ↓kF_exc, ↓w_add, ↓w_sub, ↓w_pow10, ↓w_neg, ↓w_lt, ↓w_le, ↓w_gt, ↓w_ge, ↓w_ix0, ↓w_ix1, ↓w_ix2, ↓w_ix3, ↓w_eqI, ↓w_eqS, ↓w_eqT2, ↓w_abs, ↓w_lenT, ↓w_lenS, ↓w_max, ↓w_min, ↓w_intT, ↓w_intF, ↓w_isBool, ↓w_isTup, ↓w_tupT, ↓w_listT, ↓w_cutT, ↓brw_t, ↓brw_f, ↓brz_t, ↓brz_f, List.getElem?_cons_zero, List.getElem?_cons_succ, List.set_cons_zero, List.set_cons_succ, List.length_cons, List.length_nil, List.map_cons, List.map_nil, List.replicate, List.cons_append, List.nil_append, small, Nat.reduceAdd, Nat.reduceLeDiff, Nat.reduceEqDiff, Int.cast_ofNat_Int, Int.reduceBEq, BEq.rfl, ↓w_Yes, ↓w_bTru, ↓augF_ok, ↓z_Put, ↓putF_ok, ↓putG_ok, ↓w_isNn, ↓w_isNt, wipeF_nil, wipeF_cons, Int.reduceLE, Int.reduceLT, Int.reduceToNat, Int.reducePow, Int.reduceNeg, Int.reduceSub, Int.reduceAdd, Int.reduceMul, decide_true, decide_false, Bool.not_true, Bool.not_false, Bool.bne_false, Bool.bne_true, ↓w_aStar, ↓w_stT, ↓kSt_ok, ↓w_aDef, ↓kDf_ok, ↓w_Cnt, ↓w_Ext, ↓w_isBB, ↓w_isIB]
    rw [if_neg (by simp)] at kk
    have fin : ∀ Ψ : Rs D → Prop, Ψ (.ok (.bl (decide (0 < lv x y s.e) || !s.we)) h) → W (eOr (eOp dGt (eV 12) (eK (D.int 0))) (eNot (eV 10)) [some (D.tup [D.int x, D.int y, D.bl true]), some (dsp s), some (D.int x), some (D.int y), some (D.bl true), some (D.int s.b.fst), some (D.int s.b.snd), some (D.bl s.wb), some (D.int s.e.fst), some (D.int s.e.snd), some (D.bl s.we), some (D.int (lv x y s.b)), some (D.int (lv x y s.e))] h) Ψ := by
      intro Ψ hΨ
      simp only [↓w_ok, ↓kB_ok, ↓kI_ok, ↓w_K, ↓w_V, ↓w_vR, ↓w_Op, ↓kO1_ok, ↓kO2_ok, ↓w_Un, ↓w_bOf, ↓w_isB, ↓kBl_ok, ↓kBl_exc, ↓kIf_ok, ↓kIf_exc, ↓w_okB, ↓w_okD, ↓w_bAnd, ↓w_bOr, ↓w_bNot, ↓kNot_ok, ↓kNot_exc, ↓w_eAnd, ↓w_eOr, ↓w_eNot, ↓kNotV_ok, ↓w_eIf, ↓w_aNil, ↓w_aCons, ↓kA1_ok, ↓kA2_ok, ↓kA1_exc, ↓kA2_exc, ↓w_Tup, ↓w_Lst, ↓w_mkT, ↓w_mkL, ↓w_Dct, ↓w_Call, ↓w_goS, ↓w_Bi, ↓w_Isi, ↓w_Cut, ↓kC1_ok, ↓kC2_ok, ↓kC3_ok, ↓w_oNone, ↓w_oSome, ↓w_vO, ↓w_Chain, ↓kCh1_ok, ↓kCh2_ok, ↓kCh3_ok, ↓w_chA, ↓w_App, ↓w_Ins, ↓w_insG, ↓z_nx, ↓z_End, ↓z_Seq, ↓kT_nx, ↓kT_rt, ↓kT_bk, ↓kT_ct, ↓kT_exc, ↓z_If, ↓kIfS_ok, ↓kIfS_exc, ↓z_Ret, ↓kRet_ok, ↓kRet_exc, ↓z_Expr, ↓kNx_ok, ↓kNx_exc, ↓z_Asg, ↓kAs_ok, ↓kAs_exc, ↓z_tgO, t_N, t_T, t_nil, t_cons, t_G, t_gnil, t_gcons, t_bind, ↓z_Par, ↓kPar_ok, ↓z_Raise, ↓z_Break, ↓z_Cont, ↓z_For, ↓kSrc_ok, ↓w_Range, ↓w_rgF, ↓w_SeqI, ↓w_sqT, ↓w_Zip, ↓w_zpT, ↓w_Comp, ↓kCo_ok, ↓w_of, ↓kF_rt, ↓kF_nx, ↓kF_exc, ↓w_add, ↓w_sub, ↓w_pow10, ↓w_neg, ↓w_lt, ↓w_le, ↓w_gt, ↓w_ge, ↓w_ix0, ↓w_ix1, ↓w_ix2, ↓w_ix3, ↓w_eqI, ↓w_eqS, ↓w_eqT2, ↓w_abs, ↓w_lenT, ↓w_lenS, ↓w_max, ↓w_min, ↓w_intT, ↓w_intF, ↓w_isBool, ↓w_isTup, ↓w_tupT, ↓w_listT, ↓w_cutT, ↓brw_t, ↓brw_f, ↓brz_t, ↓brz_f, List.getElem?_cons_zero, List.getElem?_cons_succ, List.set_cons_zero, List.set_cons_succ, List.length_cons, List.length_nil, List.map_cons, List.map_nil, List.replicate, List.cons_append, List.nil_append, small, Nat.reduceAdd, Nat.reduceLeDiff, Nat.reduceEqDiff, Int.cast_ofNat_Int, Int.reduceBEq, BEq.rfl, ↓w_Yes, ↓w_bTru, ↓augF_ok, ↓z_Put, ↓putF_ok, ↓putG_ok, ↓w_isNn, ↓w_isNt, wipeF_nil, wipeF_cons, Int.reduceLE, Int.reduceLT, Int.reduceToNat, Int.reducePow, Int.reduceNeg, Int.reduceSub, Int.reduceAdd, Int.reduceMul, decide_true, decide_false, Bool.not_true, Bool.not_false, Bool.bne_false, Bool.bne_true, ↓w_aStar, ↓w_stT, ↓kSt_ok, ↓w_aDef, ↓kDf_ok, ↓w_Cnt, ↓w_Ext, ↓w_isBB, ↓w_isIB]
      cases hd : decide (0 < lv x y s.e) with
      | true => rw [hd] at hΨ; simp only [↓w_ok, ↓kB_ok, ↓kI_ok, ↓w_K, ↓w_V, ↓w_vR, ↓w_Op, ↓kO1_ok, ↓kO2_ok, ↓w_Un, ↓w_bOf, ↓w_isB, ↓kBl_ok, ↓kBl_exc, ↓kIf_ok, ↓kIf_exc, ↓w_okB, ↓w_okD, ↓w_bAnd, ↓w_bOr, ↓w_bNot, ↓kNot_ok, ↓kNot_exc, ↓w_eAnd, ↓w_eOr, ↓w_eNot, ↓kNotV_ok, ↓w_eIf, ↓w_aNil, ↓w_aCons, ↓kA1_ok, ↓kA2_ok, ↓kA1_exc, ↓kA2_exc, ↓w_Tup, ↓w_Lst, ↓w_mkT, ↓w_mkL, ↓w_Dct, ↓w_Call, ↓w_goS, ↓w_Bi, ↓w_Isi, ↓w_Cut, ↓kC1_ok, ↓kC2_ok, ↓kC3_ok, ↓w_oNone, ↓w_oSome, ↓w_vO, ↓w_Chain, ↓kCh1_ok, ↓kCh2_ok, ↓kCh3_ok, ↓w_chA, ↓w_App, ↓w_Ins, ↓w_insG, ↓z_nx, ↓z_End, ↓z_Seq, ↓kT_nx, ↓kT_rt, ↓kT_bk, ↓kT_ct, ↓kT_exc, ↓z_If, ↓kIfS_ok, ↓kIfS_exc, ↓z_Ret, ↓kRet_ok, ↓kRet_exc, ↓z_Expr, ↓kNx_ok, ↓kNx_exc, ↓z_Asg, ↓kAs_ok, ↓kAs_exc, ↓z_tgO, t_N, t_T, t_nil, t_cons, t_G, t_gnil, t_gcons, t_bind, ↓z_Par, ↓kPar_ok, ↓z_Raise, ↓z_Break, ↓z_Cont, ↓z_For, ↓kSrc_ok, ↓w_Range, ↓w_rgF, ↓w_SeqI, ↓w_sqT, ↓w_Zip, ↓w_zpT, ↓w_Comp, ↓kCo_ok, ↓w_of, ↓kF_rt, ↓kF_nx, ↓kF_exc, ↓w_add, ↓w_sub, ↓w_pow10, ↓w_neg, ↓w_lt, ↓w_le, ↓w_gt, ↓w_ge, ↓w_ix0, ↓w_ix1, ↓w_ix2, ↓w_ix3, ↓w_eqI, ↓w_eqS, ↓w_eqT2, ↓w_abs, ↓w_lenT, ↓w_lenS, ↓w_max, ↓w_min, ↓w_intT, ↓w_intF, ↓w_isBool, ↓w_isTup, ↓w_tupT, ↓w_listT, ↓w_cutT, ↓brw_t, ↓brw_f, ↓brz_t, ↓brz_f, List.getElem?_cons_zero, List.getElem?_cons_succ, List.set_cons_zero, List.set_cons_succ, List.length_cons, List.length_nil, List.map_cons, List.map_nil, List.replicate, List.cons_append, List.nil_append, small, Nat.reduceAdd, Nat.reduceLeDiff, Nat.reduceEqDiff, Int.cast_ofNat_Int, Int.reduceBEq, BEq.rfl, ↓w_Yes, ↓w_bTru, ↓augF_ok, ↓z_Put, ↓putF_ok, ↓putG_ok, ↓w_isNn, ↓w_isNt, wipeF_nil, wipeF_cons, Int.reduceLE, Int.reduceLT, Int.reduceToNat, Int.reducePow, Int.reduceNeg, Int.reduceSub, Int.reduceAdd, Int.reduceMul, decide_true, decide_false, Bool.not_true, Bool.not_false, Bool.bne_false, Bool.bne_true, ↓w_aStar, ↓w_stT, ↓kSt_ok, ↓w_aDef, ↓kDf_ok, ↓w_Cnt, ↓w_Ext, ↓w_isBB, ↓w_isIB]; exact hΨ
      | false => rw [hd] at hΨ; simp only [↓w_ok, ↓kB_ok, ↓kI_ok, ↓w_K, ↓w_V, ↓w_vR, ↓w_Op, ↓kO1_ok, ↓kO2_ok, ↓w_Un, ↓w_bOf, ↓w_isB, ↓kBl_ok, ↓kBl_exc, ↓kIf_ok, ↓kIf_exc, ↓w_okB, ↓w_okD, ↓w_bAnd, ↓w_bOr, ↓w_bNot, ↓kNot_ok, ↓kNot_exc, ↓w_eAnd, ↓w_eOr, ↓w_eNot, ↓kNotV_ok, ↓w_eIf, ↓w_aNil, ↓w_aCons, ↓kA1_ok, ↓kA2_ok, ↓kA1_exc, ↓kA2_exc, ↓w_Tup, ↓w_Lst, ↓w_mkT, ↓w_mkL, ↓w_Dct, ↓w_Call, ↓w_goS, ↓w_Bi, ↓w_Isi, ↓w_Cut, ↓kC1_ok, ↓kC2_ok, ↓kC3_ok, ↓w_oNone, ↓w_oSome, ↓w_vO, ↓w_Chain, ↓kCh1_ok, ↓kCh2_ok, ↓kCh3_ok, ↓w_chA, ↓w_App, ↓w_Ins, ↓w_insG, ↓z_nx, ↓z_End, ↓z_Seq, ↓kT_nx, ↓kT_rt, ↓kT_bk, ↓kT_ct, ↓kT_exc, ↓z_If, ↓kIfS_ok, ↓kIfS_exc, ↓z_Ret, ↓kRet_ok, ↓kRet_exc, ↓z_Expr, ↓kNx_ok, ↓kNx_exc, ↓z_Asg, ↓kAs_ok, ↓kAs_exc, ↓z_tgO, t_N, t_T, t_nil, t_cons, t_G, t_gnil, t_gcons, t_bind, ↓z_Par, ↓kPar_ok, ↓z_Raise, ↓z_Break, ↓z_Cont, ↓z_For, ↓kSrc_ok, ↓w_Range, ↓w_rgF, ↓w_SeqI, ↓w_sqT, ↓w_Zip, ↓w_zpT, ↓w_Comp, ↓kCo_ok, ↓w_of, ↓kF_rt, ↓kF_nx, ↓kF_exc, ↓w_add, ↓w_sub, ↓w_pow10, ↓w_neg, ↓w_lt, ↓w_le, ↓w_gt, ↓w_ge, ↓w_ix0, ↓w_ix1, ↓w_ix2, ↓w_ix3, ↓w_eqI, ↓w_eqS, ↓w_eqT2, ↓w_abs, ↓w_lenT, ↓w_lenS, ↓w_max, ↓w_min, ↓w_intT, ↓w_intF, ↓w_isBool, ↓w_isTup, ↓w_tupT, ↓w_listT, ↓w_cutT, ↓brw_t, ↓brw_f, ↓brz_t, ↓brz_f, List.getElem?_cons_zero, List.getElem?_cons_succ, List.set_cons_zero, List.set_cons_succ, List.length_cons, List.length_nil, List.map_cons, List.map_nil, List.replicate, List.cons_append, List.nil_append, small, Nat.reduceAdd, Nat.reduceLeDiff, Nat.reduceEqDiff, Int.cast_ofNat_Int, Int.reduceBEq, BEq.rfl, ↓w_Yes, ↓w_bTru, ↓augF_ok, ↓z_Put, ↓putF_ok, ↓putG_ok, ↓w_isNn, ↓w_isNt, wipeF_nil, wipeF_cons, Int.reduceLE, Int.reduceLT, Int.reduceToNat, Int.reducePow, Int.reduceNeg, Int.reduceSub, Int.reduceAdd, Int.reduceMul, decide_true, decide_false, Bool.not_true, Bool.not_false, Bool.bne_false, Bool.bne_true, ↓w_aStar, ↓w_stT, ↓kSt_ok, ↓w_aDef, ↓kDf_ok, ↓w_Cnt, ↓w_Ext, ↓w_isBB, ↓w_isIB]; exact hΨ
    by_cases h3 : lv x y s.b = 0
    · have b3 : (lv x y s.b == 0) = true := by simpa using h3
      by_cases h4 : s.wb = true ∨ lv x y s.e = 0
      · rw [if_pos ⟨h3, h4⟩] at kk
        cases hw : s.wb with
        | true => simp only [↓w_ok, ↓kB_ok, ↓kI_ok, ↓w_K, ↓w_V, ↓w_vR, ↓w_Op, ↓kO1_ok, ↓kO2_ok, ↓w_Un, ↓w_bOf, ↓w_isB, ↓kBl_ok, ↓kBl_exc, ↓kIf_ok, ↓kIf_exc, ↓w_okB, ↓w_okD, ↓w_bAnd, ↓w_bOr, ↓w_bNot, ↓kNot_ok, ↓kNot_exc, ↓w_eAnd, ↓w_eOr, ↓w_eNot, ↓kNotV_ok, ↓w_eIf, ↓w_aNil, ↓w_aCons, ↓kA1_ok, ↓kA2_ok, ↓kA1_exc, ↓kA2_exc, ↓w_Tup, ↓w_Lst, ↓w_mkT, ↓w_mkL, ↓w_Dct, ↓w_Call, ↓w_goS, ↓w_Bi, ↓w_Isi, ↓w_Cut, ↓kC1_ok, ↓kC2_ok, ↓kC3_ok, ↓w_oNone, ↓w_oSome, ↓w_vO, ↓w_Chain, ↓kCh1_ok, ↓kCh2_ok, ↓kCh3_ok, ↓w_chA, ↓w_App, ↓w_Ins, ↓w_insG, ↓z_nx, ↓z_End, ↓z_Seq, ↓kT_nx, ↓kT_rt, ↓kT_bk, ↓kT_ct, ↓kT_exc, ↓z_If, ↓kIfS_ok, ↓kIfS_exc, ↓z_Ret, ↓kRet_ok, ↓kRet_exc, ↓z_Expr, ↓kNx_ok, ↓kNx_exc, ↓z_Asg, ↓kAs_ok, ↓kAs_exc, ↓z_tgO, t_N, t_T, t_nil, t_cons, t_G, t_gnil, t_gcons, t_bind, ↓z_Par, ↓kPar_ok, ↓z_Raise, ↓z_Break, ↓z_Cont, ↓z_For, ↓kSrc_ok, ↓w_Range, ↓w_rgF, ↓w_SeqI, ↓w_sqT, ↓w_Zip, ↓w_zpT, ↓w_Comp, ↓kCo_ok, ↓w_of, ↓kF_rt, ↓kF_nx, ↓kF_exc, ↓w_add, ↓w_sub, ↓w_pow10, ↓w_neg, ↓w_lt, ↓w_le, ↓w_gt, ↓w_ge, ↓w_ix0, ↓w_ix1, ↓w_ix2, ↓w_ix3, ↓w_eqI, ↓w_eqS, ↓w_eqT2, ↓w_abs, ↓w_lenT, ↓w_lenS, ↓w_max, ↓w_min, ↓w_intT, ↓w_intF, ↓w_isBool, ↓w_isTup, ↓w_tupT, ↓w_listT, ↓w_cutT, ↓brw_t, ↓brw_f, ↓brz_t, ↓brz_f, List.getElem?_cons_zero, List.getElem?_cons_succ, List.set_cons_zero, List.set_cons_succ, List.length_cons, List.length_nil, List.map_cons, List.map_nil, List.replicate, List.cons_append, List.nil_append, small, Nat.reduceAdd, Nat.reduceLeDiff, Nat.reduceEqDiff, Int.cast_ofNat_Int, Int.reduceBEq, BEq.rfl, ↓w_Yes, ↓w_bTru, ↓augF_ok, ↓z_Put, ↓putF_ok, ↓putG_ok, ↓w_isNn, ↓w_isNt, wipeF_nil, wipeF_cons, Int.reduceLE, Int.reduceLT, Int.reduceToNat, Int.reducePow, Int.reduceNeg, Int.reduceSub, Int.reduceAdd, Int.reduceMul, decide_true, decide_false, Bool.not_true, Bool.not_false, Bool.bne_false, Bool.bne_true, ↓w_aStar, ↓w_stT, ↓kSt_ok, ↓w_aDef, ↓kDf_ok, ↓w_Cnt, ↓w_Ext, ↓w_isBB, ↓w_isIB, b3, hw]; exact kk
        | false =>
          have b4 : (lv x y s.e == 0) = true := by
            rcases h4 with h4 | h4
            · rw [hw] at h4; cases h4
            · simpa using h4
          simp only [↓w_ok, ↓kB_ok, ↓kI_ok, ↓w_K, ↓w_V, ↓w_vR, ↓w_Op, ↓kO1_ok, ↓kO2_ok, ↓w_Un, ↓w_bOf, ↓w_isB, ↓kBl_ok, ↓kBl_exc, ↓kIf_ok, ↓kIf_exc, ↓w_okB, ↓w_okD, ↓w_bAnd, ↓w_bOr, ↓w_bNot, ↓kNot_ok, ↓kNot_exc, ↓w_eAnd, ↓w_eOr, ↓w_eNot, ↓kNotV_ok, ↓w_eIf, ↓w_aNil, ↓w_aCons, ↓kA1_ok, ↓kA2_ok, ↓kA1_exc, ↓kA2_exc, ↓w_Tup, ↓w_Lst, ↓w_mkT, ↓w_mkL, ↓w_Dct, ↓w_Call, ↓w_goS, ↓w_Bi, ↓w_Isi, ↓w_Cut, ↓kC1_ok, ↓kC2_ok, ↓kC3_ok, ↓w_oNone, ↓w_oSome, ↓w_vO, ↓w_Chain, ↓kCh1_ok, ↓kCh2_ok, ↓kCh3_ok, ↓w_chA, ↓w_App, ↓w_Ins, ↓w_insG, ↓z_nx, ↓z_End, ↓z_Seq, ↓kT_nx, ↓kT_rt, ↓kT_bk, ↓kT_ct, ↓kT_exc, ↓z_If, ↓kIfS_ok, ↓kIfS_exc, ↓z_Ret, ↓kRet_ok, ↓kRet_exc, ↓z_Expr, ↓kNx_ok, ↓kNx_exc, ↓z_Asg, ↓kAs_ok, ↓kAs_exc, ↓z_tgO, t_N, t_T, t_nil, t_cons, t_G, t_gnil, t_gcons, t_bind, ↓z_Par, ↓kPar_ok, ↓z_Raise, ↓z_Break, ↓z_Cont, ↓z_For, ↓kSrc_ok, ↓w_Range, ↓w_rgF, ↓w_SeqI, ↓w_sqT, ↓w_Zip, ↓w_zpT, ↓w_Comp, ↓kCo_ok, ↓w_of, ↓kF_rt, ↓kF_nx, ↓kF_exc, ↓w_add, ↓w_sub, ↓w_pow10, ↓w_neg, ↓w_lt, ↓w_le, ↓w_gt, ↓w_ge, ↓w_ix0, ↓w_ix1, ↓w_ix2, ↓w_ix3, ↓w_eqI, ↓w_eqS, ↓w_eqT2, ↓w_abs, ↓w_lenT, ↓w_lenS, ↓w_max, ↓w_min, ↓w_intT, ↓w_intF, ↓w_isBool, ↓w_isTup, ↓w_tupT, ↓w_listT, ↓w_cutT, ↓brw_t, ↓brw_f, ↓brz_t, ↓brz_f, List.getElem?_cons_zero, List.getElem?_cons_succ, List.set_cons_zero, List.set_cons_succ, List.length_cons, List.length_nil, List.map_cons, List.map_nil, List.replicate, List.cons_append, List.nil_append, small, Nat.reduceAdd, Nat.reduceLeDiff, Nat.reduceEqDiff, Int.cast_ofNat_Int, Int.reduceBEq, BEq.rfl, ↓w_Yes, ↓w_bTru, ↓augF_ok, ↓z_Put, ↓putF_ok, ↓putG_ok, ↓w_isNn, ↓w_isNt, wipeF_nil, wipeF_cons, Int.reduceLE, Int.reduceLT, Int.reduceToNat, Int.reducePow, Int.reduceNeg, Int.reduceSub, Int.reduceAdd, Int.reduceMul, decide_true, decide_false, Bool.not_true, Bool.not_false, Bool.bne_false, Bool.bne_true, ↓w_aStar, ↓w_stT, ↓kSt_ok, ↓w_aDef, ↓kDf_ok, ↓w_Cnt, ↓w_Ext, ↓w_isBB, ↓w_isIB, b3, hw, b4]
          exact kk
      · rw [if_neg (fun z => h4 z.2)] at kk
        have hw : s.wb = false := by cases hq : s.wb; rfl; exact absurd (.inl hq) h4
        have b4 : (lv x y s.e == 0) = false := by simpa using fun z => h4 (.inr z)
        have f := fin (kRet (kT sEnd (kF Φ))) (by simp only [↓w_ok, ↓kB_ok, ↓kI_ok, ↓w_K, ↓w_V, ↓w_vR, ↓w_Op, ↓kO1_ok, ↓kO2_ok, ↓w_Un, ↓w_bOf, ↓w_isB, ↓kBl_ok, ↓kBl_exc, ↓kIf_ok, ↓kIf_exc, ↓w_okB, ↓w_okD, ↓w_bAnd, ↓w_bOr, ↓w_bNot, ↓kNot_ok, ↓kNot_exc, ↓w_eAnd, ↓w_eOr, ↓w_eNot, ↓kNotV_ok, ↓w_eIf, ↓w_aNil, ↓w_aCons, ↓kA1_ok, ↓kA2_ok, ↓kA1_exc, ↓kA2_exc, ↓w_Tup, ↓w_Lst, ↓w_mkT, ↓w_mkL, ↓w_Dct, ↓w_Call, ↓w_goS, ↓w_Bi, ↓w_Isi, ↓w_Cut, ↓kC1_ok, ↓kC2_ok, ↓kC3_ok, ↓w_oNone, ↓w_oSome, ↓w_vO, ↓w_Chain, ↓kCh1_ok, ↓kCh2_ok, ↓kCh3_ok, ↓w_chA, ↓w_App, ↓w_Ins, ↓w_insG, ↓z_nx, ↓z_End, ↓z_Seq, ↓kT_nx, ↓kT_rt, ↓kT_bk, ↓kT_ct, ↓kT_exc, ↓z_If, ↓kIfS_ok, ↓kIfS_exc, ↓z_Ret, ↓kRet_ok, ↓kRet_exc, ↓z_Expr, ↓kNx_ok, ↓kNx_exc, ↓z_Asg, ↓kAs_ok, ↓kAs_exc, ↓z_tgO, t_N, t_T, t_nil, t_cons, t_G, t_gnil, t_gcons, t_bind, ↓z_Par, ↓kPar_ok, ↓z_Raise, ↓z_Break, ↓z_Cont, ↓z_For, ↓kSrc_ok, ↓w_Range, ↓w_rgF, ↓w_SeqI, ↓w_sqT, ↓w_Zip, ↓w_zpT, ↓w_Comp, ↓kCo_ok, ↓w_of, ↓kF_rt, ↓kF_nx, ↓kF_exc, ↓w_add, ↓w_sub, ↓w_pow10, ↓w_neg, ↓w_lt, ↓w_le, ↓w_gt, ↓w_ge, ↓w_ix0, ↓w_ix1, ↓w_ix2, ↓w_ix3, ↓w_eqI, ↓w_eqS, ↓w_eqT2, ↓w_abs, ↓w_lenT, ↓w_lenS, ↓w_max, ↓w_min, ↓w_intT, ↓w_intF, ↓w_isBool, ↓w_isTup, ↓w_tupT, ↓w_listT, ↓w_cutT, ↓brw_t, ↓brw_f, ↓brz_t, ↓brz_f, List.getElem?_cons_zero, List.getElem?_cons_succ, List.set_cons_zero, List.set_cons_succ, List.length_cons, List.length_nil, List.map_cons, List.map_nil, List.replicate, List.cons_append, List.nil_append, small, Nat.reduceAdd, Nat.reduceLeDiff, Nat.reduceEqDiff, Int.cast_ofNat_Int, Int.reduceBEq, BEq.rfl, ↓w_Yes, ↓w_bTru, ↓augF_ok, ↓z_Put, ↓putF_ok, ↓putG_ok, ↓w_isNn, ↓w_isNt, wipeF_nil, wipeF_cons, Int.reduceLE, Int.reduceLT, Int.reduceToNat, Int.reducePow, Int.reduceNeg, Int.reduceSub, Int.reduceAdd, Int.reduceMul, decide_true, decide_false, Bool.not_true, Bool.not_false, Bool.bne_false, Bool.bne_true, ↓w_aStar, ↓w_stT, ↓kSt_ok, ↓w_aDef, ↓kDf_ok, ↓w_Cnt, ↓w_Ext, ↓w_isBB, ↓w_isIB]; exact kk)
        revert f
        simp only [↓w_ok, ↓kB_ok, ↓kI_ok, ↓w_K, ↓w_V, ↓w_vR, ↓w_Op, ↓kO1_ok, ↓kO2_ok, ↓w_Un, ↓w_bOf, ↓w_isB, ↓kBl_ok, ↓kBl_exc, ↓kIf_ok, ↓kIf_exc, ↓w_okB, ↓w_okD, ↓w_bAnd, ↓w_bOr, ↓w_bNot, ↓kNot_ok, ↓kNot_exc, ↓w_eAnd, ↓w_eOr, ↓w_eNot, ↓kNotV_ok, ↓w_eIf, ↓w_aNil, ↓w_aCons, ↓kA1_ok, ↓kA2_ok, ↓kA1_exc, ↓kA2_exc, ↓w_Tup, ↓w_Lst, ↓w_mkT, ↓w_mkL, ↓w_Dct, ↓w_Call, ↓w_goS, ↓w_Bi, ↓w_Isi, ↓w_Cut, ↓kC1_ok, ↓kC2_ok, ↓kC3_ok, ↓w_oNone, ↓w_oSome, ↓w_vO, ↓w_Chain, ↓kCh1_ok, ↓kCh2_ok, ↓kCh3_ok, ↓w_chA, ↓w_App, ↓w_Ins, ↓w_insG, ↓z_nx, ↓z_End, ↓z_Seq, ↓kT_nx, ↓kT_rt, ↓kT_bk, ↓kT_ct, ↓kT_exc, ↓z_If, ↓kIfS_ok, ↓kIfS_exc, ↓z_Ret, ↓kRet_ok, ↓kRet_exc, ↓z_Expr, ↓kNx_ok, ↓kNx_exc, ↓z_Asg, ↓kAs_ok, ↓kAs_exc, ↓z_tgO, t_N, t_T, t_nil, t_cons, t_G, t_gnil, t_gcons, t_bind, ↓z_Par, ↓kPar_ok, ↓z_Raise, ↓z_Break, ↓z_Cont, ↓z_For, ↓kSrc_ok, ↓w_Range, ↓w_rgF, ↓w_SeqI, ↓w_sqT, ↓w_Zip, ↓w_zpT, ↓w_Comp, ↓kCo_ok, ↓w_of, ↓kF_rt, ↓kF_nx, ↓kF_exc, ↓w_add, ↓w_sub, ↓w_pow10, ↓w_neg, ↓w_lt, ↓w_le, ↓w_gt, ↓w_ge, ↓w_ix0, ↓w_ix1, ↓w_ix2, ↓w_ix3, ↓w_eqI, ↓w_eqS, ↓w_eqT2, ↓w_abs, ↓w_lenT, ↓w_lenS, ↓w_max, ↓w_min, ↓w_intT, ↓w_intF, ↓w_isBool, ↓w_isTup, ↓w_tupT, ↓w_listT, ↓w_cutT, ↓brw_t, ↓brw_f, ↓brz_t, ↓brz_f, List.getElem?_cons_zero, List.getElem?_cons_succ, List.set_cons_zero, List.set_cons_succ, List.length_cons, List.length_nil, List.map_cons, List.map_nil, List.replicate, List.cons_append, List.nil_append, small, Nat.reduceAdd, Nat.reduceLeDiff, Nat.reduceEqDiff, Int.cast_ofNat_Int, Int.reduceBEq, BEq.rfl, ↓w_Yes, ↓w_bTru, ↓augF_ok, ↓z_Put, ↓putF_ok, ↓putG_ok, ↓w_isNn, ↓w_isNt, wipeF_nil, wipeF_cons, Int.reduceLE, Int.reduceLT, Int.reduceToNat, Int.reducePow, Int.reduceNeg, Int.reduceSub, Int.reduceAdd, Int.reduceMul, decide_true, decide_false, Bool.not_true, Bool.not_false, Bool.bne_false, Bool.bne_true, ↓w_aStar, ↓w_stT, ↓kSt_ok, ↓w_aDef, ↓kDf_ok, ↓w_Cnt, ↓w_Ext, ↓w_isBB, ↓w_isIB, b3, hw, b4]
        exact id
    · rw [if_neg (fun z => h3 z.1)] at kk
      have b3 : (lv x y s.b == 0) = false := by simpa using h3
      have f := fin (kRet (kT sEnd (kF Φ))) (by simp only [↓w_ok, ↓kB_ok, ↓kI_ok, ↓w_K, ↓w_V, ↓w_vR, ↓w_Op, ↓kO1_ok, ↓kO2_ok, ↓w_Un, ↓w_bOf, ↓w_isB, ↓kBl_ok, ↓kBl_exc, ↓kIf_ok, ↓kIf_exc, ↓w_okB, ↓w_okD, ↓w_bAnd, ↓w_bOr, ↓w_bNot, ↓kNot_ok, ↓kNot_exc, ↓w_eAnd, ↓w_eOr, ↓w_eNot, ↓kNotV_ok, ↓w_eIf, ↓w_aNil, ↓w_aCons, ↓kA1_ok, ↓kA2_ok, ↓kA1_exc, ↓kA2_exc, ↓w_Tup, ↓w_Lst, ↓w_mkT, ↓w_mkL, ↓w_Dct, ↓w_Call, ↓w_goS, ↓w_Bi, ↓w_Isi, ↓w_Cut, ↓kC1_ok, ↓kC2_ok, ↓kC3_ok, ↓w_oNone, ↓w_oSome, ↓w_vO, ↓w_Chain, ↓kCh1_ok, ↓kCh2_ok, ↓kCh3_ok, ↓w_chA, ↓w_App, ↓w_Ins, ↓w_insG, ↓z_nx, ↓z_End, ↓z_Seq, ↓kT_nx, ↓kT_rt, ↓kT_bk, ↓kT_ct, ↓kT_exc, ↓z_If, ↓kIfS_ok, ↓kIfS_exc, ↓z_Ret, ↓kRet_ok, ↓kRet_exc, ↓z_Expr, ↓kNx_ok, ↓kNx_exc, ↓z_Asg, ↓kAs_ok, ↓kAs_exc, ↓z_tgO, t_N, t_T, t_nil, t_cons, t_G, t_gnil, t_gcons, t_bind, ↓z_Par, ↓kPar_ok, ↓z_Raise, ↓z_Break, ↓z_Cont, ↓z_For, ↓kSrc_ok, ↓w_Range, ↓w_rgF, ↓w_SeqI, ↓w_sqT, ↓w_Zip, ↓w_zpT, ↓w_Comp, ↓kCo_ok, ↓w_of, ↓kF_rt, ↓kF_nx, ↓kF_exc, ↓w_add, ↓w_sub, ↓w_pow10, ↓w_neg, ↓w_lt, ↓w_le, ↓w_gt, ↓w_ge, ↓w_ix0, ↓w_ix1, ↓w_ix2, ↓w_ix3, ↓w_eqI, ↓w_eqS, ↓w_eqT2, ↓w_abs, ↓w_lenT, ↓w_lenS, ↓w_max, ↓w_min, ↓w_intT, ↓w_intF, ↓w_isBool, ↓w_isTup, ↓w_tupT, ↓w_listT, ↓w_cutT, ↓brw_t, ↓brw_f, ↓brz_t, ↓brz_f, List.getElem?_cons_zero, List.getElem?_cons_succ, List.set_cons_zero, List.set_cons_succ, List.length_cons, List.length_nil, List.map_cons, List.map_nil, List.replicate, List.cons_append, List.nil_append, small, Nat.reduceAdd, Nat.reduceLeDiff, Nat.reduceEqDiff, Int.cast_ofNat_Int, Int.reduceBEq, BEq.rfl, ↓w_Yes, ↓w_bTru, ↓augF_ok, ↓z_Put, ↓putF_ok, ↓putG_ok, ↓w_isNn, ↓w_isNt, wipeF_nil, wipeF_cons, Int.reduceLE, Int.reduceLT, Int.reduceToNat, Int.reducePow, Int.reduceNeg, Int.reduceSub, Int.reduceAdd, Int.reduceMul, decide_true, decide_false, Bool.not_true, Bool.not_false, Bool.bne_false, Bool.bne_true, ↓w_aStar, ↓w_stT, ↓kSt_ok, ↓w_aDef, ↓kDf_ok, ↓w_Cnt, ↓w_Ext, ↓w_isBB, ↓w_isIB]; exact kk)
      revert f
      simp only [↓w_ok, ↓kB_ok, ↓kI_ok, ↓w_K, ↓w_V, ↓w_vR, ↓w_Op, ↓kO1_ok, ↓kO2_ok, ↓w_Un, ↓w_bOf, ↓w_isB, ↓kBl_ok, ↓kBl_exc, ↓kIf_ok, ↓kIf_exc, ↓w_okB, ↓w_okD, ↓w_bAnd, ↓w_bOr, ↓w_bNot, ↓kNot_ok, ↓kNot_exc, ↓w_eAnd, ↓w_eOr, ↓w_eNot, ↓kNotV_ok, ↓w_eIf, ↓w_aNil, ↓w_aCons, ↓kA1_ok, ↓kA2_ok, ↓kA1_exc, ↓kA2_exc, ↓w_Tup, ↓w_Lst, ↓w_mkT, ↓w_mkL, ↓w_Dct, ↓w_Call, ↓w_goS, ↓w_Bi, ↓w_Isi, ↓w_Cut, ↓kC1_ok, ↓kC2_ok, ↓kC3_ok, ↓w_oNone, ↓w_oSome, ↓w_vO, ↓w_Chain, ↓kCh1_ok, ↓kCh2_ok, ↓kCh3_ok, ↓w_chA, ↓w_App, ↓w_Ins, ↓w_insG, ↓z_nx, ↓z_End, ↓z_Seq, ↓kT_nx, ↓kT_rt, ↓kT_bk, ↓kT_ct, ↓kT_exc, ↓z_If, ↓kIfS_ok, ↓kIfS_exc, ↓z_Ret, ↓kRet_ok, ↓kRet_exc, ↓z_Expr, ↓kNx_ok, ↓kNx_exc, ↓z_Asg, ↓kAs_ok, ↓kAs_exc, ↓z_tgO, t_N, t_T, t_nil, t_cons, t_G, t_gnil, t_gcons, t_bind, ↓z_Par, ↓kPar_ok, ↓z_Raise, ↓z_Break, ↓z_Cont, ↓z_For, ↓kSrc_ok, ↓w_Range, ↓w_rgF, ↓w_SeqI, ↓w_sqT, ↓w_Zip, ↓w_zpT, ↓w_Comp, ↓kCo_ok, ↓w_of, ↓kF_rt, ↓kF_nx, ↓kF_exc, ↓w_add, ↓w_sub, ↓w_pow10, ↓w_neg, ↓w_lt, ↓w_le, ↓w_gt, ↓w_ge, ↓w_ix0, ↓w_ix1, ↓w_ix2, ↓w_ix3, ↓w_eqI, ↓w_eqS, ↓w_eqT2, ↓w_abs, ↓w_lenT, ↓w_lenS, ↓w_max, ↓w_min, ↓w_intT, ↓w_intF, ↓w_isBool, ↓w_isTup, ↓w_tupT, ↓w_listT, ↓w_cutT, ↓brw_t, ↓brw_f, ↓brz_t, ↓brz_f, List.getElem?_cons_zero, List.getElem?_cons_succ, List.set_cons_zero, List.set_cons_succ, List.length_cons, List.length_nil, List.map_cons, List.map_nil, List.replicate, List.cons_append, List.nil_append, small, Nat.reduceAdd, Nat.reduceLeDiff, Nat.reduceEqDiff, Int.cast_ofNat_Int, Int.reduceBEq, BEq.rfl, ↓w_Yes, ↓w_bTru, ↓augF_ok, ↓z_Put, ↓putF_ok, ↓putG_ok, ↓w_isNn, ↓w_isNt, wipeF_nil, wipeF_cons, Int.reduceLE, Int.reduceLT, Int.reduceToNat, Int.reducePow, Int.reduceNeg, Int.reduceSub, Int.reduceAdd, Int.reduceMul, decide_true, decide_false, Bool.not_true, Bool.not_false, Bool.bne_false, Bool.bne_true, ↓w_aStar, ↓w_stT, ↓kSt_ok, ↓w_aDef, ↓kDf_ok, ↓w_Cnt, ↓w_Ext, ↓w_isBB, ↓w_isIB, b3]
      exact id
theorem signs_w {ab : Bool} (k : LnOk A l) (hA : A < 400000) : W (S_signs_of [.tup [dln l, .bl ab]] h) Φ = Φ (.ok (.tup [.int l.x, .int l.y, .bl ab]) h) := by
  unfold S_signs_of
  simp only [↓w_ok, ↓kB_ok, ↓kI_ok, ↓w_K, ↓w_V, ↓w_vR, ↓w_Op, ↓kO1_ok, ↓kO2_ok, ↓w_Un, ↓w_bOf, ↓w_isB, ↓kBl_ok, ↓kBl_exc, ↓kIf_ok, ↓kIf_exc, ↓w_okB, ↓w_okD, ↓w_bAnd, ↓w_bOr, ↓w_bNot, ↓kNot_ok, ↓kNot_exc, ↓w_eAnd, ↓w_eOr, ↓w_eNot, ↓kNotV_ok, ↓w_eIf, ↓w_aNil, ↓w_aCons, ↓kA1_ok, ↓kA2_ok, ↓kA1_exc, ↓kA2_exc, ↓w_Tup, ↓w_Lst, ↓w_mkT, ↓w_mkL, ↓w_Dct, ↓w_Call, ↓w_goS, ↓w_Bi, ↓w_Isi, ↓w_Cut, ↓kC1_ok, ↓kC2_ok, ↓kC3_ok, ↓w_oNone, ↓w_oSome, ↓w_vO, ↓w_Chain, ↓kCh1_ok, ↓kCh2_ok, ↓kCh3_ok, ↓w_chA, ↓w_App, ↓w_Ins, ↓w_insG, ↓z_nx, ↓z_End, ↓z_Seq, ↓kT_nx, ↓kT_rt, ↓kT_bk, ↓kT_ct, ↓kT_exc, ↓z_If, ↓kIfS_ok, ↓kIfS_exc, ↓z_Ret, ↓kRet_ok, ↓kRet_exc, ↓z_Expr, ↓kNx_ok, ↓kNx_exc, ↓z_Asg, ↓kAs_ok, ↓kAs_exc, ↓z_tgO, t_N, t_T, t_nil, t_cons, t_G, t_gnil, t_gcons, t_bind, ↓z_Par, ↓kPar_ok, ↓z_Raise, ↓z_Break, ↓z_Cont, ↓z_For, ↓kSrc_ok, ↓w_Range, ↓w_rgF, ↓w_SeqI, ↓w_sqT, ↓w_Zip, ↓w_zpT, ↓w_Comp, ↓kCo_ok, ↓w_of, ↓kF_rt, ↓kF_nx, ↓kF_exc, ↓w_add, ↓w_sub, ↓w_pow10, ↓w_neg, ↓w_lt, ↓w_le, ↓w_gt, ↓w_ge, ↓w_ix0, ↓w_ix1, ↓w_ix2, ↓w_ix3, ↓w_eqI, ↓w_eqS, ↓w_eqT2, ↓w_abs, ↓w_lenT, ↓w_lenS, ↓w_max, ↓w_min, ↓w_intT, ↓w_intF, ↓w_isBool, ↓w_isTup, ↓w_tupT, ↓w_listT, ↓w_cutT, ↓brw_t, ↓brw_f, ↓brz_t, ↓brz_f, List.getElem?_cons_zero, List.getElem?_cons_succ, List.set_cons_zero, List.set_cons_succ, List.length_cons, List.length_nil, List.map_cons, List.map_nil, List.replicate, List.cons_append, List.nil_append, small, Nat.reduceAdd, Nat.reduceLeDiff, Nat.reduceEqDiff, Int.cast_ofNat_Int, Int.reduceBEq, BEq.rfl, ↓w_Yes, ↓w_bTru, ↓augF_ok, ↓z_Put, ↓putF_ok, ↓putG_ok, ↓w_isNn, ↓w_isNt, wipeF_nil, wipeF_cons, Int.reduceLE, Int.reduceLT, Int.reduceToNat, Int.reducePow, Int.reduceNeg, Int.reduceSub, Int.reduceAdd, Int.reduceMul, decide_true, decide_false, Bool.not_true, Bool.not_false, Bool.bne_false, Bool.bne_true, ↓w_aStar, ↓w_stT, ↓kSt_ok, ↓w_aDef, ↓kDf_ok, ↓w_Cnt, ↓w_Ext, ↓w_isBB, ↓w_isIB, w_mul (k.fa.b1.mk k.fb.b2 hA hA), w_mul (k.fb.b1.mk k.fa.b2 hA hA)]
  rfl
theorem SpOk.bb {n : Nat} (k : SpOk n s) : Bq n s.b := k.fb.bq
theorem SpOk.be {n : Nat} (k : SpOk n s) : Bq n s.e := k.fe.bq
theorem holds_w {c : Cn} (k : LnOk A c.1) (ks : SpOk B s) (hA : A ≤ 2000) (hB : B ≤ 8000) (kk : ∀ h1, Gr h h1 → Φ (.ok (.bl (thr c.1.x c.1.y c.2 s)) h1)) : W (S_holds_through [dcn c, dsp s] h) Φ := by
  unfold S_holds_through
  simp only [↓w_ok, ↓kB_ok, ↓kI_ok, ↓w_K, ↓w_V, ↓w_vR, ↓w_Op, ↓kO1_ok, ↓kO2_ok, ↓w_Un, ↓w_bOf, ↓w_isB, ↓kBl_ok, ↓kBl_exc, ↓kIf_ok, ↓kIf_exc, ↓w_okB, ↓w_okD, ↓w_bAnd, ↓w_bOr, ↓w_bNot, ↓kNot_ok, ↓kNot_exc, ↓w_eAnd, ↓w_eOr, ↓w_eNot, ↓kNotV_ok, ↓w_eIf, ↓w_aNil, ↓w_aCons, ↓kA1_ok, ↓kA2_ok, ↓kA1_exc, ↓kA2_exc, ↓w_Tup, ↓w_Lst, ↓w_mkT, ↓w_mkL, ↓w_Dct, ↓w_Call, ↓w_goS, ↓w_Bi, ↓w_Isi, ↓w_Cut, ↓kC1_ok, ↓kC2_ok, ↓kC3_ok, ↓w_oNone, ↓w_oSome, ↓w_vO, ↓w_Chain, ↓kCh1_ok, ↓kCh2_ok, ↓kCh3_ok, ↓w_chA, ↓w_App, ↓w_Ins, ↓w_insG, ↓z_nx, ↓z_End, ↓z_Seq, ↓kT_nx, ↓kT_rt, ↓kT_bk, ↓kT_ct, ↓kT_exc, ↓z_If, ↓kIfS_ok, ↓kIfS_exc, ↓z_Ret, ↓kRet_ok, ↓kRet_exc, ↓z_Expr, ↓kNx_ok, ↓kNx_exc, ↓z_Asg, ↓kAs_ok, ↓kAs_exc, ↓z_tgO, t_N, t_T, t_nil, t_cons, t_G, t_gnil, t_gcons, t_bind, ↓z_Par, ↓kPar_ok, ↓z_Raise, ↓z_Break, ↓z_Cont, ↓z_For, ↓kSrc_ok, ↓w_Range, ↓w_rgF, ↓w_SeqI, ↓w_sqT, ↓w_Zip, ↓w_zpT, ↓w_Comp, ↓kCo_ok, ↓w_of, ↓kF_rt, ↓kF_nx, ↓kF_exc, ↓w_add, ↓w_sub, ↓w_pow10, ↓w_neg, ↓w_lt, ↓w_le, ↓w_gt, ↓w_ge, ↓w_ix0, ↓w_ix1, ↓w_ix2, ↓w_ix3, ↓w_eqI, ↓w_eqS, ↓w_eqT2, ↓w_abs, ↓w_lenT, ↓w_lenS, ↓w_max, ↓w_min, ↓w_intT, ↓w_intF, ↓w_isBool, ↓w_isTup, ↓w_tupT, ↓w_listT, ↓w_cutT, ↓brw_t, ↓brw_f, ↓brz_t, ↓brz_f, List.getElem?_cons_zero, List.getElem?_cons_succ, List.set_cons_zero, List.set_cons_succ, List.length_cons, List.length_nil, List.map_cons, List.map_nil, List.replicate, List.cons_append, List.nil_append, small, Nat.reduceAdd, Nat.reduceLeDiff, Nat.reduceEqDiff, Int.cast_ofNat_Int, Int.reduceBEq, BEq.rfl, ↓w_Yes, ↓w_bTru, ↓augF_ok, ↓z_Put, ↓putF_ok, ↓putG_ok, ↓w_isNn, ↓w_isNt, wipeF_nil, wipeF_cons, Int.reduceLE, Int.reduceLT, Int.reduceToNat, Int.reducePow, Int.reduceNeg, Int.reduceSub, Int.reduceAdd, Int.reduceMul, decide_true, decide_false, Bool.not_true, Bool.not_false, Bool.bne_false, Bool.bne_true, ↓w_aStar, ↓w_stT, ↓kSt_ok, ↓w_aDef, ↓kDf_ok, ↓w_Cnt, ↓w_Ext, ↓w_isBB, ↓w_isIB]
  refine needcn_w k (by omega) fun h1 g => ?_
  simp only [↓w_ok, ↓kB_ok, ↓kI_ok, ↓w_K, ↓w_V, ↓w_vR, ↓w_Op, ↓kO1_ok, ↓kO2_ok, ↓w_Un, ↓w_bOf, ↓w_isB, ↓kBl_ok, ↓kBl_exc, ↓kIf_ok, ↓kIf_exc, ↓w_okB, ↓w_okD, ↓w_bAnd, ↓w_bOr, ↓w_bNot, ↓kNot_ok, ↓kNot_exc, ↓w_eAnd, ↓w_eOr, ↓w_eNot, ↓kNotV_ok, ↓w_eIf, ↓w_aNil, ↓w_aCons, ↓kA1_ok, ↓kA2_ok, ↓kA1_exc, ↓kA2_exc, ↓w_Tup, ↓w_Lst, ↓w_mkT, ↓w_mkL, ↓w_Dct, ↓w_Call, ↓w_goS, ↓w_Bi, ↓w_Isi, ↓w_Cut, ↓kC1_ok, ↓kC2_ok, ↓kC3_ok, ↓w_oNone, ↓w_oSome, ↓w_vO, ↓w_Chain, ↓kCh1_ok, ↓kCh2_ok, ↓kCh3_ok, ↓w_chA, ↓w_App, ↓w_Ins, ↓w_insG, ↓z_nx, ↓z_End, ↓z_Seq, ↓kT_nx, ↓kT_rt, ↓kT_bk, ↓kT_ct, ↓kT_exc, ↓z_If, ↓kIfS_ok, ↓kIfS_exc, ↓z_Ret, ↓kRet_ok, ↓kRet_exc, ↓z_Expr, ↓kNx_ok, ↓kNx_exc, ↓z_Asg, ↓kAs_ok, ↓kAs_exc, ↓z_tgO, t_N, t_T, t_nil, t_cons, t_G, t_gnil, t_gcons, t_bind, ↓z_Par, ↓kPar_ok, ↓z_Raise, ↓z_Break, ↓z_Cont, ↓z_For, ↓kSrc_ok, ↓w_Range, ↓w_rgF, ↓w_SeqI, ↓w_sqT, ↓w_Zip, ↓w_zpT, ↓w_Comp, ↓kCo_ok, ↓w_of, ↓kF_rt, ↓kF_nx, ↓kF_exc, ↓w_add, ↓w_sub, ↓w_pow10, ↓w_neg, ↓w_lt, ↓w_le, ↓w_gt, ↓w_ge, ↓w_ix0, ↓w_ix1, ↓w_ix2, ↓w_ix3, ↓w_eqI, ↓w_eqS, ↓w_eqT2, ↓w_abs, ↓w_lenT, ↓w_lenS, ↓w_max, ↓w_min, ↓w_intT, ↓w_intF, ↓w_isBool, ↓w_isTup, ↓w_tupT, ↓w_listT, ↓w_cutT, ↓brw_t, ↓brw_f, ↓brz_t, ↓brz_f, List.getElem?_cons_zero, List.getElem?_cons_succ, List.set_cons_zero, List.set_cons_succ, List.length_cons, List.length_nil, List.map_cons, List.map_nil, List.replicate, List.cons_append, List.nil_append, small, Nat.reduceAdd, Nat.reduceLeDiff, Nat.reduceEqDiff, Int.cast_ofNat_Int, Int.reduceBEq, BEq.rfl, ↓w_Yes, ↓w_bTru, ↓augF_ok, ↓z_Put, ↓putF_ok, ↓putG_ok, ↓w_isNn, ↓w_isNt, wipeF_nil, wipeF_cons, Int.reduceLE, Int.reduceLT, Int.reduceToNat, Int.reducePow, Int.reduceNeg, Int.reduceSub, Int.reduceAdd, Int.reduceMul, decide_true, decide_false, Bool.not_true, Bool.not_false, Bool.bne_false, Bool.bne_true, ↓w_aStar, ↓w_stT, ↓kSt_ok, ↓w_aDef, ↓kDf_ok, ↓w_Cnt, ↓w_Ext, ↓w_isBB, ↓w_isIB, needspell_w ks hB, signs_w k (show A < 400000 by omega)]
  refine through_w k.bx k.by_ ks.bb ks.be (by omega) (by omega) ?_
  simp only [↓w_ok, ↓kB_ok, ↓kI_ok, ↓w_K, ↓w_V, ↓w_vR, ↓w_Op, ↓kO1_ok, ↓kO2_ok, ↓w_Un, ↓w_bOf, ↓w_isB, ↓kBl_ok, ↓kBl_exc, ↓kIf_ok, ↓kIf_exc, ↓w_okB, ↓w_okD, ↓w_bAnd, ↓w_bOr, ↓w_bNot, ↓kNot_ok, ↓kNot_exc, ↓w_eAnd, ↓w_eOr, ↓w_eNot, ↓kNotV_ok, ↓w_eIf, ↓w_aNil, ↓w_aCons, ↓kA1_ok, ↓kA2_ok, ↓kA1_exc, ↓kA2_exc, ↓w_Tup, ↓w_Lst, ↓w_mkT, ↓w_mkL, ↓w_Dct, ↓w_Call, ↓w_goS, ↓w_Bi, ↓w_Isi, ↓w_Cut, ↓kC1_ok, ↓kC2_ok, ↓kC3_ok, ↓w_oNone, ↓w_oSome, ↓w_vO, ↓w_Chain, ↓kCh1_ok, ↓kCh2_ok, ↓kCh3_ok, ↓w_chA, ↓w_App, ↓w_Ins, ↓w_insG, ↓z_nx, ↓z_End, ↓z_Seq, ↓kT_nx, ↓kT_rt, ↓kT_bk, ↓kT_ct, ↓kT_exc, ↓z_If, ↓kIfS_ok, ↓kIfS_exc, ↓z_Ret, ↓kRet_ok, ↓kRet_exc, ↓z_Expr, ↓kNx_ok, ↓kNx_exc, ↓z_Asg, ↓kAs_ok, ↓kAs_exc, ↓z_tgO, t_N, t_T, t_nil, t_cons, t_G, t_gnil, t_gcons, t_bind, ↓z_Par, ↓kPar_ok, ↓z_Raise, ↓z_Break, ↓z_Cont, ↓z_For, ↓kSrc_ok, ↓w_Range, ↓w_rgF, ↓w_SeqI, ↓w_sqT, ↓w_Zip, ↓w_zpT, ↓w_Comp, ↓kCo_ok, ↓w_of, ↓kF_rt, ↓kF_nx, ↓kF_exc, ↓w_add, ↓w_sub, ↓w_pow10, ↓w_neg, ↓w_lt, ↓w_le, ↓w_gt, ↓w_ge, ↓w_ix0, ↓w_ix1, ↓w_ix2, ↓w_ix3, ↓w_eqI, ↓w_eqS, ↓w_eqT2, ↓w_abs, ↓w_lenT, ↓w_lenS, ↓w_max, ↓w_min, ↓w_intT, ↓w_intF, ↓w_isBool, ↓w_isTup, ↓w_tupT, ↓w_listT, ↓w_cutT, ↓brw_t, ↓brw_f, ↓brz_t, ↓brz_f, List.getElem?_cons_zero, List.getElem?_cons_succ, List.set_cons_zero, List.set_cons_succ, List.length_cons, List.length_nil, List.map_cons, List.map_nil, List.replicate, List.cons_append, List.nil_append, small, Nat.reduceAdd, Nat.reduceLeDiff, Nat.reduceEqDiff, Int.cast_ofNat_Int, Int.reduceBEq, BEq.rfl, ↓w_Yes, ↓w_bTru, ↓augF_ok, ↓z_Put, ↓putF_ok, ↓putG_ok, ↓w_isNn, ↓w_isNt, wipeF_nil, wipeF_cons, Int.reduceLE, Int.reduceLT, Int.reduceToNat, Int.reducePow, Int.reduceNeg, Int.reduceSub, Int.reduceAdd, Int.reduceMul, decide_true, decide_false, Bool.not_true, Bool.not_false, Bool.bne_false, Bool.bne_true, ↓w_aStar, ↓w_stT, ↓kSt_ok, ↓w_aDef, ↓kDf_ok, ↓w_Cnt, ↓w_Ext, ↓w_isBB, ↓w_isIB]
  exact kk h1 g
theorem fails_w {c : Cn} (k : LnOk A c.1) (ks : SpOk B s) (hA : A ≤ 2000) (hB : B ≤ 8000) (kk : ∀ h1, Gr h h1 → Φ (.ok (.bl (thr (-c.1.x) (-c.1.y) (!c.2) s)) h1)) : W (S_fails_through [dcn c, dsp s] h) Φ := by
  unfold S_fails_through S_turned_over
  simp only [↓w_ok, ↓kB_ok, ↓kI_ok, ↓w_K, ↓w_V, ↓w_vR, ↓w_Op, ↓kO1_ok, ↓kO2_ok, ↓w_Un, ↓w_bOf, ↓w_isB, ↓kBl_ok, ↓kBl_exc, ↓kIf_ok, ↓kIf_exc, ↓w_okB, ↓w_okD, ↓w_bAnd, ↓w_bOr, ↓w_bNot, ↓kNot_ok, ↓kNot_exc, ↓w_eAnd, ↓w_eOr, ↓w_eNot, ↓kNotV_ok, ↓w_eIf, ↓w_aNil, ↓w_aCons, ↓kA1_ok, ↓kA2_ok, ↓kA1_exc, ↓kA2_exc, ↓w_Tup, ↓w_Lst, ↓w_mkT, ↓w_mkL, ↓w_Dct, ↓w_Call, ↓w_goS, ↓w_Bi, ↓w_Isi, ↓w_Cut, ↓kC1_ok, ↓kC2_ok, ↓kC3_ok, ↓w_oNone, ↓w_oSome, ↓w_vO, ↓w_Chain, ↓kCh1_ok, ↓kCh2_ok, ↓kCh3_ok, ↓w_chA, ↓w_App, ↓w_Ins, ↓w_insG, ↓z_nx, ↓z_End, ↓z_Seq, ↓kT_nx, ↓kT_rt, ↓kT_bk, ↓kT_ct, ↓kT_exc, ↓z_If, ↓kIfS_ok, ↓kIfS_exc, ↓z_Ret, ↓kRet_ok, ↓kRet_exc, ↓z_Expr, ↓kNx_ok, ↓kNx_exc, ↓z_Asg, ↓kAs_ok, ↓kAs_exc, ↓z_tgO, t_N, t_T, t_nil, t_cons, t_G, t_gnil, t_gcons, t_bind, ↓z_Par, ↓kPar_ok, ↓z_Raise, ↓z_Break, ↓z_Cont, ↓z_For, ↓kSrc_ok, ↓w_Range, ↓w_rgF, ↓w_SeqI, ↓w_sqT, ↓w_Zip, ↓w_zpT, ↓w_Comp, ↓kCo_ok, ↓w_of, ↓kF_rt, ↓kF_nx, ↓kF_exc, ↓w_add, ↓w_sub, ↓w_pow10, ↓w_neg, ↓w_lt, ↓w_le, ↓w_gt, ↓w_ge, ↓w_ix0, ↓w_ix1, ↓w_ix2, ↓w_ix3, ↓w_eqI, ↓w_eqS, ↓w_eqT2, ↓w_abs, ↓w_lenT, ↓w_lenS, ↓w_max, ↓w_min, ↓w_intT, ↓w_intF, ↓w_isBool, ↓w_isTup, ↓w_tupT, ↓w_listT, ↓w_cutT, ↓brw_t, ↓brw_f, ↓brz_t, ↓brz_f, List.getElem?_cons_zero, List.getElem?_cons_succ, List.set_cons_zero, List.set_cons_succ, List.length_cons, List.length_nil, List.map_cons, List.map_nil, List.replicate, List.cons_append, List.nil_append, small, Nat.reduceAdd, Nat.reduceLeDiff, Nat.reduceEqDiff, Int.cast_ofNat_Int, Int.reduceBEq, BEq.rfl, ↓w_Yes, ↓w_bTru, ↓augF_ok, ↓z_Put, ↓putF_ok, ↓putG_ok, ↓w_isNn, ↓w_isNt, wipeF_nil, wipeF_cons, Int.reduceLE, Int.reduceLT, Int.reduceToNat, Int.reducePow, Int.reduceNeg, Int.reduceSub, Int.reduceAdd, Int.reduceMul, decide_true, decide_false, Bool.not_true, Bool.not_false, Bool.bne_false, Bool.bne_true, ↓w_aStar, ↓w_stT, ↓kSt_ok, ↓w_aDef, ↓kDf_ok, ↓w_Cnt, ↓w_Ext, ↓w_isBB, ↓w_isIB]
  refine needcn_w k (by omega) fun h1 g => ?_
  simp only [↓w_ok, ↓kB_ok, ↓kI_ok, ↓w_K, ↓w_V, ↓w_vR, ↓w_Op, ↓kO1_ok, ↓kO2_ok, ↓w_Un, ↓w_bOf, ↓w_isB, ↓kBl_ok, ↓kBl_exc, ↓kIf_ok, ↓kIf_exc, ↓w_okB, ↓w_okD, ↓w_bAnd, ↓w_bOr, ↓w_bNot, ↓kNot_ok, ↓kNot_exc, ↓w_eAnd, ↓w_eOr, ↓w_eNot, ↓kNotV_ok, ↓w_eIf, ↓w_aNil, ↓w_aCons, ↓kA1_ok, ↓kA2_ok, ↓kA1_exc, ↓kA2_exc, ↓w_Tup, ↓w_Lst, ↓w_mkT, ↓w_mkL, ↓w_Dct, ↓w_Call, ↓w_goS, ↓w_Bi, ↓w_Isi, ↓w_Cut, ↓kC1_ok, ↓kC2_ok, ↓kC3_ok, ↓w_oNone, ↓w_oSome, ↓w_vO, ↓w_Chain, ↓kCh1_ok, ↓kCh2_ok, ↓kCh3_ok, ↓w_chA, ↓w_App, ↓w_Ins, ↓w_insG, ↓z_nx, ↓z_End, ↓z_Seq, ↓kT_nx, ↓kT_rt, ↓kT_bk, ↓kT_ct, ↓kT_exc, ↓z_If, ↓kIfS_ok, ↓kIfS_exc, ↓z_Ret, ↓kRet_ok, ↓kRet_exc, ↓z_Expr, ↓kNx_ok, ↓kNx_exc, ↓z_Asg, ↓kAs_ok, ↓kAs_exc, ↓z_tgO, t_N, t_T, t_nil, t_cons, t_G, t_gnil, t_gcons, t_bind, ↓z_Par, ↓kPar_ok, ↓z_Raise, ↓z_Break, ↓z_Cont, ↓z_For, ↓kSrc_ok, ↓w_Range, ↓w_rgF, ↓w_SeqI, ↓w_sqT, ↓w_Zip, ↓w_zpT, ↓w_Comp, ↓kCo_ok, ↓w_of, ↓kF_rt, ↓kF_nx, ↓kF_exc, ↓w_add, ↓w_sub, ↓w_pow10, ↓w_neg, ↓w_lt, ↓w_le, ↓w_gt, ↓w_ge, ↓w_ix0, ↓w_ix1, ↓w_ix2, ↓w_ix3, ↓w_eqI, ↓w_eqS, ↓w_eqT2, ↓w_abs, ↓w_lenT, ↓w_lenS, ↓w_max, ↓w_min, ↓w_intT, ↓w_intF, ↓w_isBool, ↓w_isTup, ↓w_tupT, ↓w_listT, ↓w_cutT, ↓brw_t, ↓brw_f, ↓brz_t, ↓brz_f, List.getElem?_cons_zero, List.getElem?_cons_succ, List.set_cons_zero, List.set_cons_succ, List.length_cons, List.length_nil, List.map_cons, List.map_nil, List.replicate, List.cons_append, List.nil_append, small, Nat.reduceAdd, Nat.reduceLeDiff, Nat.reduceEqDiff, Int.cast_ofNat_Int, Int.reduceBEq, BEq.rfl, ↓w_Yes, ↓w_bTru, ↓augF_ok, ↓z_Put, ↓putF_ok, ↓putG_ok, ↓w_isNn, ↓w_isNt, wipeF_nil, wipeF_cons, Int.reduceLE, Int.reduceLT, Int.reduceToNat, Int.reducePow, Int.reduceNeg, Int.reduceSub, Int.reduceAdd, Int.reduceMul, decide_true, decide_false, Bool.not_true, Bool.not_false, Bool.bne_false, Bool.bne_true, ↓w_aStar, ↓w_stT, ↓kSt_ok, ↓w_aDef, ↓kDf_ok, ↓w_Cnt, ↓w_Ext, ↓w_isBB, ↓w_isIB, needspell_w ks hB, signs_w k (show A < 400000 by omega)]
  refine through_w k.bx.neg k.by_.neg ks.bb ks.be (by omega) (by omega) ?_
  simp only [↓w_ok, ↓kB_ok, ↓kI_ok, ↓w_K, ↓w_V, ↓w_vR, ↓w_Op, ↓kO1_ok, ↓kO2_ok, ↓w_Un, ↓w_bOf, ↓w_isB, ↓kBl_ok, ↓kBl_exc, ↓kIf_ok, ↓kIf_exc, ↓w_okB, ↓w_okD, ↓w_bAnd, ↓w_bOr, ↓w_bNot, ↓kNot_ok, ↓kNot_exc, ↓w_eAnd, ↓w_eOr, ↓w_eNot, ↓kNotV_ok, ↓w_eIf, ↓w_aNil, ↓w_aCons, ↓kA1_ok, ↓kA2_ok, ↓kA1_exc, ↓kA2_exc, ↓w_Tup, ↓w_Lst, ↓w_mkT, ↓w_mkL, ↓w_Dct, ↓w_Call, ↓w_goS, ↓w_Bi, ↓w_Isi, ↓w_Cut, ↓kC1_ok, ↓kC2_ok, ↓kC3_ok, ↓w_oNone, ↓w_oSome, ↓w_vO, ↓w_Chain, ↓kCh1_ok, ↓kCh2_ok, ↓kCh3_ok, ↓w_chA, ↓w_App, ↓w_Ins, ↓w_insG, ↓z_nx, ↓z_End, ↓z_Seq, ↓kT_nx, ↓kT_rt, ↓kT_bk, ↓kT_ct, ↓kT_exc, ↓z_If, ↓kIfS_ok, ↓kIfS_exc, ↓z_Ret, ↓kRet_ok, ↓kRet_exc, ↓z_Expr, ↓kNx_ok, ↓kNx_exc, ↓z_Asg, ↓kAs_ok, ↓kAs_exc, ↓z_tgO, t_N, t_T, t_nil, t_cons, t_G, t_gnil, t_gcons, t_bind, ↓z_Par, ↓kPar_ok, ↓z_Raise, ↓z_Break, ↓z_Cont, ↓z_For, ↓kSrc_ok, ↓w_Range, ↓w_rgF, ↓w_SeqI, ↓w_sqT, ↓w_Zip, ↓w_zpT, ↓w_Comp, ↓kCo_ok, ↓w_of, ↓kF_rt, ↓kF_nx, ↓kF_exc, ↓w_add, ↓w_sub, ↓w_pow10, ↓w_neg, ↓w_lt, ↓w_le, ↓w_gt, ↓w_ge, ↓w_ix0, ↓w_ix1, ↓w_ix2, ↓w_ix3, ↓w_eqI, ↓w_eqS, ↓w_eqT2, ↓w_abs, ↓w_lenT, ↓w_lenS, ↓w_max, ↓w_min, ↓w_intT, ↓w_intF, ↓w_isBool, ↓w_isTup, ↓w_tupT, ↓w_listT, ↓w_cutT, ↓brw_t, ↓brw_f, ↓brz_t, ↓brz_f, List.getElem?_cons_zero, List.getElem?_cons_succ, List.set_cons_zero, List.set_cons_succ, List.length_cons, List.length_nil, List.map_cons, List.map_nil, List.replicate, List.cons_append, List.nil_append, small, Nat.reduceAdd, Nat.reduceLeDiff, Nat.reduceEqDiff, Int.cast_ofNat_Int, Int.reduceBEq, BEq.rfl, ↓w_Yes, ↓w_bTru, ↓augF_ok, ↓z_Put, ↓putF_ok, ↓putG_ok, ↓w_isNn, ↓w_isNt, wipeF_nil, wipeF_cons, Int.reduceLE, Int.reduceLT, Int.reduceToNat, Int.reducePow, Int.reduceNeg, Int.reduceSub, Int.reduceAdd, Int.reduceMul, decide_true, decide_false, Bool.not_true, Bool.not_false, Bool.bne_false, Bool.bne_true, ↓w_aStar, ↓w_stT, ↓kSt_ok, ↓w_aDef, ↓kDf_ok, ↓w_Cnt, ↓w_Ext, ↓w_isBB, ↓w_isIB]
  exact kk h1 g
/-! the law's look at a moment -/
theorem wth_sign (k : LnOk A l) (f : Fq B t) : (0 < (wth l t).1 ↔ 0 < lv l.x l.y t) ∧ ((wth l t).1 = 0 ↔ lv l.x l.y t = 0) := by
  have p1 := Int.mul_pos (show 0 < l.a.2 by have := k.fa.pos; omega) (show 0 < l.b.2 by have := k.fb.pos; omega)
  have p2 := Int.mul_pos p1 (show 0 < t.2 by have := f.pos; omega)
  have e1 := lowQ_x (x := l.a.1 * l.b.2 * t.2 + l.b.1 * t.1 * l.a.2) (y := l.a.2 * l.b.2 * t.2)
  have g0 := gI_pos (o := l.a.1 * l.b.2 * t.2 + l.b.1 * t.1 * l.a.2) (u := l.a.2 * l.b.2 * t.2) (by omega)
  have e2 : l.a.1 * l.b.2 * t.2 + l.b.1 * t.1 * l.a.2 = lv l.x l.y t := by unfold lv Ln.x Ln.y; grind
  rw [e2] at e1 g0
  have e3 : wth l t = lowQ (lv l.x l.y t) (l.a.2 * l.b.2 * t.2) := by unfold wth; rw [e2]
  rw [e3]
  generalize (lowQ (lv l.x l.y t) (l.a.2 * l.b.2 * t.2)).1 = w at *
  generalize gI (lv l.x l.y t) (l.a.2 * l.b.2 * t.2) = g at *
  refine ⟨⟨fun z => ?_, fun z => ?_⟩, ⟨fun z => ?_, fun z => ?_⟩⟩
  · rw [← e1]; exact Int.mul_pos g0 z
  · rw [← e1] at z
    exact Int.pos_of_mul_pos_right z g0
  · rw [← e1, z, Int.mul_zero]
  · rw [← e1] at z
    rcases Int.mul_eq_zero.mp z with z | z
    · omega
    · exact z
theorem holdat_w {c : Cn} (k : LnOk A c.1) (f : Fq A t) (hA : A ≤ 2000) (kk : Φ (.ok (.bl (hold c.1.x c.1.y c.2 t)) h)) : W (S__law_holds_at [dcn c, dq t] h) Φ := by
  unfold S__law_holds_at
  simp only [↓w_ok, ↓kB_ok, ↓kI_ok, ↓w_K, ↓w_V, ↓w_vR, ↓w_Op, ↓kO1_ok, ↓kO2_ok, ↓w_Un, ↓w_bOf, ↓w_isB, ↓kBl_ok, ↓kBl_exc, ↓kIf_ok, ↓kIf_exc, ↓w_okB, ↓w_okD, ↓w_bAnd, ↓w_bOr, ↓w_bNot, ↓kNot_ok, ↓kNot_exc, ↓w_eAnd, ↓w_eOr, ↓w_eNot, ↓kNotV_ok, ↓w_eIf, ↓w_aNil, ↓w_aCons, ↓kA1_ok, ↓kA2_ok, ↓kA1_exc, ↓kA2_exc, ↓w_Tup, ↓w_Lst, ↓w_mkT, ↓w_mkL, ↓w_Dct, ↓w_Call, ↓w_goS, ↓w_Bi, ↓w_Isi, ↓w_Cut, ↓kC1_ok, ↓kC2_ok, ↓kC3_ok, ↓w_oNone, ↓w_oSome, ↓w_vO, ↓w_Chain, ↓kCh1_ok, ↓kCh2_ok, ↓kCh3_ok, ↓w_chA, ↓w_App, ↓w_Ins, ↓w_insG, ↓z_nx, ↓z_End, ↓z_Seq, ↓kT_nx, ↓kT_rt, ↓kT_bk, ↓kT_ct, ↓kT_exc, ↓z_If, ↓kIfS_ok, ↓kIfS_exc, ↓z_Ret, ↓kRet_ok, ↓kRet_exc, ↓z_Expr, ↓kNx_ok, ↓kNx_exc, ↓z_Asg, ↓kAs_ok, ↓kAs_exc, ↓z_tgO, t_N, t_T, t_nil, t_cons, t_G, t_gnil, t_gcons, t_bind, ↓z_Par, ↓kPar_ok, ↓z_Raise, ↓z_Break, ↓z_Cont, ↓z_For, ↓kSrc_ok, ↓w_Range, ↓w_rgF, ↓w_SeqI, ↓w_sqT, ↓w_Zip, ↓w_zpT, ↓w_Comp, ↓kCo_ok, ↓w_of, ↓kF_rt, ↓kF_nx, ↓kF_exc, ↓w_add, ↓w_sub, ↓w_pow10, ↓w_neg, ↓w_lt, ↓w_le, ↓w_gt, ↓w_ge, ↓w_ix0, ↓w_ix1, ↓w_ix2, ↓w_ix3, ↓w_eqI, ↓w_eqS, ↓w_eqT2, ↓w_abs, ↓w_lenT, ↓w_lenS, ↓w_max, ↓w_min, ↓w_intT, ↓w_intF, ↓w_isBool, ↓w_isTup, ↓w_tupT, ↓w_listT, ↓w_cutT, ↓brw_t, ↓brw_f, ↓brz_t, ↓brz_f, List.getElem?_cons_zero, List.getElem?_cons_succ, List.set_cons_zero, List.set_cons_succ, List.length_cons, List.length_nil, List.map_cons, List.map_nil, List.replicate, List.cons_append, List.nil_append, small, Nat.reduceAdd, Nat.reduceLeDiff, Nat.reduceEqDiff, Int.cast_ofNat_Int, Int.reduceBEq, BEq.rfl, ↓w_Yes, ↓w_bTru, ↓augF_ok, ↓z_Put, ↓putF_ok, ↓putG_ok, ↓w_isNn, ↓w_isNt, wipeF_nil, wipeF_cons, Int.reduceLE, Int.reduceLT, Int.reduceToNat, Int.reducePow, Int.reduceNeg, Int.reduceSub, Int.reduceAdd, Int.reduceMul, decide_true, decide_false, Bool.not_true, Bool.not_false, Bool.bne_false, Bool.bne_true, ↓w_aStar, ↓w_stT, ↓kSt_ok, ↓w_aDef, ↓kDf_ok, ↓w_Cnt, ↓w_Ext, ↓w_isBB, ↓w_isIB]
  refine lworth_w k f hA ?_
  obtain ⟨g1, g2⟩ := wth_sign k f
  simp only [↓w_ok, ↓kB_ok, ↓kI_ok, ↓w_K, ↓w_V, ↓w_vR, ↓w_Op, ↓kO1_ok, ↓kO2_ok, ↓w_Un, ↓w_bOf, ↓w_isB, ↓kBl_ok, ↓kBl_exc, ↓kIf_ok, ↓kIf_exc, ↓w_okB, ↓w_okD, ↓w_bAnd, ↓w_bOr, ↓w_bNot, ↓kNot_ok, ↓kNot_exc, ↓w_eAnd, ↓w_eOr, ↓w_eNot, ↓kNotV_ok, ↓w_eIf, ↓w_aNil, ↓w_aCons, ↓kA1_ok, ↓kA2_ok, ↓kA1_exc, ↓kA2_exc, ↓w_Tup, ↓w_Lst, ↓w_mkT, ↓w_mkL, ↓w_Dct, ↓w_Call, ↓w_goS, ↓w_Bi, ↓w_Isi, ↓w_Cut, ↓kC1_ok, ↓kC2_ok, ↓kC3_ok, ↓w_oNone, ↓w_oSome, ↓w_vO, ↓w_Chain, ↓kCh1_ok, ↓kCh2_ok, ↓kCh3_ok, ↓w_chA, ↓w_App, ↓w_Ins, ↓w_insG, ↓z_nx, ↓z_End, ↓z_Seq, ↓kT_nx, ↓kT_rt, ↓kT_bk, ↓kT_ct, ↓kT_exc, ↓z_If, ↓kIfS_ok, ↓kIfS_exc, ↓z_Ret, ↓kRet_ok, ↓kRet_exc, ↓z_Expr, ↓kNx_ok, ↓kNx_exc, ↓z_Asg, ↓kAs_ok, ↓kAs_exc, ↓z_tgO, t_N, t_T, t_nil, t_cons, t_G, t_gnil, t_gcons, t_bind, ↓z_Par, ↓kPar_ok, ↓z_Raise, ↓z_Break, ↓z_Cont, ↓z_For, ↓kSrc_ok, ↓w_Range, ↓w_rgF, ↓w_SeqI, ↓w_sqT, ↓w_Zip, ↓w_zpT, ↓w_Comp, ↓kCo_ok, ↓w_of, ↓kF_rt, ↓kF_nx, ↓kF_exc, ↓w_add, ↓w_sub, ↓w_pow10, ↓w_neg, ↓w_lt, ↓w_le, ↓w_gt, ↓w_ge, ↓w_ix0, ↓w_ix1, ↓w_ix2, ↓w_ix3, ↓w_eqI, ↓w_eqS, ↓w_eqT2, ↓w_abs, ↓w_lenT, ↓w_lenS, ↓w_max, ↓w_min, ↓w_intT, ↓w_intF, ↓w_isBool, ↓w_isTup, ↓w_tupT, ↓w_listT, ↓w_cutT, ↓brw_t, ↓brw_f, ↓brz_t, ↓brz_f, List.getElem?_cons_zero, List.getElem?_cons_succ, List.set_cons_zero, List.set_cons_succ, List.length_cons, List.length_nil, List.map_cons, List.map_nil, List.replicate, List.cons_append, List.nil_append, small, Nat.reduceAdd, Nat.reduceLeDiff, Nat.reduceEqDiff, Int.cast_ofNat_Int, Int.reduceBEq, BEq.rfl, ↓w_Yes, ↓w_bTru, ↓augF_ok, ↓z_Put, ↓putF_ok, ↓putG_ok, ↓w_isNn, ↓w_isNt, wipeF_nil, wipeF_cons, Int.reduceLE, Int.reduceLT, Int.reduceToNat, Int.reducePow, Int.reduceNeg, Int.reduceSub, Int.reduceAdd, Int.reduceMul, decide_true, decide_false, Bool.not_true, Bool.not_false, Bool.bne_false, Bool.bne_true, ↓w_aStar, ↓w_stT, ↓kSt_ok, ↓w_aDef, ↓kDf_ok, ↓w_Cnt, ↓w_Ext, ↓w_isBB, ↓w_isIB]
  unfold hold at kk
  rw [← decide_eq_decide.mpr g1, ← decide_eq_decide.mpr g2] at kk
  cases hd : decide (0 < (wth c.1 t).1) with
  | true => rw [hd] at kk; simp only [↓w_ok, ↓kB_ok, ↓kI_ok, ↓w_K, ↓w_V, ↓w_vR, ↓w_Op, ↓kO1_ok, ↓kO2_ok, ↓w_Un, ↓w_bOf, ↓w_isB, ↓kBl_ok, ↓kBl_exc, ↓kIf_ok, ↓kIf_exc, ↓w_okB, ↓w_okD, ↓w_bAnd, ↓w_bOr, ↓w_bNot, ↓kNot_ok, ↓kNot_exc, ↓w_eAnd, ↓w_eOr, ↓w_eNot, ↓kNotV_ok, ↓w_eIf, ↓w_aNil, ↓w_aCons, ↓kA1_ok, ↓kA2_ok, ↓kA1_exc, ↓kA2_exc, ↓w_Tup, ↓w_Lst, ↓w_mkT, ↓w_mkL, ↓w_Dct, ↓w_Call, ↓w_goS, ↓w_Bi, ↓w_Isi, ↓w_Cut, ↓kC1_ok, ↓kC2_ok, ↓kC3_ok, ↓w_oNone, ↓w_oSome, ↓w_vO, ↓w_Chain, ↓kCh1_ok, ↓kCh2_ok, ↓kCh3_ok, ↓w_chA, ↓w_App, ↓w_Ins, ↓w_insG, ↓z_nx, ↓z_End, ↓z_Seq, ↓kT_nx, ↓kT_rt, ↓kT_bk, ↓kT_ct, ↓kT_exc, ↓z_If, ↓kIfS_ok, ↓kIfS_exc, ↓z_Ret, ↓kRet_ok, ↓kRet_exc, ↓z_Expr, ↓kNx_ok, ↓kNx_exc, ↓z_Asg, ↓kAs_ok, ↓kAs_exc, ↓z_tgO, t_N, t_T, t_nil, t_cons, t_G, t_gnil, t_gcons, t_bind, ↓z_Par, ↓kPar_ok, ↓z_Raise, ↓z_Break, ↓z_Cont, ↓z_For, ↓kSrc_ok, ↓w_Range, ↓w_rgF, ↓w_SeqI, ↓w_sqT, ↓w_Zip, ↓w_zpT, ↓w_Comp, ↓kCo_ok, ↓w_of, ↓kF_rt, ↓kF_nx, ↓kF_exc, ↓w_add, ↓w_sub, ↓w_pow10, ↓w_neg, ↓w_lt, ↓w_le, ↓w_gt, ↓w_ge, ↓w_ix0, ↓w_ix1, ↓w_ix2, ↓w_ix3, ↓w_eqI, ↓w_eqS, ↓w_eqT2, ↓w_abs, ↓w_lenT, ↓w_lenS, ↓w_max, ↓w_min, ↓w_intT, ↓w_intF, ↓w_isBool, ↓w_isTup, ↓w_tupT, ↓w_listT, ↓w_cutT, ↓brw_t, ↓brw_f, ↓brz_t, ↓brz_f, List.getElem?_cons_zero, List.getElem?_cons_succ, List.set_cons_zero, List.set_cons_succ, List.length_cons, List.length_nil, List.map_cons, List.map_nil, List.replicate, List.cons_append, List.nil_append, small, Nat.reduceAdd, Nat.reduceLeDiff, Nat.reduceEqDiff, Int.cast_ofNat_Int, Int.reduceBEq, BEq.rfl, ↓w_Yes, ↓w_bTru, ↓augF_ok, ↓z_Put, ↓putF_ok, ↓putG_ok, ↓w_isNn, ↓w_isNt, wipeF_nil, wipeF_cons, Int.reduceLE, Int.reduceLT, Int.reduceToNat, Int.reducePow, Int.reduceNeg, Int.reduceSub, Int.reduceAdd, Int.reduceMul, decide_true, decide_false, Bool.not_true, Bool.not_false, Bool.bne_false, Bool.bne_true, ↓w_aStar, ↓w_stT, ↓kSt_ok, ↓w_aDef, ↓kDf_ok, ↓w_Cnt, ↓w_Ext, ↓w_isBB, ↓w_isIB]; exact kk
  | false =>
    rw [hd] at kk
    simp only [↓w_ok, ↓kB_ok, ↓kI_ok, ↓w_K, ↓w_V, ↓w_vR, ↓w_Op, ↓kO1_ok, ↓kO2_ok, ↓w_Un, ↓w_bOf, ↓w_isB, ↓kBl_ok, ↓kBl_exc, ↓kIf_ok, ↓kIf_exc, ↓w_okB, ↓w_okD, ↓w_bAnd, ↓w_bOr, ↓w_bNot, ↓kNot_ok, ↓kNot_exc, ↓w_eAnd, ↓w_eOr, ↓w_eNot, ↓kNotV_ok, ↓w_eIf, ↓w_aNil, ↓w_aCons, ↓kA1_ok, ↓kA2_ok, ↓kA1_exc, ↓kA2_exc, ↓w_Tup, ↓w_Lst, ↓w_mkT, ↓w_mkL, ↓w_Dct, ↓w_Call, ↓w_goS, ↓w_Bi, ↓w_Isi, ↓w_Cut, ↓kC1_ok, ↓kC2_ok, ↓kC3_ok, ↓w_oNone, ↓w_oSome, ↓w_vO, ↓w_Chain, ↓kCh1_ok, ↓kCh2_ok, ↓kCh3_ok, ↓w_chA, ↓w_App, ↓w_Ins, ↓w_insG, ↓z_nx, ↓z_End, ↓z_Seq, ↓kT_nx, ↓kT_rt, ↓kT_bk, ↓kT_ct, ↓kT_exc, ↓z_If, ↓kIfS_ok, ↓kIfS_exc, ↓z_Ret, ↓kRet_ok, ↓kRet_exc, ↓z_Expr, ↓kNx_ok, ↓kNx_exc, ↓z_Asg, ↓kAs_ok, ↓kAs_exc, ↓z_tgO, t_N, t_T, t_nil, t_cons, t_G, t_gnil, t_gcons, t_bind, ↓z_Par, ↓kPar_ok, ↓z_Raise, ↓z_Break, ↓z_Cont, ↓z_For, ↓kSrc_ok, ↓w_Range, ↓w_rgF, ↓w_SeqI, ↓w_sqT, ↓w_Zip, ↓w_zpT, ↓w_Comp, ↓kCo_ok, ↓w_of, ↓kF_rt, ↓kF_nx, ↓kF_exc, ↓w_add, ↓w_sub, ↓w_pow10, ↓w_neg, ↓w_lt, ↓w_le, ↓w_gt, ↓w_ge, ↓w_ix0, ↓w_ix1, ↓w_ix2, ↓w_ix3, ↓w_eqI, ↓w_eqS, ↓w_eqT2, ↓w_abs, ↓w_lenT, ↓w_lenS, ↓w_max, ↓w_min, ↓w_intT, ↓w_intF, ↓w_isBool, ↓w_isTup, ↓w_tupT, ↓w_listT, ↓w_cutT, ↓brw_t, ↓brw_f, ↓brz_t, ↓brz_f, List.getElem?_cons_zero, List.getElem?_cons_succ, List.set_cons_zero, List.set_cons_succ, List.length_cons, List.length_nil, List.map_cons, List.map_nil, List.replicate, List.cons_append, List.nil_append, small, Nat.reduceAdd, Nat.reduceLeDiff, Nat.reduceEqDiff, Int.cast_ofNat_Int, Int.reduceBEq, BEq.rfl, ↓w_Yes, ↓w_bTru, ↓augF_ok, ↓z_Put, ↓putF_ok, ↓putG_ok, ↓w_isNn, ↓w_isNt, wipeF_nil, wipeF_cons, Int.reduceLE, Int.reduceLT, Int.reduceToNat, Int.reducePow, Int.reduceNeg, Int.reduceSub, Int.reduceAdd, Int.reduceMul, decide_true, decide_false, Bool.not_true, Bool.not_false, Bool.bne_false, Bool.bne_true, ↓w_aStar, ↓w_stT, ↓kSt_ok, ↓w_aDef, ↓kDf_ok, ↓w_Cnt, ↓w_Ext, ↓w_isBB, ↓w_isIB]
    have e : ((wth c.1 t).1 == 0) = decide ((wth c.1 t).1 = 0) := by
      by_cases z : (wth c.1 t).1 = 0 <;> simp [z]
    rw [e]
    cases he : decide ((wth c.1 t).1 = 0) with
    | true => rw [he] at kk; simp only [↓w_ok, ↓kB_ok, ↓kI_ok, ↓w_K, ↓w_V, ↓w_vR, ↓w_Op, ↓kO1_ok, ↓kO2_ok, ↓w_Un, ↓w_bOf, ↓w_isB, ↓kBl_ok, ↓kBl_exc, ↓kIf_ok, ↓kIf_exc, ↓w_okB, ↓w_okD, ↓w_bAnd, ↓w_bOr, ↓w_bNot, ↓kNot_ok, ↓kNot_exc, ↓w_eAnd, ↓w_eOr, ↓w_eNot, ↓kNotV_ok, ↓w_eIf, ↓w_aNil, ↓w_aCons, ↓kA1_ok, ↓kA2_ok, ↓kA1_exc, ↓kA2_exc, ↓w_Tup, ↓w_Lst, ↓w_mkT, ↓w_mkL, ↓w_Dct, ↓w_Call, ↓w_goS, ↓w_Bi, ↓w_Isi, ↓w_Cut, ↓kC1_ok, ↓kC2_ok, ↓kC3_ok, ↓w_oNone, ↓w_oSome, ↓w_vO, ↓w_Chain, ↓kCh1_ok, ↓kCh2_ok, ↓kCh3_ok, ↓w_chA, ↓w_App, ↓w_Ins, ↓w_insG, ↓z_nx, ↓z_End, ↓z_Seq, ↓kT_nx, ↓kT_rt, ↓kT_bk, ↓kT_ct, ↓kT_exc, ↓z_If, ↓kIfS_ok, ↓kIfS_exc, ↓z_Ret, ↓kRet_ok, ↓kRet_exc, ↓z_Expr, ↓kNx_ok, ↓kNx_exc, ↓z_Asg, ↓kAs_ok, ↓kAs_exc, ↓z_tgO, t_N, t_T, t_nil, t_cons, t_G, t_gnil, t_gcons, t_bind, ↓z_Par, ↓kPar_ok, ↓z_Raise, ↓z_Break, ↓z_Cont, ↓z_For, ↓kSrc_ok, ↓w_Range, ↓w_rgF, ↓w_SeqI, ↓w_sqT, ↓w_Zip, ↓w_zpT, ↓w_Comp, ↓kCo_ok, ↓w_of, ↓kF_rt, ↓kF_nx, ↓kF_exc, ↓w_add, ↓w_sub, ↓w_pow10, ↓w_neg, ↓w_lt, ↓w_le, ↓w_gt, ↓w_ge, ↓w_ix0, ↓w_ix1, ↓w_ix2, ↓w_ix3, ↓w_eqI, ↓w_eqS, ↓w_eqT2, ↓w_abs, ↓w_lenT, ↓w_lenS, ↓w_max, ↓w_min, ↓w_intT, ↓w_intF, ↓w_isBool, ↓w_isTup, ↓w_tupT, ↓w_listT, ↓w_cutT, ↓brw_t, ↓brw_f, ↓brz_t, ↓brz_f, List.getElem?_cons_zero, List.getElem?_cons_succ, List.set_cons_zero, List.set_cons_succ, List.length_cons, List.length_nil, List.map_cons, List.map_nil, List.replicate, List.cons_append, List.nil_append, small, Nat.reduceAdd, Nat.reduceLeDiff, Nat.reduceEqDiff, Int.cast_ofNat_Int, Int.reduceBEq, BEq.rfl, ↓w_Yes, ↓w_bTru, ↓augF_ok, ↓z_Put, ↓putF_ok, ↓putG_ok, ↓w_isNn, ↓w_isNt, wipeF_nil, wipeF_cons, Int.reduceLE, Int.reduceLT, Int.reduceToNat, Int.reducePow, Int.reduceNeg, Int.reduceSub, Int.reduceAdd, Int.reduceMul, decide_true, decide_false, Bool.not_true, Bool.not_false, Bool.bne_false, Bool.bne_true, ↓w_aStar, ↓w_stT, ↓kSt_ok, ↓w_aDef, ↓kDf_ok, ↓w_Cnt, ↓w_Ext, ↓w_isBB, ↓w_isIB]; exact kk
    | false => rw [he] at kk; simp only [↓w_ok, ↓kB_ok, ↓kI_ok, ↓w_K, ↓w_V, ↓w_vR, ↓w_Op, ↓kO1_ok, ↓kO2_ok, ↓w_Un, ↓w_bOf, ↓w_isB, ↓kBl_ok, ↓kBl_exc, ↓kIf_ok, ↓kIf_exc, ↓w_okB, ↓w_okD, ↓w_bAnd, ↓w_bOr, ↓w_bNot, ↓kNot_ok, ↓kNot_exc, ↓w_eAnd, ↓w_eOr, ↓w_eNot, ↓kNotV_ok, ↓w_eIf, ↓w_aNil, ↓w_aCons, ↓kA1_ok, ↓kA2_ok, ↓kA1_exc, ↓kA2_exc, ↓w_Tup, ↓w_Lst, ↓w_mkT, ↓w_mkL, ↓w_Dct, ↓w_Call, ↓w_goS, ↓w_Bi, ↓w_Isi, ↓w_Cut, ↓kC1_ok, ↓kC2_ok, ↓kC3_ok, ↓w_oNone, ↓w_oSome, ↓w_vO, ↓w_Chain, ↓kCh1_ok, ↓kCh2_ok, ↓kCh3_ok, ↓w_chA, ↓w_App, ↓w_Ins, ↓w_insG, ↓z_nx, ↓z_End, ↓z_Seq, ↓kT_nx, ↓kT_rt, ↓kT_bk, ↓kT_ct, ↓kT_exc, ↓z_If, ↓kIfS_ok, ↓kIfS_exc, ↓z_Ret, ↓kRet_ok, ↓kRet_exc, ↓z_Expr, ↓kNx_ok, ↓kNx_exc, ↓z_Asg, ↓kAs_ok, ↓kAs_exc, ↓z_tgO, t_N, t_T, t_nil, t_cons, t_G, t_gnil, t_gcons, t_bind, ↓z_Par, ↓kPar_ok, ↓z_Raise, ↓z_Break, ↓z_Cont, ↓z_For, ↓kSrc_ok, ↓w_Range, ↓w_rgF, ↓w_SeqI, ↓w_sqT, ↓w_Zip, ↓w_zpT, ↓w_Comp, ↓kCo_ok, ↓w_of, ↓kF_rt, ↓kF_nx, ↓kF_exc, ↓w_add, ↓w_sub, ↓w_pow10, ↓w_neg, ↓w_lt, ↓w_le, ↓w_gt, ↓w_ge, ↓w_ix0, ↓w_ix1, ↓w_ix2, ↓w_ix3, ↓w_eqI, ↓w_eqS, ↓w_eqT2, ↓w_abs, ↓w_lenT, ↓w_lenS, ↓w_max, ↓w_min, ↓w_intT, ↓w_intF, ↓w_isBool, ↓w_isTup, ↓w_tupT, ↓w_listT, ↓w_cutT, ↓brw_t, ↓brw_f, ↓brz_t, ↓brz_f, List.getElem?_cons_zero, List.getElem?_cons_succ, List.set_cons_zero, List.set_cons_succ, List.length_cons, List.length_nil, List.map_cons, List.map_nil, List.replicate, List.cons_append, List.nil_append, small, Nat.reduceAdd, Nat.reduceLeDiff, Nat.reduceEqDiff, Int.cast_ofNat_Int, Int.reduceBEq, BEq.rfl, ↓w_Yes, ↓w_bTru, ↓augF_ok, ↓z_Put, ↓putF_ok, ↓putG_ok, ↓w_isNn, ↓w_isNt, wipeF_nil, wipeF_cons, Int.reduceLE, Int.reduceLT, Int.reduceToNat, Int.reducePow, Int.reduceNeg, Int.reduceSub, Int.reduceAdd, Int.reduceMul, decide_true, decide_false, Bool.not_true, Bool.not_false, Bool.bne_false, Bool.bne_true, ↓w_aStar, ↓w_stT, ↓kSt_ok, ↓w_aDef, ↓kDf_ok, ↓w_Cnt, ↓w_Ext, ↓w_isBB, ↓w_isIB]; exact kk
/-! roots -/
def rootOf (l : Ln) : Option Qp := if l.y = 0 then none else if 0 < l.y then some (lowQ (0 - l.x) l.y) else some (lowQ l.x (0 - l.y))
theorem root_ok (k : LnOk A l) {r : Qp} (e : rootOf l = some r) : Fq (A + A + 1) r ∧ lv l.x l.y r = 0 ∧ l.y ≠ 0 := by
  unfold rootOf at e
  split at e
  · cases e
  · rename_i h0
    split at e
    · rename_i h1
      cases e
      have c := lowQ_cross (x := 0 - l.x) h1
      refine ⟨lowQ_ok h1 (by rw [Int.zero_sub]; exact k.bx.neg.mono (by omega)) (k.by_.mono (by omega)), ?_, h0⟩
      unfold lv
      generalize lowQ (0 - l.x) l.y = q at *
      grind
    · rename_i h1
      cases e
      have h2 : 0 < 0 - l.y := by omega
      have c := lowQ_cross (x := l.x) h2
      refine ⟨lowQ_ok h2 (k.bx.mono (by omega)) (by rw [Int.zero_sub]; exact k.by_.neg.mono (by omega)), ?_, h0⟩
      unfold lv
      generalize lowQ l.x (0 - l.y) = q at *
      grind
end
end MI
end

section
set_option Elab.async false
set_option linter.all false
set_option autoImplicit false
set_option maxRecDepth 100000
set_option exponentiation.threshold 20000
set_option maxHeartbeats 4000000
open PySem L2
namespace MI
section
variable {h : Hq} {Φ : Rs D → Prop} {A B : Nat} {l : Ln} {t : Qp} {s : Spl}
theorem roots_w {m : Nat} {cs : List Cn} (e : lstAt h m = some (cs.map dcn)) (k : ∀ c ∈ cs, LnOk A c.1) (hA : A ≤ 2000) (hl : cs.length ≤ 1000) (kk : ∀ h1, Gr h h1 → h.length < h1.length → lstAt h1 h.length = some ((cs.filterMap fun c => rootOf c.1).map dq) → Φ (.ok (.ref h.length) h1)) : W (S__law_roots [.ref m] h) Φ := by
  have lt : ∀ n, n ≤ 6001 → n < 400000 := fun n h => by omega
  unfold S__law_roots
  simp only [↓w_ok, ↓kB_ok, ↓kI_ok, ↓w_K, ↓w_V, ↓w_vR, ↓w_Op, ↓kO1_ok, ↓kO2_ok, ↓w_Un, ↓w_bOf, ↓w_isB, ↓kBl_ok, ↓kBl_exc, ↓kIf_ok, ↓kIf_exc, ↓w_okB, ↓w_okD, ↓w_bAnd, ↓w_bOr, ↓w_bNot, ↓kNot_ok, ↓kNot_exc, ↓w_eAnd, ↓w_eOr, ↓w_eNot, ↓kNotV_ok, ↓w_eIf, ↓w_aNil, ↓w_aCons, ↓kA1_ok, ↓kA2_ok, ↓kA1_exc, ↓kA2_exc, ↓w_Tup, ↓w_Lst, ↓w_mkT, ↓w_mkL, ↓w_Dct, ↓w_Call, ↓w_goS, ↓w_Bi, ↓w_Isi, ↓w_Cut, ↓kC1_ok, ↓kC2_ok, ↓kC3_ok, ↓w_oNone, ↓w_oSome, ↓w_vO, ↓w_Chain, ↓kCh1_ok, ↓kCh2_ok, ↓kCh3_ok, ↓w_chA, ↓w_App, ↓w_Ins, ↓w_insG, ↓z_nx, ↓z_End, ↓z_Seq, ↓kT_nx, ↓kT_rt, ↓kT_bk, ↓kT_ct, ↓kT_exc, ↓z_If, ↓kIfS_ok, ↓kIfS_exc, ↓z_Ret, ↓kRet_ok, ↓kRet_exc, ↓z_Expr, ↓kNx_ok, ↓kNx_exc, ↓z_Asg, ↓kAs_ok, ↓kAs_exc, ↓z_tgO, t_N, t_T, t_nil, t_cons, t_G, t_gnil, t_gcons, t_bind, ↓z_Par, ↓kPar_ok, ↓z_Raise, ↓z_Break, ↓z_Cont, ↓z_For, ↓kSrc_ok, ↓w_Range, ↓w_rgF, ↓w_SeqI, ↓w_sqT, ↓w_Zip, ↓w_zpT, ↓w_Comp, ↓kCo_ok, ↓w_of, ↓kF_rt, ↓kF_nx, ↓kF_exc, ↓w_add, ↓w_sub, ↓w_pow10, ↓w_neg, ↓w_lt, ↓w_le, ↓w_gt, ↓w_ge, ↓w_ix0, ↓w_ix1, ↓w_ix2, ↓w_ix3, ↓w_eqI, ↓w_eqS, ↓w_eqT2, ↓w_abs, ↓w_lenT, ↓w_lenS, ↓w_max, ↓w_min, ↓w_intT, ↓w_intF, ↓w_isBool, ↓w_isTup, ↓w_tupT, ↓w_listT, ↓w_cutT, ↓brw_t, ↓brw_f, ↓brz_t, ↓brz_f, List.getElem?_cons_zero, List.getElem?_cons_succ, List.set_cons_zero, List.set_cons_succ, List.length_cons, List.length_nil, List.map_cons, List.map_nil, List.replicate, List.cons_append, List.nil_append, small, Nat.reduceAdd, Nat.reduceLeDiff, Nat.reduceEqDiff, Int.cast_ofNat_Int, Int.reduceBEq, BEq.rfl, ↓w_Yes, ↓w_bTru, ↓augF_ok, ↓z_Put, ↓putF_ok, ↓putG_ok, ↓w_isNn, ↓w_isNt, wipeF_nil, wipeF_cons, Int.reduceLE, Int.reduceLT, Int.reduceToNat, Int.reducePow, Int.reduceNeg, Int.reduceSub, Int.reduceAdd, Int.reduceMul, decide_true, decide_false, Bool.not_true, Bool.not_false, Bool.bne_false, Bool.bne_true, ↓w_aStar, ↓w_stT, ↓kSt_ok, ↓w_aDef, ↓kDf_ok, ↓w_Cnt, ↓w_Ext, ↓w_isBB, ↓w_isIB, w_sqL ((Gr.app h [.lst []]).lst e)]
  rw [show (srcC m (cs.map dcn).length).n = cs.length by simp [srcC]]
  refine turns_w (n := cs.length) (I := fun i fr h' => ∃ (F : List Qp) (T : List Cell) (x2 x3 x4 x5 x6 x7 : Option D), F = (cs.take i).filterMap (fun c => rootOf c.1) ∧ h' = h ++ [.lst (F.map dq)] ++ T ∧ fr = [some (.ref m), some (.ref h.length), x2, x3, x4, x5, x6, x7]) ?_ ?_ cs.length 0 _ _ (by omega) ⟨[], [], none, none, none, none, none, none, by simp, by simp, rfl⟩
  · rintro i fr h' hi ⟨F, T, x2, x3, x4, x5, x6, x7, hF, rfl, rfl⟩
    have gr : Gr h (h ++ [.lst (F.map dq)] ++ T) := ⟨[.lst (F.map dq)] ++ T, by simp⟩
    have lm : lstAt (h ++ [.lst (F.map dq)] ++ T) h.length = some (F.map dq) := lst_mid _ _ _
    have hg : (srcC m (cs.map dcn).length).get i (h ++ [.lst (F.map dq)] ++ T) = some (dcn cs[i]) := by
      rw [srcC_get e i _ gr, List.getElem?_map, List.getElem?_eq_getElem hi]; rfl
    rw [hg]
    have hq : cs[i] ∈ cs := List.getElem_mem hi
    have tk : cs.take (i + 1) = cs.take i ++ [cs[i]] := by rw [List.take_succ, List.getElem?_eq_getElem hi]; rfl
    have kc := k _ hq
    have fl : F.length ≤ i := by
      rw [hF]
      refine Nat.le_trans (List.length_filterMap_le _ _) ?_
      rw [List.length_take]; omega
    generalize cs[i] = c at *
    refine ⟨_, _, rfl, rfl, ?_⟩
    simp only [↓w_ok, ↓kB_ok, ↓kI_ok, ↓w_K, ↓w_V, ↓w_vR, ↓w_Op, ↓kO1_ok, ↓kO2_ok, ↓w_Un, ↓w_bOf, ↓w_isB, ↓kBl_ok, ↓kBl_exc, ↓kIf_ok, ↓kIf_exc, ↓w_okB, ↓w_okD, ↓w_bAnd, ↓w_bOr, ↓w_bNot, ↓kNot_ok, ↓kNot_exc, ↓w_eAnd, ↓w_eOr, ↓w_eNot, ↓kNotV_ok, ↓w_eIf, ↓w_aNil, ↓w_aCons, ↓kA1_ok, ↓kA2_ok, ↓kA1_exc, ↓kA2_exc, ↓w_Tup, ↓w_Lst, ↓w_mkT, ↓w_mkL, ↓w_Dct, ↓w_Call, ↓w_goS, ↓w_Bi, ↓w_Isi, ↓w_Cut, ↓kC1_ok, ↓kC2_ok, ↓kC3_ok, ↓w_oNone, ↓w_oSome, ↓w_vO, ↓w_Chain, ↓kCh1_ok, ↓kCh2_ok, ↓kCh3_ok, ↓w_chA, ↓w_App, ↓w_Ins, ↓w_insG, ↓z_nx, ↓z_End, ↓z_Seq, ↓kT_nx, ↓kT_rt, ↓kT_bk, ↓kT_ct, ↓kT_exc, ↓z_If, ↓kIfS_ok, ↓kIfS_exc, ↓z_Ret, ↓kRet_ok, ↓kRet_exc, ↓z_Expr, ↓kNx_ok, ↓kNx_exc, ↓z_Asg, ↓kAs_ok, ↓kAs_exc, ↓z_tgO, t_N, t_T, t_nil, t_cons, t_G, t_gnil, t_gcons, t_bind, ↓z_Par, ↓kPar_ok, ↓z_Raise, ↓z_Break, ↓z_Cont, ↓z_For, ↓kSrc_ok, ↓w_Range, ↓w_rgF, ↓w_SeqI, ↓w_sqT, ↓w_Zip, ↓w_zpT, ↓w_Comp, ↓kCo_ok, ↓w_of, ↓kF_rt, ↓kF_nx, ↓kF_exc, ↓w_add, ↓w_sub, ↓w_pow10, ↓w_neg, ↓w_lt, ↓w_le, ↓w_gt, ↓w_ge, ↓w_ix0, ↓w_ix1, ↓w_ix2, ↓w_ix3, ↓w_eqI, ↓w_eqS, ↓w_eqT2, ↓w_abs, ↓w_lenT, ↓w_lenS, ↓w_max, ↓w_min, ↓w_intT, ↓w_intF, ↓w_isBool, ↓w_isTup, ↓w_tupT, ↓w_listT, ↓w_cutT, ↓brw_t, ↓brw_f, ↓brz_t, ↓brz_f, List.getElem?_cons_zero, List.getElem?_cons_succ, List.set_cons_zero, List.set_cons_succ, List.length_cons, List.length_nil, List.map_cons, List.map_nil, List.replicate, List.cons_append, List.nil_append, small, Nat.reduceAdd, Nat.reduceLeDiff, Nat.reduceEqDiff, Int.cast_ofNat_Int, Int.reduceBEq, BEq.rfl, ↓w_Yes, ↓w_bTru, ↓augF_ok, ↓z_Put, ↓putF_ok, ↓putG_ok, ↓w_isNn, ↓w_isNt, wipeF_nil, wipeF_cons, Int.reduceLE, Int.reduceLT, Int.reduceToNat, Int.reducePow, Int.reduceNeg, Int.reduceSub, Int.reduceAdd, Int.reduceMul, decide_true, decide_false, Bool.not_true, Bool.not_false, Bool.bne_false, Bool.bne_true, ↓w_aStar, ↓w_stT, ↓kSt_ok, ↓w_aDef, ↓kDf_ok, ↓w_Cnt, ↓w_Ext, ↓w_isBB, ↓w_isIB]
    have hF1 : (cs.take (i + 1)).filterMap (fun c => rootOf c.1) = F ++ (match rootOf c.1 with | some r => [r] | none => []) := by
      rw [tk, List.filterMap_append, ← hF]
      congr 1
      cases hr : rootOf c.1 <;> simp [hr]
    have sm : small ((F.map dq).length + 1) = true := decide_eq_true (by simp; omega)
    by_cases h0 : c.1.y = 0
    · have hb : c.1.b.1 = 0 := by
        have := kc.fa.pos
        rcases Int.mul_eq_zero.mp (show c.1.b.1 * c.1.a.2 = 0 from h0) with z | z
        · exact z
        · omega
      have hb' : (c.1.b.1 == 0) = true := by simpa using hb
      simp only [↓w_ok, ↓kB_ok, ↓kI_ok, ↓w_K, ↓w_V, ↓w_vR, ↓w_Op, ↓kO1_ok, ↓kO2_ok, ↓w_Un, ↓w_bOf, ↓w_isB, ↓kBl_ok, ↓kBl_exc, ↓kIf_ok, ↓kIf_exc, ↓w_okB, ↓w_okD, ↓w_bAnd, ↓w_bOr, ↓w_bNot, ↓kNot_ok, ↓kNot_exc, ↓w_eAnd, ↓w_eOr, ↓w_eNot, ↓kNotV_ok, ↓w_eIf, ↓w_aNil, ↓w_aCons, ↓kA1_ok, ↓kA2_ok, ↓kA1_exc, ↓kA2_exc, ↓w_Tup, ↓w_Lst, ↓w_mkT, ↓w_mkL, ↓w_Dct, ↓w_Call, ↓w_goS, ↓w_Bi, ↓w_Isi, ↓w_Cut, ↓kC1_ok, ↓kC2_ok, ↓kC3_ok, ↓w_oNone, ↓w_oSome, ↓w_vO, ↓w_Chain, ↓kCh1_ok, ↓kCh2_ok, ↓kCh3_ok, ↓w_chA, ↓w_App, ↓w_Ins, ↓w_insG, ↓z_nx, ↓z_End, ↓z_Seq, ↓kT_nx, ↓kT_rt, ↓kT_bk, ↓kT_ct, ↓kT_exc, ↓z_If, ↓kIfS_ok, ↓kIfS_exc, ↓z_Ret, ↓kRet_ok, ↓kRet_exc, ↓z_Expr, ↓kNx_ok, ↓kNx_exc, ↓z_Asg, ↓kAs_ok, ↓kAs_exc, ↓z_tgO, t_N, t_T, t_nil, t_cons, t_G, t_gnil, t_gcons, t_bind, ↓z_Par, ↓kPar_ok, ↓z_Raise, ↓z_Break, ↓z_Cont, ↓z_For, ↓kSrc_ok, ↓w_Range, ↓w_rgF, ↓w_SeqI, ↓w_sqT, ↓w_Zip, ↓w_zpT, ↓w_Comp, ↓kCo_ok, ↓w_of, ↓kF_rt, ↓kF_nx, ↓kF_exc, ↓w_add, ↓w_sub, ↓w_pow10, ↓w_neg, ↓w_lt, ↓w_le, ↓w_gt, ↓w_ge, ↓w_ix0, ↓w_ix1, ↓w_ix2, ↓w_ix3, ↓w_eqI, ↓w_eqS, ↓w_eqT2, ↓w_abs, ↓w_lenT, ↓w_lenS, ↓w_max, ↓w_min, ↓w_intT, ↓w_intF, ↓w_isBool, ↓w_isTup, ↓w_tupT, ↓w_listT, ↓w_cutT, ↓brw_t, ↓brw_f, ↓brz_t, ↓brz_f, List.getElem?_cons_zero, List.getElem?_cons_succ, List.set_cons_zero, List.set_cons_succ, List.length_cons, List.length_nil, List.map_cons, List.map_nil, List.replicate, List.cons_append, List.nil_append, small, Nat.reduceAdd, Nat.reduceLeDiff, Nat.reduceEqDiff, Int.cast_ofNat_Int, Int.reduceBEq, BEq.rfl, ↓w_Yes, ↓w_bTru, ↓augF_ok, ↓z_Put, ↓putF_ok, ↓putG_ok, ↓w_isNn, ↓w_isNt, wipeF_nil, wipeF_cons, Int.reduceLE, Int.reduceLT, Int.reduceToNat, Int.reducePow, Int.reduceNeg, Int.reduceSub, Int.reduceAdd, Int.reduceMul, decide_true, decide_false, Bool.not_true, Bool.not_false, Bool.bne_false, Bool.bne_true, ↓w_aStar, ↓w_stT, ↓kSt_ok, ↓w_aDef, ↓kDf_ok, ↓w_Cnt, ↓w_Ext, ↓w_isBB, ↓w_isIB, hb']
      refine ⟨F, T, _, _, _, _, _, _, ?_, rfl, rfl⟩
      rw [hF1]
      simp [rootOf, h0]
    · have hb : c.1.b.1 ≠ 0 := fun z => h0 (show c.1.b.1 * c.1.a.2 = 0 by rw [z, Int.zero_mul])
      have hb' : (c.1.b.1 == 0) = false := by simpa using hb
      have pa := kc.fa.pos
      simp only [↓w_ok, ↓kB_ok, ↓kI_ok, ↓w_K, ↓w_V, ↓w_vR, ↓w_Op, ↓kO1_ok, ↓kO2_ok, ↓w_Un, ↓w_bOf, ↓w_isB, ↓kBl_ok, ↓kBl_exc, ↓kIf_ok, ↓kIf_exc, ↓w_okB, ↓w_okD, ↓w_bAnd, ↓w_bOr, ↓w_bNot, ↓kNot_ok, ↓kNot_exc, ↓w_eAnd, ↓w_eOr, ↓w_eNot, ↓kNotV_ok, ↓w_eIf, ↓w_aNil, ↓w_aCons, ↓kA1_ok, ↓kA2_ok, ↓kA1_exc, ↓kA2_exc, ↓w_Tup, ↓w_Lst, ↓w_mkT, ↓w_mkL, ↓w_Dct, ↓w_Call, ↓w_goS, ↓w_Bi, ↓w_Isi, ↓w_Cut, ↓kC1_ok, ↓kC2_ok, ↓kC3_ok, ↓w_oNone, ↓w_oSome, ↓w_vO, ↓w_Chain, ↓kCh1_ok, ↓kCh2_ok, ↓kCh3_ok, ↓w_chA, ↓w_App, ↓w_Ins, ↓w_insG, ↓z_nx, ↓z_End, ↓z_Seq, ↓kT_nx, ↓kT_rt, ↓kT_bk, ↓kT_ct, ↓kT_exc, ↓z_If, ↓kIfS_ok, ↓kIfS_exc, ↓z_Ret, ↓kRet_ok, ↓kRet_exc, ↓z_Expr, ↓kNx_ok, ↓kNx_exc, ↓z_Asg, ↓kAs_ok, ↓kAs_exc, ↓z_tgO, t_N, t_T, t_nil, t_cons, t_G, t_gnil, t_gcons, t_bind, ↓z_Par, ↓kPar_ok, ↓z_Raise, ↓z_Break, ↓z_Cont, ↓z_For, ↓kSrc_ok, ↓w_Range, ↓w_rgF, ↓w_SeqI, ↓w_sqT, ↓w_Zip, ↓w_zpT, ↓w_Comp, ↓kCo_ok, ↓w_of, ↓kF_rt, ↓kF_nx, ↓kF_exc, ↓w_add, ↓w_sub, ↓w_pow10, ↓w_neg, ↓w_lt, ↓w_le, ↓w_gt, ↓w_ge, ↓w_ix0, ↓w_ix1, ↓w_ix2, ↓w_ix3, ↓w_eqI, ↓w_eqS, ↓w_eqT2, ↓w_abs, ↓w_lenT, ↓w_lenS, ↓w_max, ↓w_min, ↓w_intT, ↓w_intF, ↓w_isBool, ↓w_isTup, ↓w_tupT, ↓w_listT, ↓w_cutT, ↓brw_t, ↓brw_f, ↓brz_t, ↓brz_f, List.getElem?_cons_zero, List.getElem?_cons_succ, List.set_cons_zero, List.set_cons_succ, List.length_cons, List.length_nil, List.map_cons, List.map_nil, List.replicate, List.cons_append, List.nil_append, small, Nat.reduceAdd, Nat.reduceLeDiff, Nat.reduceEqDiff, Int.cast_ofNat_Int, Int.reduceBEq, BEq.rfl, ↓w_Yes, ↓w_bTru, ↓augF_ok, ↓z_Put, ↓putF_ok, ↓putG_ok, ↓w_isNn, ↓w_isNt, wipeF_nil, wipeF_cons, Int.reduceLE, Int.reduceLT, Int.reduceToNat, Int.reducePow, Int.reduceNeg, Int.reduceSub, Int.reduceAdd, Int.reduceMul, decide_true, decide_false, Bool.not_true, Bool.not_false, Bool.bne_false, Bool.bne_true, ↓w_aStar, ↓w_stT, ↓kSt_ok, ↓w_aDef, ↓kDf_ok, ↓w_Cnt, ↓w_Ext, ↓w_isBB, ↓w_isIB, hb', w_apF lm]
      by_cases h1 : 0 < c.1.y
      · have h1' : decide (0 < c.1.b.1) = true := decide_eq_true (by
          by_cases z : 0 < c.1.b.1
          · exact z
          · have := Int.mul_nonpos_of_nonpos_of_nonneg (a := c.1.b.1) (b := c.1.a.2) (by omega) (by omega)
            have e : c.1.y = c.1.b.1 * c.1.a.2 := rfl
            omega)
        simp only [↓w_ok, ↓kB_ok, ↓kI_ok, ↓w_K, ↓w_V, ↓w_vR, ↓w_Op, ↓kO1_ok, ↓kO2_ok, ↓w_Un, ↓w_bOf, ↓w_isB, ↓kBl_ok, ↓kBl_exc, ↓kIf_ok, ↓kIf_exc, ↓w_okB, ↓w_okD, ↓w_bAnd, ↓w_bOr, ↓w_bNot, ↓kNot_ok, ↓kNot_exc, ↓w_eAnd, ↓w_eOr, ↓w_eNot, ↓kNotV_ok, ↓w_eIf, ↓w_aNil, ↓w_aCons, ↓kA1_ok, ↓kA2_ok, ↓kA1_exc, ↓kA2_exc, ↓w_Tup, ↓w_Lst, ↓w_mkT, ↓w_mkL, ↓w_Dct, ↓w_Call, ↓w_goS, ↓w_Bi, ↓w_Isi, ↓w_Cut, ↓kC1_ok, ↓kC2_ok, ↓kC3_ok, ↓w_oNone, ↓w_oSome, ↓w_vO, ↓w_Chain, ↓kCh1_ok, ↓kCh2_ok, ↓kCh3_ok, ↓w_chA, ↓w_App, ↓w_Ins, ↓w_insG, ↓z_nx, ↓z_End, ↓z_Seq, ↓kT_nx, ↓kT_rt, ↓kT_bk, ↓kT_ct, ↓kT_exc, ↓z_If, ↓kIfS_ok, ↓kIfS_exc, ↓z_Ret, ↓kRet_ok, ↓kRet_exc, ↓z_Expr, ↓kNx_ok, ↓kNx_exc, ↓z_Asg, ↓kAs_ok, ↓kAs_exc, ↓z_tgO, t_N, t_T, t_nil, t_cons, t_G, t_gnil, t_gcons, t_bind, ↓z_Par, ↓kPar_ok, ↓z_Raise, ↓z_Break, ↓z_Cont, ↓z_For, ↓kSrc_ok, ↓w_Range, ↓w_rgF, ↓w_SeqI, ↓w_sqT, ↓w_Zip, ↓w_zpT, ↓w_Comp, ↓kCo_ok, ↓w_of, ↓kF_rt, ↓kF_nx, ↓kF_exc, ↓w_add, ↓w_sub, ↓w_pow10, ↓w_neg, ↓w_lt, ↓w_le, ↓w_gt, ↓w_ge, ↓w_ix0, ↓w_ix1, ↓w_ix2, ↓w_ix3, ↓w_eqI, ↓w_eqS, ↓w_eqT2, ↓w_abs, ↓w_lenT, ↓w_lenS, ↓w_max, ↓w_min, ↓w_intT, ↓w_intF, ↓w_isBool, ↓w_isTup, ↓w_tupT, ↓w_listT, ↓w_cutT, ↓brw_t, ↓brw_f, ↓brz_t, ↓brz_f, List.getElem?_cons_zero, List.getElem?_cons_succ, List.set_cons_zero, List.set_cons_succ, List.length_cons, List.length_nil, List.map_cons, List.map_nil, List.replicate, List.cons_append, List.nil_append, small, Nat.reduceAdd, Nat.reduceLeDiff, Nat.reduceEqDiff, Int.cast_ofNat_Int, Int.reduceBEq, BEq.rfl, ↓w_Yes, ↓w_bTru, ↓augF_ok, ↓z_Put, ↓putF_ok, ↓putG_ok, ↓w_isNn, ↓w_isNt, wipeF_nil, wipeF_cons, Int.reduceLE, Int.reduceLT, Int.reduceToNat, Int.reducePow, Int.reduceNeg, Int.reduceSub, Int.reduceAdd, Int.reduceMul, decide_true, decide_false, Bool.not_true, Bool.not_false, Bool.bne_false, Bool.bne_true, ↓w_aStar, ↓w_stT, ↓kSt_ok, ↓w_aDef, ↓kDf_ok, ↓w_Cnt, ↓w_Ext, ↓w_isBB, ↓w_isIB, h1', w_mul (kc.fa.b1.mk kc.fb.b2 (lt _ (by omega)) (lt _ (by omega))), w_mul (kc.fb.b1.mk kc.fa.b2 (lt _ (by omega)) (lt _ (by omega)))]
        refine low_w h1 kc.by_ (by omega) ?_
        simp only [↓w_ok, ↓kB_ok, ↓kI_ok, ↓w_K, ↓w_V, ↓w_vR, ↓w_Op, ↓kO1_ok, ↓kO2_ok, ↓w_Un, ↓w_bOf, ↓w_isB, ↓kBl_ok, ↓kBl_exc, ↓kIf_ok, ↓kIf_exc, ↓w_okB, ↓w_okD, ↓w_bAnd, ↓w_bOr, ↓w_bNot, ↓kNot_ok, ↓kNot_exc, ↓w_eAnd, ↓w_eOr, ↓w_eNot, ↓kNotV_ok, ↓w_eIf, ↓w_aNil, ↓w_aCons, ↓kA1_ok, ↓kA2_ok, ↓kA1_exc, ↓kA2_exc, ↓w_Tup, ↓w_Lst, ↓w_mkT, ↓w_mkL, ↓w_Dct, ↓w_Call, ↓w_goS, ↓w_Bi, ↓w_Isi, ↓w_Cut, ↓kC1_ok, ↓kC2_ok, ↓kC3_ok, ↓w_oNone, ↓w_oSome, ↓w_vO, ↓w_Chain, ↓kCh1_ok, ↓kCh2_ok, ↓kCh3_ok, ↓w_chA, ↓w_App, ↓w_Ins, ↓w_insG, ↓z_nx, ↓z_End, ↓z_Seq, ↓kT_nx, ↓kT_rt, ↓kT_bk, ↓kT_ct, ↓kT_exc, ↓z_If, ↓kIfS_ok, ↓kIfS_exc, ↓z_Ret, ↓kRet_ok, ↓kRet_exc, ↓z_Expr, ↓kNx_ok, ↓kNx_exc, ↓z_Asg, ↓kAs_ok, ↓kAs_exc, ↓z_tgO, t_N, t_T, t_nil, t_cons, t_G, t_gnil, t_gcons, t_bind, ↓z_Par, ↓kPar_ok, ↓z_Raise, ↓z_Break, ↓z_Cont, ↓z_For, ↓kSrc_ok, ↓w_Range, ↓w_rgF, ↓w_SeqI, ↓w_sqT, ↓w_Zip, ↓w_zpT, ↓w_Comp, ↓kCo_ok, ↓w_of, ↓kF_rt, ↓kF_nx, ↓kF_exc, ↓w_add, ↓w_sub, ↓w_pow10, ↓w_neg, ↓w_lt, ↓w_le, ↓w_gt, ↓w_ge, ↓w_ix0, ↓w_ix1, ↓w_ix2, ↓w_ix3, ↓w_eqI, ↓w_eqS, ↓w_eqT2, ↓w_abs, ↓w_lenT, ↓w_lenS, ↓w_max, ↓w_min, ↓w_intT, ↓w_intF, ↓w_isBool, ↓w_isTup, ↓w_tupT, ↓w_listT, ↓w_cutT, ↓brw_t, ↓brw_f, ↓brz_t, ↓brz_f, List.getElem?_cons_zero, List.getElem?_cons_succ, List.set_cons_zero, List.set_cons_succ, List.length_cons, List.length_nil, List.map_cons, List.map_nil, List.replicate, List.cons_append, List.nil_append, small, Nat.reduceAdd, Nat.reduceLeDiff, Nat.reduceEqDiff, Int.cast_ofNat_Int, Int.reduceBEq, BEq.rfl, ↓w_Yes, ↓w_bTru, ↓augF_ok, ↓z_Put, ↓putF_ok, ↓putG_ok, ↓w_isNn, ↓w_isNt, wipeF_nil, wipeF_cons, Int.reduceLE, Int.reduceLT, Int.reduceToNat, Int.reducePow, Int.reduceNeg, Int.reduceSub, Int.reduceAdd, Int.reduceMul, decide_true, decide_false, Bool.not_true, Bool.not_false, Bool.bne_false, Bool.bne_true, ↓w_aStar, ↓w_stT, ↓kSt_ok, ↓w_aDef, ↓kDf_ok, ↓w_Cnt, ↓w_Ext, ↓w_isBB, ↓w_isIB, w_apG lm sm, set_mid]
        refine ⟨F ++ [lowQ (0 - c.1.x) c.1.y], T, _, _, _, _, _, _, ?_, by rw [List.map_append]; rfl, rfl⟩
        rw [hF1]
        simp [rootOf, h0, h1]
      · have h1' : decide (0 < c.1.b.1) = false := decide_eq_false (fun z => h1 (Int.mul_pos z (show 0 < c.1.a.2 by omega)))
        simp only [↓w_ok, ↓kB_ok, ↓kI_ok, ↓w_K, ↓w_V, ↓w_vR, ↓w_Op, ↓kO1_ok, ↓kO2_ok, ↓w_Un, ↓w_bOf, ↓w_isB, ↓kBl_ok, ↓kBl_exc, ↓kIf_ok, ↓kIf_exc, ↓w_okB, ↓w_okD, ↓w_bAnd, ↓w_bOr, ↓w_bNot, ↓kNot_ok, ↓kNot_exc, ↓w_eAnd, ↓w_eOr, ↓w_eNot, ↓kNotV_ok, ↓w_eIf, ↓w_aNil, ↓w_aCons, ↓kA1_ok, ↓kA2_ok, ↓kA1_exc, ↓kA2_exc, ↓w_Tup, ↓w_Lst, ↓w_mkT, ↓w_mkL, ↓w_Dct, ↓w_Call, ↓w_goS, ↓w_Bi, ↓w_Isi, ↓w_Cut, ↓kC1_ok, ↓kC2_ok, ↓kC3_ok, ↓w_oNone, ↓w_oSome, ↓w_vO, ↓w_Chain, ↓kCh1_ok, ↓kCh2_ok, ↓kCh3_ok, ↓w_chA, ↓w_App, ↓w_Ins, ↓w_insG, ↓z_nx, ↓z_End, ↓z_Seq, ↓kT_nx, ↓kT_rt, ↓kT_bk, ↓kT_ct, ↓kT_exc, ↓z_If, ↓kIfS_ok, ↓kIfS_exc, ↓z_Ret, ↓kRet_ok, ↓kRet_exc, ↓z_Expr, ↓kNx_ok, ↓kNx_exc, ↓z_Asg, ↓kAs_ok, ↓kAs_exc, ↓z_tgO, t_N, t_T, t_nil, t_cons, t_G, t_gnil, t_gcons, t_bind, ↓z_Par, ↓kPar_ok, ↓z_Raise, ↓z_Break, ↓z_Cont, ↓z_For, ↓kSrc_ok, ↓w_Range, ↓w_rgF, ↓w_SeqI, ↓w_sqT, ↓w_Zip, ↓w_zpT, ↓w_Comp, ↓kCo_ok, ↓w_of, ↓kF_rt, ↓kF_nx, ↓kF_exc, ↓w_add, ↓w_sub, ↓w_pow10, ↓w_neg, ↓w_lt, ↓w_le, ↓w_gt, ↓w_ge, ↓w_ix0, ↓w_ix1, ↓w_ix2, ↓w_ix3, ↓w_eqI, ↓w_eqS, ↓w_eqT2, ↓w_abs, ↓w_lenT, ↓w_lenS, ↓w_max, ↓w_min, ↓w_intT, ↓w_intF, ↓w_isBool, ↓w_isTup, ↓w_tupT, ↓w_listT, ↓w_cutT, ↓brw_t, ↓brw_f, ↓brz_t, ↓brz_f, List.getElem?_cons_zero, List.getElem?_cons_succ, List.set_cons_zero, List.set_cons_succ, List.length_cons, List.length_nil, List.map_cons, List.map_nil, List.replicate, List.cons_append, List.nil_append, small, Nat.reduceAdd, Nat.reduceLeDiff, Nat.reduceEqDiff, Int.cast_ofNat_Int, Int.reduceBEq, BEq.rfl, ↓w_Yes, ↓w_bTru, ↓augF_ok, ↓z_Put, ↓putF_ok, ↓putG_ok, ↓w_isNn, ↓w_isNt, wipeF_nil, wipeF_cons, Int.reduceLE, Int.reduceLT, Int.reduceToNat, Int.reducePow, Int.reduceNeg, Int.reduceSub, Int.reduceAdd, Int.reduceMul, decide_true, decide_false, Bool.not_true, Bool.not_false, Bool.bne_false, Bool.bne_true, ↓w_aStar, ↓w_stT, ↓kSt_ok, ↓w_aDef, ↓kDf_ok, ↓w_Cnt, ↓w_Ext, ↓w_isBB, ↓w_isIB, h1', w_mul (kc.fa.b1.mk kc.fb.b2 (lt _ (by omega)) (lt _ (by omega))), w_mul (kc.fb.b1.mk kc.fa.b2 (lt _ (by omega)) (lt _ (by omega)))]
        have e0 : c.1.b.1 * c.1.a.2 = c.1.y := rfl
        refine low_w (by omega) (B := A + A) (by rw [Int.zero_sub]; exact kc.by_.neg) (by omega) ?_
        simp only [↓w_ok, ↓kB_ok, ↓kI_ok, ↓w_K, ↓w_V, ↓w_vR, ↓w_Op, ↓kO1_ok, ↓kO2_ok, ↓w_Un, ↓w_bOf, ↓w_isB, ↓kBl_ok, ↓kBl_exc, ↓kIf_ok, ↓kIf_exc, ↓w_okB, ↓w_okD, ↓w_bAnd, ↓w_bOr, ↓w_bNot, ↓kNot_ok, ↓kNot_exc, ↓w_eAnd, ↓w_eOr, ↓w_eNot, ↓kNotV_ok, ↓w_eIf, ↓w_aNil, ↓w_aCons, ↓kA1_ok, ↓kA2_ok, ↓kA1_exc, ↓kA2_exc, ↓w_Tup, ↓w_Lst, ↓w_mkT, ↓w_mkL, ↓w_Dct, ↓w_Call, ↓w_goS, ↓w_Bi, ↓w_Isi, ↓w_Cut, ↓kC1_ok, ↓kC2_ok, ↓kC3_ok, ↓w_oNone, ↓w_oSome, ↓w_vO, ↓w_Chain, ↓kCh1_ok, ↓kCh2_ok, ↓kCh3_ok, ↓w_chA, ↓w_App, ↓w_Ins, ↓w_insG, ↓z_nx, ↓z_End, ↓z_Seq, ↓kT_nx, ↓kT_rt, ↓kT_bk, ↓kT_ct, ↓kT_exc, ↓z_If, ↓kIfS_ok, ↓kIfS_exc, ↓z_Ret, ↓kRet_ok, ↓kRet_exc, ↓z_Expr, ↓kNx_ok, ↓kNx_exc, ↓z_Asg, ↓kAs_ok, ↓kAs_exc, ↓z_tgO, t_N, t_T, t_nil, t_cons, t_G, t_gnil, t_gcons, t_bind, ↓z_Par, ↓kPar_ok, ↓z_Raise, ↓z_Break, ↓z_Cont, ↓z_For, ↓kSrc_ok, ↓w_Range, ↓w_rgF, ↓w_SeqI, ↓w_sqT, ↓w_Zip, ↓w_zpT, ↓w_Comp, ↓kCo_ok, ↓w_of, ↓kF_rt, ↓kF_nx, ↓kF_exc, ↓w_add, ↓w_sub, ↓w_pow10, ↓w_neg, ↓w_lt, ↓w_le, ↓w_gt, ↓w_ge, ↓w_ix0, ↓w_ix1, ↓w_ix2, ↓w_ix3, ↓w_eqI, ↓w_eqS, ↓w_eqT2, ↓w_abs, ↓w_lenT, ↓w_lenS, ↓w_max, ↓w_min, ↓w_intT, ↓w_intF, ↓w_isBool, ↓w_isTup, ↓w_tupT, ↓w_listT, ↓w_cutT, ↓brw_t, ↓brw_f, ↓brz_t, ↓brz_f, List.getElem?_cons_zero, List.getElem?_cons_succ, List.set_cons_zero, List.set_cons_succ, List.length_cons, List.length_nil, List.map_cons, List.map_nil, List.replicate, List.cons_append, List.nil_append, small, Nat.reduceAdd, Nat.reduceLeDiff, Nat.reduceEqDiff, Int.cast_ofNat_Int, Int.reduceBEq, BEq.rfl, ↓w_Yes, ↓w_bTru, ↓augF_ok, ↓z_Put, ↓putF_ok, ↓putG_ok, ↓w_isNn, ↓w_isNt, wipeF_nil, wipeF_cons, Int.reduceLE, Int.reduceLT, Int.reduceToNat, Int.reducePow, Int.reduceNeg, Int.reduceSub, Int.reduceAdd, Int.reduceMul, decide_true, decide_false, Bool.not_true, Bool.not_false, Bool.bne_false, Bool.bne_true, ↓w_aStar, ↓w_stT, ↓kSt_ok, ↓w_aDef, ↓kDf_ok, ↓w_Cnt, ↓w_Ext, ↓w_isBB, ↓w_isIB, w_apG lm sm, set_mid]
        refine ⟨F ++ [lowQ c.1.x (0 - c.1.y)], T, _, _, _, _, _, _, ?_, by rw [List.map_append]; rfl, rfl⟩
        rw [hF1]
        simp [rootOf, h0, h1]
  · rintro fr h' ⟨F, T, x2, x3, x4, x5, x6, x7, hF, rfl, rfl⟩
    have gr : Gr h (h ++ [.lst (F.map dq)] ++ T) := ⟨[.lst (F.map dq)] ++ T, by simp⟩
    refine ⟨by have := srcC_fin e _ gr; simpa using this, ?_⟩
    simp only [↓w_ok, ↓kB_ok, ↓kI_ok, ↓w_K, ↓w_V, ↓w_vR, ↓w_Op, ↓kO1_ok, ↓kO2_ok, ↓w_Un, ↓w_bOf, ↓w_isB, ↓kBl_ok, ↓kBl_exc, ↓kIf_ok, ↓kIf_exc, ↓w_okB, ↓w_okD, ↓w_bAnd, ↓w_bOr, ↓w_bNot, ↓kNot_ok, ↓kNot_exc, ↓w_eAnd, ↓w_eOr, ↓w_eNot, ↓kNotV_ok, ↓w_eIf, ↓w_aNil, ↓w_aCons, ↓kA1_ok, ↓kA2_ok, ↓kA1_exc, ↓kA2_exc, ↓w_Tup, ↓w_Lst, ↓w_mkT, ↓w_mkL, ↓w_Dct, ↓w_Call, ↓w_goS, ↓w_Bi, ↓w_Isi, ↓w_Cut, ↓kC1_ok, ↓kC2_ok, ↓kC3_ok, ↓w_oNone, ↓w_oSome, ↓w_vO, ↓w_Chain, ↓kCh1_ok, ↓kCh2_ok, ↓kCh3_ok, ↓w_chA, ↓w_App, ↓w_Ins, ↓w_insG, ↓z_nx, ↓z_End, ↓z_Seq, ↓kT_nx, ↓kT_rt, ↓kT_bk, ↓kT_ct, ↓kT_exc, ↓z_If, ↓kIfS_ok, ↓kIfS_exc, ↓z_Ret, ↓kRet_ok, ↓kRet_exc, ↓z_Expr, ↓kNx_ok, ↓kNx_exc, ↓z_Asg, ↓kAs_ok, ↓kAs_exc, ↓z_tgO, t_N, t_T, t_nil, t_cons, t_G, t_gnil, t_gcons, t_bind, ↓z_Par, ↓kPar_ok, ↓z_Raise, ↓z_Break, ↓z_Cont, ↓z_For, ↓kSrc_ok, ↓w_Range, ↓w_rgF, ↓w_SeqI, ↓w_sqT, ↓w_Zip, ↓w_zpT, ↓w_Comp, ↓kCo_ok, ↓w_of, ↓kF_rt, ↓kF_nx, ↓kF_exc, ↓w_add, ↓w_sub, ↓w_pow10, ↓w_neg, ↓w_lt, ↓w_le, ↓w_gt, ↓w_ge, ↓w_ix0, ↓w_ix1, ↓w_ix2, ↓w_ix3, ↓w_eqI, ↓w_eqS, ↓w_eqT2, ↓w_abs, ↓w_lenT, ↓w_lenS, ↓w_max, ↓w_min, ↓w_intT, ↓w_intF, ↓w_isBool, ↓w_isTup, ↓w_tupT, ↓w_listT, ↓w_cutT, ↓brw_t, ↓brw_f, ↓brz_t, ↓brz_f, List.getElem?_cons_zero, List.getElem?_cons_succ, List.set_cons_zero, List.set_cons_succ, List.length_cons, List.length_nil, List.map_cons, List.map_nil, List.replicate, List.cons_append, List.nil_append, small, Nat.reduceAdd, Nat.reduceLeDiff, Nat.reduceEqDiff, Int.cast_ofNat_Int, Int.reduceBEq, BEq.rfl, ↓w_Yes, ↓w_bTru, ↓augF_ok, ↓z_Put, ↓putF_ok, ↓putG_ok, ↓w_isNn, ↓w_isNt, wipeF_nil, wipeF_cons, Int.reduceLE, Int.reduceLT, Int.reduceToNat, Int.reducePow, Int.reduceNeg, Int.reduceSub, Int.reduceAdd, Int.reduceMul, decide_true, decide_false, Bool.not_true, Bool.not_false, Bool.bne_false, Bool.bne_true, ↓w_aStar, ↓w_stT, ↓kSt_ok, ↓w_aDef, ↓kDf_ok, ↓w_Cnt, ↓w_Ext, ↓w_isBB, ↓w_isIB]
    rw [List.take_of_length_le (Nat.le_refl _)] at hF
    refine kk _ gr (by simp) ?_
    rw [← hF]
    exact lst_mid _ _ _
/-! marks -/
def mdl (a b : Qp) : Qp := lowQ (a.1 * b.2 + b.1 * a.2) (2 * a.2 * b.2)
theorem mdl_ok {a b : Qp} (fa : Fq B a) (fb : Fq B b) : Fq (B + B + 2) (mdl a b) := by
  have pa := fa.pos
  have pb := fb.pos
  have p := Int.mul_pos (show 0 < 2 * a.2 by omega) (show 0 < b.2 by omega)
  refine lowQ_ok p (((fa.b1.mul fb.b2).add (fb.b1.mul fa.b2)).mono (by omega)) ?_
  have e : 2 * a.2 * b.2 = a.2 * b.2 + a.2 * b.2 := by grind
  rw [e]
  exact ((fa.b2.mul fb.b2).add (fa.b2.mul fb.b2)).mono (by omega)
theorem middle_w {a b : Qp} (fa : Fq B a) (fb : Fq B b) (hB : B ≤ 2000) (kk : Φ (.ok (dq (mdl a b)) h)) : W (S__law_middle [dq a, dq b] h) Φ := by
  have lt : ∀ n, n ≤ 6001 → n < 400000 := fun n h => by omega
  have pa := fa.pos
  have pb := fb.pos
  have p := Int.mul_pos (show 0 < 2 * a.2 by omega) (show 0 < b.2 by omega)
  have b2 : Bd 3 2 := by unfold Bd; decide
  unfold S__law_middle
  simp only [↓w_ok, ↓kB_ok, ↓kI_ok, ↓w_K, ↓w_V, ↓w_vR, ↓w_Op, ↓kO1_ok, ↓kO2_ok, ↓w_Un, ↓w_bOf, ↓w_isB, ↓kBl_ok, ↓kBl_exc, ↓kIf_ok, ↓kIf_exc, ↓w_okB, ↓w_okD, ↓w_bAnd, ↓w_bOr, ↓w_bNot, ↓kNot_ok, ↓kNot_exc, ↓w_eAnd, ↓w_eOr, ↓w_eNot, ↓kNotV_ok, ↓w_eIf, ↓w_aNil, ↓w_aCons, ↓kA1_ok, ↓kA2_ok, ↓kA1_exc, ↓kA2_exc, ↓w_Tup, ↓w_Lst, ↓w_mkT, ↓w_mkL, ↓w_Dct, ↓w_Call, ↓w_goS, ↓w_Bi, ↓w_Isi, ↓w_Cut, ↓kC1_ok, ↓kC2_ok, ↓kC3_ok, ↓w_oNone, ↓w_oSome, ↓w_vO, ↓w_Chain, ↓kCh1_ok, ↓kCh2_ok, ↓kCh3_ok, ↓w_chA, ↓w_App, ↓w_Ins, ↓w_insG, ↓z_nx, ↓z_End, ↓z_Seq, ↓kT_nx, ↓kT_rt, ↓kT_bk, ↓kT_ct, ↓kT_exc, ↓z_If, ↓kIfS_ok, ↓kIfS_exc, ↓z_Ret, ↓kRet_ok, ↓kRet_exc, ↓z_Expr, ↓kNx_ok, ↓kNx_exc, ↓z_Asg, ↓kAs_ok, ↓kAs_exc, ↓z_tgO, t_N, t_T, t_nil, t_cons, t_G, t_gnil, t_gcons, t_bind, ↓z_Par, ↓kPar_ok, ↓z_Raise, ↓z_Break, ↓z_Cont, ↓z_For, ↓kSrc_ok, ↓w_Range, ↓w_rgF, ↓w_SeqI, ↓w_sqT, ↓w_Zip, ↓w_zpT, ↓w_Comp, ↓kCo_ok, ↓w_of, ↓kF_rt, ↓kF_nx, ↓kF_exc, ↓w_add, ↓w_sub, ↓w_pow10, ↓w_neg, ↓w_lt, ↓w_le, ↓w_gt, ↓w_ge, ↓w_ix0, ↓w_ix1, ↓w_ix2, ↓w_ix3, ↓w_eqI, ↓w_eqS, ↓w_eqT2, ↓w_abs, ↓w_lenT, ↓w_lenS, ↓w_max, ↓w_min, ↓w_intT, ↓w_intF, ↓w_isBool, ↓w_isTup, ↓w_tupT, ↓w_listT, ↓w_cutT, ↓brw_t, ↓brw_f, ↓brz_t, ↓brz_f, List.getElem?_cons_zero, List.getElem?_cons_succ, List.set_cons_zero, List.set_cons_succ, List.length_cons, List.length_nil, List.map_cons, List.map_nil, List.replicate, List.cons_append, List.nil_append, small, Nat.reduceAdd, Nat.reduceLeDiff, Nat.reduceEqDiff, Int.cast_ofNat_Int, Int.reduceBEq, BEq.rfl, ↓w_Yes, ↓w_bTru, ↓augF_ok, ↓z_Put, ↓putF_ok, ↓putG_ok, ↓w_isNn, ↓w_isNt, wipeF_nil, wipeF_cons, Int.reduceLE, Int.reduceLT, Int.reduceToNat, Int.reducePow, Int.reduceNeg, Int.reduceSub, Int.reduceAdd, Int.reduceMul, decide_true, decide_false, Bool.not_true, Bool.not_false, Bool.bne_false, Bool.bne_true, ↓w_aStar, ↓w_stT, ↓kSt_ok, ↓w_aDef, ↓kDf_ok, ↓w_Cnt, ↓w_Ext, ↓w_isBB, ↓w_isIB, w_mul (fa.b1.mk fb.b2 (lt _ (by omega)) (lt _ (by omega))), w_mul (fb.b1.mk fa.b2 (lt _ (by omega)) (lt _ (by omega))), w_mul (b2.mk fa.b2 (lt _ (by omega)) (lt _ (by omega))), w_mul ((b2.mul fa.b2).mk fb.b2 (lt _ (by omega)) (lt _ (by omega)))]
  refine low_w p ((b2.mul fa.b2).mul fb.b2) (by omega) ?_
  simp only [↓w_ok, ↓kB_ok, ↓kI_ok, ↓w_K, ↓w_V, ↓w_vR, ↓w_Op, ↓kO1_ok, ↓kO2_ok, ↓w_Un, ↓w_bOf, ↓w_isB, ↓kBl_ok, ↓kBl_exc, ↓kIf_ok, ↓kIf_exc, ↓w_okB, ↓w_okD, ↓w_bAnd, ↓w_bOr, ↓w_bNot, ↓kNot_ok, ↓kNot_exc, ↓w_eAnd, ↓w_eOr, ↓w_eNot, ↓kNotV_ok, ↓w_eIf, ↓w_aNil, ↓w_aCons, ↓kA1_ok, ↓kA2_ok, ↓kA1_exc, ↓kA2_exc, ↓w_Tup, ↓w_Lst, ↓w_mkT, ↓w_mkL, ↓w_Dct, ↓w_Call, ↓w_goS, ↓w_Bi, ↓w_Isi, ↓w_Cut, ↓kC1_ok, ↓kC2_ok, ↓kC3_ok, ↓w_oNone, ↓w_oSome, ↓w_vO, ↓w_Chain, ↓kCh1_ok, ↓kCh2_ok, ↓kCh3_ok, ↓w_chA, ↓w_App, ↓w_Ins, ↓w_insG, ↓z_nx, ↓z_End, ↓z_Seq, ↓kT_nx, ↓kT_rt, ↓kT_bk, ↓kT_ct, ↓kT_exc, ↓z_If, ↓kIfS_ok, ↓kIfS_exc, ↓z_Ret, ↓kRet_ok, ↓kRet_exc, ↓z_Expr, ↓kNx_ok, ↓kNx_exc, ↓z_Asg, ↓kAs_ok, ↓kAs_exc, ↓z_tgO, t_N, t_T, t_nil, t_cons, t_G, t_gnil, t_gcons, t_bind, ↓z_Par, ↓kPar_ok, ↓z_Raise, ↓z_Break, ↓z_Cont, ↓z_For, ↓kSrc_ok, ↓w_Range, ↓w_rgF, ↓w_SeqI, ↓w_sqT, ↓w_Zip, ↓w_zpT, ↓w_Comp, ↓kCo_ok, ↓w_of, ↓kF_rt, ↓kF_nx, ↓kF_exc, ↓w_add, ↓w_sub, ↓w_pow10, ↓w_neg, ↓w_lt, ↓w_le, ↓w_gt, ↓w_ge, ↓w_ix0, ↓w_ix1, ↓w_ix2, ↓w_ix3, ↓w_eqI, ↓w_eqS, ↓w_eqT2, ↓w_abs, ↓w_lenT, ↓w_lenS, ↓w_max, ↓w_min, ↓w_intT, ↓w_intF, ↓w_isBool, ↓w_isTup, ↓w_tupT, ↓w_listT, ↓w_cutT, ↓brw_t, ↓brw_f, ↓brz_t, ↓brz_f, List.getElem?_cons_zero, List.getElem?_cons_succ, List.set_cons_zero, List.set_cons_succ, List.length_cons, List.length_nil, List.map_cons, List.map_nil, List.replicate, List.cons_append, List.nil_append, small, Nat.reduceAdd, Nat.reduceLeDiff, Nat.reduceEqDiff, Int.cast_ofNat_Int, Int.reduceBEq, BEq.rfl, ↓w_Yes, ↓w_bTru, ↓augF_ok, ↓z_Put, ↓putF_ok, ↓putG_ok, ↓w_isNn, ↓w_isNt, wipeF_nil, wipeF_cons, Int.reduceLE, Int.reduceLT, Int.reduceToNat, Int.reducePow, Int.reduceNeg, Int.reduceSub, Int.reduceAdd, Int.reduceMul, decide_true, decide_false, Bool.not_true, Bool.not_false, Bool.bne_false, Bool.bne_true, ↓w_aStar, ↓w_stT, ↓kSt_ok, ↓w_aDef, ↓kDf_ok, ↓w_Cnt, ↓w_Ext, ↓w_isBB, ↓w_isIB]
  exact kk
theorem cutD_from1 (l : List D) : cutD l (some 1) none = l.drop 1 := by
  unfold cutD HT.sIx
  cases l with
  | nil => simp
  | cons a l => simp
theorem zip_get (l m : List D) (i : Nat) (h' : Hq) : (srcZ l m).get i h' = ((l.zip m).map fun z => D.tup [z.1, z.2])[i]? := by
  show (match l[i]?, m[i]? with | some x, some y => some (D.tup [x, y]) | _, _ => none) = _
  rw [List.getElem?_map, List.zip, List.getElem?_zipWith]
  cases l[i]? <;> cases m[i]? <;> rfl
theorem zipL_get {h0 : Hq} {a b : Nat} {l m : List D} (e1 : lstAt h0 a = some l) (e2 : lstAt h0 b = some m) (i : Nat) (h' : Hq) (g : Gr h0 h') : (srcZL a b (min l.length m.length)).get i h' = ((l.zip m).map fun z => D.tup [z.1, z.2])[i]? := by
  show (match lstAt h' a, lstAt h' b with | some l, some m => (srcZ l m).get i h' | _, _ => none) = _
  rw [g.lst e1, g.lst e2]
  exact zip_get l m i h'
theorem zipL_fin {h0 : Hq} {a b : Nat} {l m : List D} (e1 : lstAt h0 a = some l) (e2 : lstAt h0 b = some m) (h' : Hq) (g : Gr h0 h') (n : Nat) (hn : n = (l.zip m).length) : (srcZL a b (min l.length m.length)).fin n h' = true := by
  show (match lstAt h' a, lstAt h' b with | some l, some m => (srcZ l m).fin n h' | _, _ => false) = true
  rw [g.lst e1, g.lst e2]
  show (decide (l.length ≤ n) || decide (m.length ≤ n)) = true
  rw [List.length_zip] at hn
  have : l.length ≤ n ∨ m.length ≤ n := by omega
  simpa using this
theorem filter_yes {α : Type} (l : List α) : l.filter (fun _ => true) = l := List.filter_eq_self.mpr (fun _ _ => rfl)
def mids (P : List Qp) : List Qp := (P.zip (P.drop 1)).map fun z => mdl z.1 z.2
def mks (s : Spl) (P : List Qp) : List Qp := P.filter (inS s) ++ mids P
theorem marks_w {r : Nat} {rs : List Qp} (hB : B ≤ 2000) (fb : Fq B s.b) (fe : Fq B s.e) (hrs : ∀ q ∈ rs, Fq B q) (hl : rs.length ≤ 1000) (er : lstAt h r = some (rs.map dq))
    (k : ∀ (mid : List Qp) (n : Nat) (h1 : Hq), Gr h h1 → h.length ≤ n → lstAt h1 n = some ((mks s (ptl s mid)).map dq) → mid.length ≤ rs.length → PtI s rs mid → (∀ q ∈ ptl s mid, Fq B q) → Φ (.ok (.ref n) h1)) : W (S__law_marks [dsp s, .ref r] h) Φ := by
  unfold S__law_marks
  simp only [↓w_ok, ↓kB_ok, ↓kI_ok, ↓w_K, ↓w_V, ↓w_vR, ↓w_Op, ↓kO1_ok, ↓kO2_ok, ↓w_Un, ↓w_bOf, ↓w_isB, ↓kBl_ok, ↓kBl_exc, ↓kIf_ok, ↓kIf_exc, ↓w_okB, ↓w_okD, ↓w_bAnd, ↓w_bOr, ↓w_bNot, ↓kNot_ok, ↓kNot_exc, ↓w_eAnd, ↓w_eOr, ↓w_eNot, ↓kNotV_ok, ↓w_eIf, ↓w_aNil, ↓w_aCons, ↓kA1_ok, ↓kA2_ok, ↓kA1_exc, ↓kA2_exc, ↓w_Tup, ↓w_Lst, ↓w_mkT, ↓w_mkL, ↓w_Dct, ↓w_Call, ↓w_goS, ↓w_Bi, ↓w_Isi, ↓w_Cut, ↓kC1_ok, ↓kC2_ok, ↓kC3_ok, ↓w_oNone, ↓w_oSome, ↓w_vO, ↓w_Chain, ↓kCh1_ok, ↓kCh2_ok, ↓kCh3_ok, ↓w_chA, ↓w_App, ↓w_Ins, ↓w_insG, ↓z_nx, ↓z_End, ↓z_Seq, ↓kT_nx, ↓kT_rt, ↓kT_bk, ↓kT_ct, ↓kT_exc, ↓z_If, ↓kIfS_ok, ↓kIfS_exc, ↓z_Ret, ↓kRet_ok, ↓kRet_exc, ↓z_Expr, ↓kNx_ok, ↓kNx_exc, ↓z_Asg, ↓kAs_ok, ↓kAs_exc, ↓z_tgO, t_N, t_T, t_nil, t_cons, t_G, t_gnil, t_gcons, t_bind, ↓z_Par, ↓kPar_ok, ↓z_Raise, ↓z_Break, ↓z_Cont, ↓z_For, ↓kSrc_ok, ↓w_Range, ↓w_rgF, ↓w_SeqI, ↓w_sqT, ↓w_Zip, ↓w_zpT, ↓w_Comp, ↓kCo_ok, ↓w_of, ↓kF_rt, ↓kF_nx, ↓kF_exc, ↓w_add, ↓w_sub, ↓w_pow10, ↓w_neg, ↓w_lt, ↓w_le, ↓w_gt, ↓w_ge, ↓w_ix0, ↓w_ix1, ↓w_ix2, ↓w_ix3, ↓w_eqI, ↓w_eqS, ↓w_eqT2, ↓w_abs, ↓w_lenT, ↓w_lenS, ↓w_max, ↓w_min, ↓w_intT, ↓w_intF, ↓w_isBool, ↓w_isTup, ↓w_tupT, ↓w_listT, ↓w_cutT, ↓brw_t, ↓brw_f, ↓brz_t, ↓brz_f, List.getElem?_cons_zero, List.getElem?_cons_succ, List.set_cons_zero, List.set_cons_succ, List.length_cons, List.length_nil, List.map_cons, List.map_nil, List.replicate, List.cons_append, List.nil_append, small, Nat.reduceAdd, Nat.reduceLeDiff, Nat.reduceEqDiff, Int.cast_ofNat_Int, Int.reduceBEq, BEq.rfl, ↓w_Yes, ↓w_bTru, ↓augF_ok, ↓z_Put, ↓putF_ok, ↓putG_ok, ↓w_isNn, ↓w_isNt, wipeF_nil, wipeF_cons, Int.reduceLE, Int.reduceLT, Int.reduceToNat, Int.reducePow, Int.reduceNeg, Int.reduceSub, Int.reduceAdd, Int.reduceMul, decide_true, decide_false, Bool.not_true, Bool.not_false, Bool.bne_false, Bool.bne_true, ↓w_aStar, ↓w_stT, ↓kSt_ok, ↓w_aDef, ↓kDf_ok, ↓w_Cnt, ↓w_Ext, ↓w_isBB, ↓w_isIB]
  refine points_w (by omega) fb fe hrs hl er fun mid n h1 g1 n1 e1 ml pt => ?_
  have fP : ∀ q ∈ ptl s mid, Fq B q := fun q hq => by
    unfold ptl at hq
    rcases List.mem_append.mp hq with hq | hq
    · rcases List.mem_cons.mp hq with rfl | hq
      · exact fb
      · exact hrs q (pt.frm q hq).1
    · split at hq
      · cases hq
      · rw [List.mem_singleton.mp hq]; exact fe
  have lP : (ptl s mid).length ≤ 1002 := by
    unfold ptl
    split <;> simp <;> omega
  have hA : B < 400000 := by omega
  have k' := k mid
  clear k
  generalize ptl s mid = P at *
  simp only [↓w_ok, ↓kB_ok, ↓kI_ok, ↓w_K, ↓w_V, ↓w_vR, ↓w_Op, ↓kO1_ok, ↓kO2_ok, ↓w_Un, ↓w_bOf, ↓w_isB, ↓kBl_ok, ↓kBl_exc, ↓kIf_ok, ↓kIf_exc, ↓w_okB, ↓w_okD, ↓w_bAnd, ↓w_bOr, ↓w_bNot, ↓kNot_ok, ↓kNot_exc, ↓w_eAnd, ↓w_eOr, ↓w_eNot, ↓kNotV_ok, ↓w_eIf, ↓w_aNil, ↓w_aCons, ↓kA1_ok, ↓kA2_ok, ↓kA1_exc, ↓kA2_exc, ↓w_Tup, ↓w_Lst, ↓w_mkT, ↓w_mkL, ↓w_Dct, ↓w_Call, ↓w_goS, ↓w_Bi, ↓w_Isi, ↓w_Cut, ↓kC1_ok, ↓kC2_ok, ↓kC3_ok, ↓w_oNone, ↓w_oSome, ↓w_vO, ↓w_Chain, ↓kCh1_ok, ↓kCh2_ok, ↓kCh3_ok, ↓w_chA, ↓w_App, ↓w_Ins, ↓w_insG, ↓z_nx, ↓z_End, ↓z_Seq, ↓kT_nx, ↓kT_rt, ↓kT_bk, ↓kT_ct, ↓kT_exc, ↓z_If, ↓kIfS_ok, ↓kIfS_exc, ↓z_Ret, ↓kRet_ok, ↓kRet_exc, ↓z_Expr, ↓kNx_ok, ↓kNx_exc, ↓z_Asg, ↓kAs_ok, ↓kAs_exc, ↓z_tgO, t_N, t_T, t_nil, t_cons, t_G, t_gnil, t_gcons, t_bind, ↓z_Par, ↓kPar_ok, ↓z_Raise, ↓z_Break, ↓z_Cont, ↓z_For, ↓kSrc_ok, ↓w_Range, ↓w_rgF, ↓w_SeqI, ↓w_sqT, ↓w_Zip, ↓w_zpT, ↓w_Comp, ↓kCo_ok, ↓w_of, ↓kF_rt, ↓kF_nx, ↓kF_exc, ↓w_add, ↓w_sub, ↓w_pow10, ↓w_neg, ↓w_lt, ↓w_le, ↓w_gt, ↓w_ge, ↓w_ix0, ↓w_ix1, ↓w_ix2, ↓w_ix3, ↓w_eqI, ↓w_eqS, ↓w_eqT2, ↓w_abs, ↓w_lenT, ↓w_lenS, ↓w_max, ↓w_min, ↓w_intT, ↓w_intF, ↓w_isBool, ↓w_isTup, ↓w_tupT, ↓w_listT, ↓w_cutT, ↓brw_t, ↓brw_f, ↓brz_t, ↓brz_f, List.getElem?_cons_zero, List.getElem?_cons_succ, List.set_cons_zero, List.set_cons_succ, List.length_cons, List.length_nil, List.map_cons, List.map_nil, List.replicate, List.cons_append, List.nil_append, small, Nat.reduceAdd, Nat.reduceLeDiff, Nat.reduceEqDiff, Int.cast_ofNat_Int, Int.reduceBEq, BEq.rfl, ↓w_Yes, ↓w_bTru, ↓augF_ok, ↓z_Put, ↓putF_ok, ↓putG_ok, ↓w_isNn, ↓w_isNt, wipeF_nil, wipeF_cons, Int.reduceLE, Int.reduceLT, Int.reduceToNat, Int.reducePow, Int.reduceNeg, Int.reduceSub, Int.reduceAdd, Int.reduceMul, decide_true, decide_false, Bool.not_true, Bool.not_false, Bool.bne_false, Bool.bne_true, ↓w_aStar, ↓w_stT, ↓kSt_ok, ↓w_aDef, ↓kDf_ok, ↓w_Cnt, ↓w_Ext, ↓w_isBB, ↓w_isIB, w_sqL e1]
  refine comp_typed P dq (by simp [srcC]) (by omega) (fun i h' g => srcC_get e1 i h' g) (fun h' g => by have := srcC_fin e1 h' g; simpa using this) (inS s) dq (fun q hq => ⟨_, rfl, fun h' Θ g hΘ => ?_, fun _ h' Ψ g hΨ => ?_⟩) fun T => ?_
  · simp only [↓w_ok, ↓kB_ok, ↓kI_ok, ↓w_K, ↓w_V, ↓w_vR, ↓w_Op, ↓kO1_ok, ↓kO2_ok, ↓w_Un, ↓w_bOf, ↓w_isB, ↓kBl_ok, ↓kBl_exc, ↓kIf_ok, ↓kIf_exc, ↓w_okB, ↓w_okD, ↓w_bAnd, ↓w_bOr, ↓w_bNot, ↓kNot_ok, ↓kNot_exc, ↓w_eAnd, ↓w_eOr, ↓w_eNot, ↓kNotV_ok, ↓w_eIf, ↓w_aNil, ↓w_aCons, ↓kA1_ok, ↓kA2_ok, ↓kA1_exc, ↓kA2_exc, ↓w_Tup, ↓w_Lst, ↓w_mkT, ↓w_mkL, ↓w_Dct, ↓w_Call, ↓w_goS, ↓w_Bi, ↓w_Isi, ↓w_Cut, ↓kC1_ok, ↓kC2_ok, ↓kC3_ok, ↓w_oNone, ↓w_oSome, ↓w_vO, ↓w_Chain, ↓kCh1_ok, ↓kCh2_ok, ↓kCh3_ok, ↓w_chA, ↓w_App, ↓w_Ins, ↓w_insG, ↓z_nx, ↓z_End, ↓z_Seq, ↓kT_nx, ↓kT_rt, ↓kT_bk, ↓kT_ct, ↓kT_exc, ↓z_If, ↓kIfS_ok, ↓kIfS_exc, ↓z_Ret, ↓kRet_ok, ↓kRet_exc, ↓z_Expr, ↓kNx_ok, ↓kNx_exc, ↓z_Asg, ↓kAs_ok, ↓kAs_exc, ↓z_tgO, t_N, t_T, t_nil, t_cons, t_G, t_gnil, t_gcons, t_bind, ↓z_Par, ↓kPar_ok, ↓z_Raise, ↓z_Break, ↓z_Cont, ↓z_For, ↓kSrc_ok, ↓w_Range, ↓w_rgF, ↓w_SeqI, ↓w_sqT, ↓w_Zip, ↓w_zpT, ↓w_Comp, ↓kCo_ok, ↓w_of, ↓kF_rt, ↓kF_nx, ↓kF_exc, ↓w_add, ↓w_sub, ↓w_pow10, ↓w_neg, ↓w_lt, ↓w_le, ↓w_gt, ↓w_ge, ↓w_ix0, ↓w_ix1, ↓w_ix2, ↓w_ix3, ↓w_eqI, ↓w_eqS, ↓w_eqT2, ↓w_abs, ↓w_lenT, ↓w_lenS, ↓w_max, ↓w_min, ↓w_intT, ↓w_intF, ↓w_isBool, ↓w_isTup, ↓w_tupT, ↓w_listT, ↓w_cutT, ↓brw_t, ↓brw_f, ↓brz_t, ↓brz_f, List.getElem?_cons_zero, List.getElem?_cons_succ, List.set_cons_zero, List.set_cons_succ, List.length_cons, List.length_nil, List.map_cons, List.map_nil, List.replicate, List.cons_append, List.nil_append, small, Nat.reduceAdd, Nat.reduceLeDiff, Nat.reduceEqDiff, Int.cast_ofNat_Int, Int.reduceBEq, BEq.rfl, ↓w_Yes, ↓w_bTru, ↓augF_ok, ↓z_Put, ↓putF_ok, ↓putG_ok, ↓w_isNn, ↓w_isNt, wipeF_nil, wipeF_cons, Int.reduceLE, Int.reduceLT, Int.reduceToNat, Int.reducePow, Int.reduceNeg, Int.reduceSub, Int.reduceAdd, Int.reduceMul, decide_true, decide_false, Bool.not_true, Bool.not_false, Bool.bne_false, Bool.bne_true, ↓w_aStar, ↓w_stT, ↓kSt_ok, ↓w_aDef, ↓kDf_ok, ↓w_Cnt, ↓w_Ext, ↓w_isBB, ↓w_isIB]
    refine in_w (A := B) fb.bq fe.bq (fP q hq).bq hA ?_
    simp only [↓w_ok, ↓kB_ok, ↓kI_ok, ↓w_K, ↓w_V, ↓w_vR, ↓w_Op, ↓kO1_ok, ↓kO2_ok, ↓w_Un, ↓w_bOf, ↓w_isB, ↓kBl_ok, ↓kBl_exc, ↓kIf_ok, ↓kIf_exc, ↓w_okB, ↓w_okD, ↓w_bAnd, ↓w_bOr, ↓w_bNot, ↓kNot_ok, ↓kNot_exc, ↓w_eAnd, ↓w_eOr, ↓w_eNot, ↓kNotV_ok, ↓w_eIf, ↓w_aNil, ↓w_aCons, ↓kA1_ok, ↓kA2_ok, ↓kA1_exc, ↓kA2_exc, ↓w_Tup, ↓w_Lst, ↓w_mkT, ↓w_mkL, ↓w_Dct, ↓w_Call, ↓w_goS, ↓w_Bi, ↓w_Isi, ↓w_Cut, ↓kC1_ok, ↓kC2_ok, ↓kC3_ok, ↓w_oNone, ↓w_oSome, ↓w_vO, ↓w_Chain, ↓kCh1_ok, ↓kCh2_ok, ↓kCh3_ok, ↓w_chA, ↓w_App, ↓w_Ins, ↓w_insG, ↓z_nx, ↓z_End, ↓z_Seq, ↓kT_nx, ↓kT_rt, ↓kT_bk, ↓kT_ct, ↓kT_exc, ↓z_If, ↓kIfS_ok, ↓kIfS_exc, ↓z_Ret, ↓kRet_ok, ↓kRet_exc, ↓z_Expr, ↓kNx_ok, ↓kNx_exc, ↓z_Asg, ↓kAs_ok, ↓kAs_exc, ↓z_tgO, t_N, t_T, t_nil, t_cons, t_G, t_gnil, t_gcons, t_bind, ↓z_Par, ↓kPar_ok, ↓z_Raise, ↓z_Break, ↓z_Cont, ↓z_For, ↓kSrc_ok, ↓w_Range, ↓w_rgF, ↓w_SeqI, ↓w_sqT, ↓w_Zip, ↓w_zpT, ↓w_Comp, ↓kCo_ok, ↓w_of, ↓kF_rt, ↓kF_nx, ↓kF_exc, ↓w_add, ↓w_sub, ↓w_pow10, ↓w_neg, ↓w_lt, ↓w_le, ↓w_gt, ↓w_ge, ↓w_ix0, ↓w_ix1, ↓w_ix2, ↓w_ix3, ↓w_eqI, ↓w_eqS, ↓w_eqT2, ↓w_abs, ↓w_lenT, ↓w_lenS, ↓w_max, ↓w_min, ↓w_intT, ↓w_intF, ↓w_isBool, ↓w_isTup, ↓w_tupT, ↓w_listT, ↓w_cutT, ↓brw_t, ↓brw_f, ↓brz_t, ↓brz_f, List.getElem?_cons_zero, List.getElem?_cons_succ, List.set_cons_zero, List.set_cons_succ, List.length_cons, List.length_nil, List.map_cons, List.map_nil, List.replicate, List.cons_append, List.nil_append, small, Nat.reduceAdd, Nat.reduceLeDiff, Nat.reduceEqDiff, Int.cast_ofNat_Int, Int.reduceBEq, BEq.rfl, ↓w_Yes, ↓w_bTru, ↓augF_ok, ↓z_Put, ↓putF_ok, ↓putG_ok, ↓w_isNn, ↓w_isNt, wipeF_nil, wipeF_cons, Int.reduceLE, Int.reduceLT, Int.reduceToNat, Int.reducePow, Int.reduceNeg, Int.reduceSub, Int.reduceAdd, Int.reduceMul, decide_true, decide_false, Bool.not_true, Bool.not_false, Bool.bne_false, Bool.bne_true, ↓w_aStar, ↓w_stT, ↓kSt_ok, ↓w_aDef, ↓kDf_ok, ↓w_Cnt, ↓w_Ext, ↓w_isBB, ↓w_isIB]
    exact hΘ h' (Gr.refl _)
  · simp only [↓w_ok, ↓kB_ok, ↓kI_ok, ↓w_K, ↓w_V, ↓w_vR, ↓w_Op, ↓kO1_ok, ↓kO2_ok, ↓w_Un, ↓w_bOf, ↓w_isB, ↓kBl_ok, ↓kBl_exc, ↓kIf_ok, ↓kIf_exc, ↓w_okB, ↓w_okD, ↓w_bAnd, ↓w_bOr, ↓w_bNot, ↓kNot_ok, ↓kNot_exc, ↓w_eAnd, ↓w_eOr, ↓w_eNot, ↓kNotV_ok, ↓w_eIf, ↓w_aNil, ↓w_aCons, ↓kA1_ok, ↓kA2_ok, ↓kA1_exc, ↓kA2_exc, ↓w_Tup, ↓w_Lst, ↓w_mkT, ↓w_mkL, ↓w_Dct, ↓w_Call, ↓w_goS, ↓w_Bi, ↓w_Isi, ↓w_Cut, ↓kC1_ok, ↓kC2_ok, ↓kC3_ok, ↓w_oNone, ↓w_oSome, ↓w_vO, ↓w_Chain, ↓kCh1_ok, ↓kCh2_ok, ↓kCh3_ok, ↓w_chA, ↓w_App, ↓w_Ins, ↓w_insG, ↓z_nx, ↓z_End, ↓z_Seq, ↓kT_nx, ↓kT_rt, ↓kT_bk, ↓kT_ct, ↓kT_exc, ↓z_If, ↓kIfS_ok, ↓kIfS_exc, ↓z_Ret, ↓kRet_ok, ↓kRet_exc, ↓z_Expr, ↓kNx_ok, ↓kNx_exc, ↓z_Asg, ↓kAs_ok, ↓kAs_exc, ↓z_tgO, t_N, t_T, t_nil, t_cons, t_G, t_gnil, t_gcons, t_bind, ↓z_Par, ↓kPar_ok, ↓z_Raise, ↓z_Break, ↓z_Cont, ↓z_For, ↓kSrc_ok, ↓w_Range, ↓w_rgF, ↓w_SeqI, ↓w_sqT, ↓w_Zip, ↓w_zpT, ↓w_Comp, ↓kCo_ok, ↓w_of, ↓kF_rt, ↓kF_nx, ↓kF_exc, ↓w_add, ↓w_sub, ↓w_pow10, ↓w_neg, ↓w_lt, ↓w_le, ↓w_gt, ↓w_ge, ↓w_ix0, ↓w_ix1, ↓w_ix2, ↓w_ix3, ↓w_eqI, ↓w_eqS, ↓w_eqT2, ↓w_abs, ↓w_lenT, ↓w_lenS, ↓w_max, ↓w_min, ↓w_intT, ↓w_intF, ↓w_isBool, ↓w_isTup, ↓w_tupT, ↓w_listT, ↓w_cutT, ↓brw_t, ↓brw_f, ↓brz_t, ↓brz_f, List.getElem?_cons_zero, List.getElem?_cons_succ, List.set_cons_zero, List.set_cons_succ, List.length_cons, List.length_nil, List.map_cons, List.map_nil, List.replicate, List.cons_append, List.nil_append, small, Nat.reduceAdd, Nat.reduceLeDiff, Nat.reduceEqDiff, Int.cast_ofNat_Int, Int.reduceBEq, BEq.rfl, ↓w_Yes, ↓w_bTru, ↓augF_ok, ↓z_Put, ↓putF_ok, ↓putG_ok, ↓w_isNn, ↓w_isNt, wipeF_nil, wipeF_cons, Int.reduceLE, Int.reduceLT, Int.reduceToNat, Int.reducePow, Int.reduceNeg, Int.reduceSub, Int.reduceAdd, Int.reduceMul, decide_true, decide_false, Bool.not_true, Bool.not_false, Bool.bne_false, Bool.bne_true, ↓w_aStar, ↓w_stT, ↓kSt_ok, ↓w_aDef, ↓kDf_ok, ↓w_Cnt, ↓w_Ext, ↓w_isBB, ↓w_isIB]
    exact hΨ h' (Gr.refl _)
  · have g2 : Gr h1 (h1 ++ [.lst ((P.filter (inS s)).map dq)] ++ T) := ⟨[.lst ((P.filter (inS s)).map dq)] ++ T, by simp⟩
    have e2 : lstAt (h1 ++ [.lst ((P.filter (inS s)).map dq)] ++ T) h1.length = some ((P.filter (inS s)).map dq) := lst_mid _ _ _
    have e3 := g2.lst e1
    generalize h1 ++ [.lst ((P.filter (inS s)).map dq)] ++ T = h3 at *
    simp only [↓w_ok, ↓kB_ok, ↓kI_ok, ↓w_K, ↓w_V, ↓w_vR, ↓w_Op, ↓kO1_ok, ↓kO2_ok, ↓w_Un, ↓w_bOf, ↓w_isB, ↓kBl_ok, ↓kBl_exc, ↓kIf_ok, ↓kIf_exc, ↓w_okB, ↓w_okD, ↓w_bAnd, ↓w_bOr, ↓w_bNot, ↓kNot_ok, ↓kNot_exc, ↓w_eAnd, ↓w_eOr, ↓w_eNot, ↓kNotV_ok, ↓w_eIf, ↓w_aNil, ↓w_aCons, ↓kA1_ok, ↓kA2_ok, ↓kA1_exc, ↓kA2_exc, ↓w_Tup, ↓w_Lst, ↓w_mkT, ↓w_mkL, ↓w_Dct, ↓w_Call, ↓w_goS, ↓w_Bi, ↓w_Isi, ↓w_Cut, ↓kC1_ok, ↓kC2_ok, ↓kC3_ok, ↓w_oNone, ↓w_oSome, ↓w_vO, ↓w_Chain, ↓kCh1_ok, ↓kCh2_ok, ↓kCh3_ok, ↓w_chA, ↓w_App, ↓w_Ins, ↓w_insG, ↓z_nx, ↓z_End, ↓z_Seq, ↓kT_nx, ↓kT_rt, ↓kT_bk, ↓kT_ct, ↓kT_exc, ↓z_If, ↓kIfS_ok, ↓kIfS_exc, ↓z_Ret, ↓kRet_ok, ↓kRet_exc, ↓z_Expr, ↓kNx_ok, ↓kNx_exc, ↓z_Asg, ↓kAs_ok, ↓kAs_exc, ↓z_tgO, t_N, t_T, t_nil, t_cons, t_G, t_gnil, t_gcons, t_bind, ↓z_Par, ↓kPar_ok, ↓z_Raise, ↓z_Break, ↓z_Cont, ↓z_For, ↓kSrc_ok, ↓w_Range, ↓w_rgF, ↓w_SeqI, ↓w_sqT, ↓w_Zip, ↓w_zpT, ↓w_Comp, ↓kCo_ok, ↓w_of, ↓kF_rt, ↓kF_nx, ↓kF_exc, ↓w_add, ↓w_sub, ↓w_pow10, ↓w_neg, ↓w_lt, ↓w_le, ↓w_gt, ↓w_ge, ↓w_ix0, ↓w_ix1, ↓w_ix2, ↓w_ix3, ↓w_eqI, ↓w_eqS, ↓w_eqT2, ↓w_abs, ↓w_lenT, ↓w_lenS, ↓w_max, ↓w_min, ↓w_intT, ↓w_intF, ↓w_isBool, ↓w_isTup, ↓w_tupT, ↓w_listT, ↓w_cutT, ↓brw_t, ↓brw_f, ↓brz_t, ↓brz_f, List.getElem?_cons_zero, List.getElem?_cons_succ, List.set_cons_zero, List.set_cons_succ, List.length_cons, List.length_nil, List.map_cons, List.map_nil, List.replicate, List.cons_append, List.nil_append, small, Nat.reduceAdd, Nat.reduceLeDiff, Nat.reduceEqDiff, Int.cast_ofNat_Int, Int.reduceBEq, BEq.rfl, ↓w_Yes, ↓w_bTru, ↓augF_ok, ↓z_Put, ↓putF_ok, ↓putG_ok, ↓w_isNn, ↓w_isNt, wipeF_nil, wipeF_cons, Int.reduceLE, Int.reduceLT, Int.reduceToNat, Int.reducePow, Int.reduceNeg, Int.reduceSub, Int.reduceAdd, Int.reduceMul, decide_true, decide_false, Bool.not_true, Bool.not_false, Bool.bne_false, Bool.bne_true, ↓w_aStar, ↓w_stT, ↓kSt_ok, ↓w_aDef, ↓kDf_ok, ↓w_Cnt, ↓w_Ext, ↓w_isBB, ↓w_isIB, w_cutL e3, cutD_from1]
    have e4 := lst_new h3 ((P.map dq).drop 1)
    have e5 : lstAt (h3 ++ [.lst ((P.map dq).drop 1)]) n = some (P.map dq) := lstAt_app e3 _
    have e6 : lstAt (h3 ++ [.lst ((P.map dq).drop 1)]) h1.length = some ((P.filter (inS s)).map dq) := lstAt_app e2 _
    have g4 : Gr h3 (h3 ++ [.lst ((P.map dq).drop 1)]) := Gr.app _ _
    generalize h3.length = n4 at *
    generalize h3 ++ [.lst ((P.map dq).drop 1)] = h4 at *
    simp only [↓w_ok, ↓kB_ok, ↓kI_ok, ↓w_K, ↓w_V, ↓w_vR, ↓w_Op, ↓kO1_ok, ↓kO2_ok, ↓w_Un, ↓w_bOf, ↓w_isB, ↓kBl_ok, ↓kBl_exc, ↓kIf_ok, ↓kIf_exc, ↓w_okB, ↓w_okD, ↓w_bAnd, ↓w_bOr, ↓w_bNot, ↓kNot_ok, ↓kNot_exc, ↓w_eAnd, ↓w_eOr, ↓w_eNot, ↓kNotV_ok, ↓w_eIf, ↓w_aNil, ↓w_aCons, ↓kA1_ok, ↓kA2_ok, ↓kA1_exc, ↓kA2_exc, ↓w_Tup, ↓w_Lst, ↓w_mkT, ↓w_mkL, ↓w_Dct, ↓w_Call, ↓w_goS, ↓w_Bi, ↓w_Isi, ↓w_Cut, ↓kC1_ok, ↓kC2_ok, ↓kC3_ok, ↓w_oNone, ↓w_oSome, ↓w_vO, ↓w_Chain, ↓kCh1_ok, ↓kCh2_ok, ↓kCh3_ok, ↓w_chA, ↓w_App, ↓w_Ins, ↓w_insG, ↓z_nx, ↓z_End, ↓z_Seq, ↓kT_nx, ↓kT_rt, ↓kT_bk, ↓kT_ct, ↓kT_exc, ↓z_If, ↓kIfS_ok, ↓kIfS_exc, ↓z_Ret, ↓kRet_ok, ↓kRet_exc, ↓z_Expr, ↓kNx_ok, ↓kNx_exc, ↓z_Asg, ↓kAs_ok, ↓kAs_exc, ↓z_tgO, t_N, t_T, t_nil, t_cons, t_G, t_gnil, t_gcons, t_bind, ↓z_Par, ↓kPar_ok, ↓z_Raise, ↓z_Break, ↓z_Cont, ↓z_For, ↓kSrc_ok, ↓w_Range, ↓w_rgF, ↓w_SeqI, ↓w_sqT, ↓w_Zip, ↓w_zpT, ↓w_Comp, ↓kCo_ok, ↓w_of, ↓kF_rt, ↓kF_nx, ↓kF_exc, ↓w_add, ↓w_sub, ↓w_pow10, ↓w_neg, ↓w_lt, ↓w_le, ↓w_gt, ↓w_ge, ↓w_ix0, ↓w_ix1, ↓w_ix2, ↓w_ix3, ↓w_eqI, ↓w_eqS, ↓w_eqT2, ↓w_abs, ↓w_lenT, ↓w_lenS, ↓w_max, ↓w_min, ↓w_intT, ↓w_intF, ↓w_isBool, ↓w_isTup, ↓w_tupT, ↓w_listT, ↓w_cutT, ↓brw_t, ↓brw_f, ↓brz_t, ↓brz_f, List.getElem?_cons_zero, List.getElem?_cons_succ, List.set_cons_zero, List.set_cons_succ, List.length_cons, List.length_nil, List.map_cons, List.map_nil, List.replicate, List.cons_append, List.nil_append, small, Nat.reduceAdd, Nat.reduceLeDiff, Nat.reduceEqDiff, Int.cast_ofNat_Int, Int.reduceBEq, BEq.rfl, ↓w_Yes, ↓w_bTru, ↓augF_ok, ↓z_Put, ↓putF_ok, ↓putG_ok, ↓w_isNn, ↓w_isNt, wipeF_nil, wipeF_cons, Int.reduceLE, Int.reduceLT, Int.reduceToNat, Int.reducePow, Int.reduceNeg, Int.reduceSub, Int.reduceAdd, Int.reduceMul, decide_true, decide_false, Bool.not_true, Bool.not_false, Bool.bne_false, Bool.bne_true, ↓w_aStar, ↓w_stT, ↓kSt_ok, ↓w_aDef, ↓kDf_ok, ↓w_Cnt, ↓w_Ext, ↓w_isBB, ↓w_isIB, w_zpL e5 e4]
    refine comp_typed (P.zip (P.drop 1)) (fun z => .tup [dq z.1, dq z.2]) (by simp [srcZL]) (by simp; omega) (fun i h' g => ?_) (fun h' g => zipL_fin e5 e4 h' g _ (by simp)) (fun _ => true) (fun z => dq (mdl z.1 z.2)) (fun z hz => ⟨_, rfl, fun h' Θ g hΘ => ?_, fun _ h' Ψ g hΨ => ?_⟩) fun U => ?_
    · rw [zipL_get e5 e4 i h' g, map_drop, List.zip_map, List.map_map]
      rfl
    · simp only [↓w_ok, ↓kB_ok, ↓kI_ok, ↓w_K, ↓w_V, ↓w_vR, ↓w_Op, ↓kO1_ok, ↓kO2_ok, ↓w_Un, ↓w_bOf, ↓w_isB, ↓kBl_ok, ↓kBl_exc, ↓kIf_ok, ↓kIf_exc, ↓w_okB, ↓w_okD, ↓w_bAnd, ↓w_bOr, ↓w_bNot, ↓kNot_ok, ↓kNot_exc, ↓w_eAnd, ↓w_eOr, ↓w_eNot, ↓kNotV_ok, ↓w_eIf, ↓w_aNil, ↓w_aCons, ↓kA1_ok, ↓kA2_ok, ↓kA1_exc, ↓kA2_exc, ↓w_Tup, ↓w_Lst, ↓w_mkT, ↓w_mkL, ↓w_Dct, ↓w_Call, ↓w_goS, ↓w_Bi, ↓w_Isi, ↓w_Cut, ↓kC1_ok, ↓kC2_ok, ↓kC3_ok, ↓w_oNone, ↓w_oSome, ↓w_vO, ↓w_Chain, ↓kCh1_ok, ↓kCh2_ok, ↓kCh3_ok, ↓w_chA, ↓w_App, ↓w_Ins, ↓w_insG, ↓z_nx, ↓z_End, ↓z_Seq, ↓kT_nx, ↓kT_rt, ↓kT_bk, ↓kT_ct, ↓kT_exc, ↓z_If, ↓kIfS_ok, ↓kIfS_exc, ↓z_Ret, ↓kRet_ok, ↓kRet_exc, ↓z_Expr, ↓kNx_ok, ↓kNx_exc, ↓z_Asg, ↓kAs_ok, ↓kAs_exc, ↓z_tgO, t_N, t_T, t_nil, t_cons, t_G, t_gnil, t_gcons, t_bind, ↓z_Par, ↓kPar_ok, ↓z_Raise, ↓z_Break, ↓z_Cont, ↓z_For, ↓kSrc_ok, ↓w_Range, ↓w_rgF, ↓w_SeqI, ↓w_sqT, ↓w_Zip, ↓w_zpT, ↓w_Comp, ↓kCo_ok, ↓w_of, ↓kF_rt, ↓kF_nx, ↓kF_exc, ↓w_add, ↓w_sub, ↓w_pow10, ↓w_neg, ↓w_lt, ↓w_le, ↓w_gt, ↓w_ge, ↓w_ix0, ↓w_ix1, ↓w_ix2, ↓w_ix3, ↓w_eqI, ↓w_eqS, ↓w_eqT2, ↓w_abs, ↓w_lenT, ↓w_lenS, ↓w_max, ↓w_min, ↓w_intT, ↓w_intF, ↓w_isBool, ↓w_isTup, ↓w_tupT, ↓w_listT, ↓w_cutT, ↓brw_t, ↓brw_f, ↓brz_t, ↓brz_f, List.getElem?_cons_zero, List.getElem?_cons_succ, List.set_cons_zero, List.set_cons_succ, List.length_cons, List.length_nil, List.map_cons, List.map_nil, List.replicate, List.cons_append, List.nil_append, small, Nat.reduceAdd, Nat.reduceLeDiff, Nat.reduceEqDiff, Int.cast_ofNat_Int, Int.reduceBEq, BEq.rfl, ↓w_Yes, ↓w_bTru, ↓augF_ok, ↓z_Put, ↓putF_ok, ↓putG_ok, ↓w_isNn, ↓w_isNt, wipeF_nil, wipeF_cons, Int.reduceLE, Int.reduceLT, Int.reduceToNat, Int.reducePow, Int.reduceNeg, Int.reduceSub, Int.reduceAdd, Int.reduceMul, decide_true, decide_false, Bool.not_true, Bool.not_false, Bool.bne_false, Bool.bne_true, ↓w_aStar, ↓w_stT, ↓kSt_ok, ↓w_aDef, ↓kDf_ok, ↓w_Cnt, ↓w_Ext, ↓w_isBB, ↓w_isIB]
      exact hΘ h' (Gr.refl _)
    · simp only [↓w_ok, ↓kB_ok, ↓kI_ok, ↓w_K, ↓w_V, ↓w_vR, ↓w_Op, ↓kO1_ok, ↓kO2_ok, ↓w_Un, ↓w_bOf, ↓w_isB, ↓kBl_ok, ↓kBl_exc, ↓kIf_ok, ↓kIf_exc, ↓w_okB, ↓w_okD, ↓w_bAnd, ↓w_bOr, ↓w_bNot, ↓kNot_ok, ↓kNot_exc, ↓w_eAnd, ↓w_eOr, ↓w_eNot, ↓kNotV_ok, ↓w_eIf, ↓w_aNil, ↓w_aCons, ↓kA1_ok, ↓kA2_ok, ↓kA1_exc, ↓kA2_exc, ↓w_Tup, ↓w_Lst, ↓w_mkT, ↓w_mkL, ↓w_Dct, ↓w_Call, ↓w_goS, ↓w_Bi, ↓w_Isi, ↓w_Cut, ↓kC1_ok, ↓kC2_ok, ↓kC3_ok, ↓w_oNone, ↓w_oSome, ↓w_vO, ↓w_Chain, ↓kCh1_ok, ↓kCh2_ok, ↓kCh3_ok, ↓w_chA, ↓w_App, ↓w_Ins, ↓w_insG, ↓z_nx, ↓z_End, ↓z_Seq, ↓kT_nx, ↓kT_rt, ↓kT_bk, ↓kT_ct, ↓kT_exc, ↓z_If, ↓kIfS_ok, ↓kIfS_exc, ↓z_Ret, ↓kRet_ok, ↓kRet_exc, ↓z_Expr, ↓kNx_ok, ↓kNx_exc, ↓z_Asg, ↓kAs_ok, ↓kAs_exc, ↓z_tgO, t_N, t_T, t_nil, t_cons, t_G, t_gnil, t_gcons, t_bind, ↓z_Par, ↓kPar_ok, ↓z_Raise, ↓z_Break, ↓z_Cont, ↓z_For, ↓kSrc_ok, ↓w_Range, ↓w_rgF, ↓w_SeqI, ↓w_sqT, ↓w_Zip, ↓w_zpT, ↓w_Comp, ↓kCo_ok, ↓w_of, ↓kF_rt, ↓kF_nx, ↓kF_exc, ↓w_add, ↓w_sub, ↓w_pow10, ↓w_neg, ↓w_lt, ↓w_le, ↓w_gt, ↓w_ge, ↓w_ix0, ↓w_ix1, ↓w_ix2, ↓w_ix3, ↓w_eqI, ↓w_eqS, ↓w_eqT2, ↓w_abs, ↓w_lenT, ↓w_lenS, ↓w_max, ↓w_min, ↓w_intT, ↓w_intF, ↓w_isBool, ↓w_isTup, ↓w_tupT, ↓w_listT, ↓w_cutT, ↓brw_t, ↓brw_f, ↓brz_t, ↓brz_f, List.getElem?_cons_zero, List.getElem?_cons_succ, List.set_cons_zero, List.set_cons_succ, List.length_cons, List.length_nil, List.map_cons, List.map_nil, List.replicate, List.cons_append, List.nil_append, small, Nat.reduceAdd, Nat.reduceLeDiff, Nat.reduceEqDiff, Int.cast_ofNat_Int, Int.reduceBEq, BEq.rfl, ↓w_Yes, ↓w_bTru, ↓augF_ok, ↓z_Put, ↓putF_ok, ↓putG_ok, ↓w_isNn, ↓w_isNt, wipeF_nil, wipeF_cons, Int.reduceLE, Int.reduceLT, Int.reduceToNat, Int.reducePow, Int.reduceNeg, Int.reduceSub, Int.reduceAdd, Int.reduceMul, decide_true, decide_false, Bool.not_true, Bool.not_false, Bool.bne_false, Bool.bne_true, ↓w_aStar, ↓w_stT, ↓kSt_ok, ↓w_aDef, ↓kDf_ok, ↓w_Cnt, ↓w_Ext, ↓w_isBB, ↓w_isIB]
      obtain ⟨a, b⟩ := z
      have hz' := List.of_mem_zip hz
      refine middle_w (fP a hz'.1) (fP b (List.mem_of_mem_drop hz'.2)) hB ?_
      simp only [↓w_ok, ↓kB_ok, ↓kI_ok, ↓w_K, ↓w_V, ↓w_vR, ↓w_Op, ↓kO1_ok, ↓kO2_ok, ↓w_Un, ↓w_bOf, ↓w_isB, ↓kBl_ok, ↓kBl_exc, ↓kIf_ok, ↓kIf_exc, ↓w_okB, ↓w_okD, ↓w_bAnd, ↓w_bOr, ↓w_bNot, ↓kNot_ok, ↓kNot_exc, ↓w_eAnd, ↓w_eOr, ↓w_eNot, ↓kNotV_ok, ↓w_eIf, ↓w_aNil, ↓w_aCons, ↓kA1_ok, ↓kA2_ok, ↓kA1_exc, ↓kA2_exc, ↓w_Tup, ↓w_Lst, ↓w_mkT, ↓w_mkL, ↓w_Dct, ↓w_Call, ↓w_goS, ↓w_Bi, ↓w_Isi, ↓w_Cut, ↓kC1_ok, ↓kC2_ok, ↓kC3_ok, ↓w_oNone, ↓w_oSome, ↓w_vO, ↓w_Chain, ↓kCh1_ok, ↓kCh2_ok, ↓kCh3_ok, ↓w_chA, ↓w_App, ↓w_Ins, ↓w_insG, ↓z_nx, ↓z_End, ↓z_Seq, ↓kT_nx, ↓kT_rt, ↓kT_bk, ↓kT_ct, ↓kT_exc, ↓z_If, ↓kIfS_ok, ↓kIfS_exc, ↓z_Ret, ↓kRet_ok, ↓kRet_exc, ↓z_Expr, ↓kNx_ok, ↓kNx_exc, ↓z_Asg, ↓kAs_ok, ↓kAs_exc, ↓z_tgO, t_N, t_T, t_nil, t_cons, t_G, t_gnil, t_gcons, t_bind, ↓z_Par, ↓kPar_ok, ↓z_Raise, ↓z_Break, ↓z_Cont, ↓z_For, ↓kSrc_ok, ↓w_Range, ↓w_rgF, ↓w_SeqI, ↓w_sqT, ↓w_Zip, ↓w_zpT, ↓w_Comp, ↓kCo_ok, ↓w_of, ↓kF_rt, ↓kF_nx, ↓kF_exc, ↓w_add, ↓w_sub, ↓w_pow10, ↓w_neg, ↓w_lt, ↓w_le, ↓w_gt, ↓w_ge, ↓w_ix0, ↓w_ix1, ↓w_ix2, ↓w_ix3, ↓w_eqI, ↓w_eqS, ↓w_eqT2, ↓w_abs, ↓w_lenT, ↓w_lenS, ↓w_max, ↓w_min, ↓w_intT, ↓w_intF, ↓w_isBool, ↓w_isTup, ↓w_tupT, ↓w_listT, ↓w_cutT, ↓brw_t, ↓brw_f, ↓brz_t, ↓brz_f, List.getElem?_cons_zero, List.getElem?_cons_succ, List.set_cons_zero, List.set_cons_succ, List.length_cons, List.length_nil, List.map_cons, List.map_nil, List.replicate, List.cons_append, List.nil_append, small, Nat.reduceAdd, Nat.reduceLeDiff, Nat.reduceEqDiff, Int.cast_ofNat_Int, Int.reduceBEq, BEq.rfl, ↓w_Yes, ↓w_bTru, ↓augF_ok, ↓z_Put, ↓putF_ok, ↓putG_ok, ↓w_isNn, ↓w_isNt, wipeF_nil, wipeF_cons, Int.reduceLE, Int.reduceLT, Int.reduceToNat, Int.reducePow, Int.reduceNeg, Int.reduceSub, Int.reduceAdd, Int.reduceMul, decide_true, decide_false, Bool.not_true, Bool.not_false, Bool.bne_false, Bool.bne_true, ↓w_aStar, ↓w_stT, ↓kSt_ok, ↓w_aDef, ↓kDf_ok, ↓w_Cnt, ↓w_Ext, ↓w_isBB, ↓w_isIB]
      exact hΨ h' (Gr.refl _)
    · rw [filter_yes] 
      have e7 := lst_mid h4 ((P.zip (P.drop 1)).map fun z => dq (mdl z.1 z.2)) U
      have g5 : Gr h4 (h4 ++ [.lst ((P.zip (P.drop 1)).map fun z => dq (mdl z.1 z.2))] ++ U) := ⟨[.lst ((P.zip (P.drop 1)).map fun z => dq (mdl z.1 z.2))] ++ U, by simp⟩
      have e8 := g5.lst e6
      generalize h4 ++ [.lst ((P.zip (P.drop 1)).map fun z => dq (mdl z.1 z.2))] ++ U = h5 at *
      have sm : small (((P.filter (inS s)).map dq).length + ((P.zip (P.drop 1)).map fun z => dq (mdl z.1 z.2)).length) = true := by
        have := List.length_filter_le (inS s) P
        refine decide_eq_true ?_
        simp
        omega
      simp only [↓w_ok, ↓kB_ok, ↓kI_ok, ↓w_K, ↓w_V, ↓w_vR, ↓w_Op, ↓kO1_ok, ↓kO2_ok, ↓w_Un, ↓w_bOf, ↓w_isB, ↓kBl_ok, ↓kBl_exc, ↓kIf_ok, ↓kIf_exc, ↓w_okB, ↓w_okD, ↓w_bAnd, ↓w_bOr, ↓w_bNot, ↓kNot_ok, ↓kNot_exc, ↓w_eAnd, ↓w_eOr, ↓w_eNot, ↓kNotV_ok, ↓w_eIf, ↓w_aNil, ↓w_aCons, ↓kA1_ok, ↓kA2_ok, ↓kA1_exc, ↓kA2_exc, ↓w_Tup, ↓w_Lst, ↓w_mkT, ↓w_mkL, ↓w_Dct, ↓w_Call, ↓w_goS, ↓w_Bi, ↓w_Isi, ↓w_Cut, ↓kC1_ok, ↓kC2_ok, ↓kC3_ok, ↓w_oNone, ↓w_oSome, ↓w_vO, ↓w_Chain, ↓kCh1_ok, ↓kCh2_ok, ↓kCh3_ok, ↓w_chA, ↓w_App, ↓w_Ins, ↓w_insG, ↓z_nx, ↓z_End, ↓z_Seq, ↓kT_nx, ↓kT_rt, ↓kT_bk, ↓kT_ct, ↓kT_exc, ↓z_If, ↓kIfS_ok, ↓kIfS_exc, ↓z_Ret, ↓kRet_ok, ↓kRet_exc, ↓z_Expr, ↓kNx_ok, ↓kNx_exc, ↓z_Asg, ↓kAs_ok, ↓kAs_exc, ↓z_tgO, t_N, t_T, t_nil, t_cons, t_G, t_gnil, t_gcons, t_bind, ↓z_Par, ↓kPar_ok, ↓z_Raise, ↓z_Break, ↓z_Cont, ↓z_For, ↓kSrc_ok, ↓w_Range, ↓w_rgF, ↓w_SeqI, ↓w_sqT, ↓w_Zip, ↓w_zpT, ↓w_Comp, ↓kCo_ok, ↓w_of, ↓kF_rt, ↓kF_nx, ↓kF_exc, ↓w_add, ↓w_sub, ↓w_pow10, ↓w_neg, ↓w_lt, ↓w_le, ↓w_gt, ↓w_ge, ↓w_ix0, ↓w_ix1, ↓w_ix2, ↓w_ix3, ↓w_eqI, ↓w_eqS, ↓w_eqT2, ↓w_abs, ↓w_lenT, ↓w_lenS, ↓w_max, ↓w_min, ↓w_intT, ↓w_intF, ↓w_isBool, ↓w_isTup, ↓w_tupT, ↓w_listT, ↓w_cutT, ↓brw_t, ↓brw_f, ↓brz_t, ↓brz_f, List.getElem?_cons_zero, List.getElem?_cons_succ, List.set_cons_zero, List.set_cons_succ, List.length_cons, List.length_nil, List.map_cons, List.map_nil, List.replicate, List.cons_append, List.nil_append, small, Nat.reduceAdd, Nat.reduceLeDiff, Nat.reduceEqDiff, Int.cast_ofNat_Int, Int.reduceBEq, BEq.rfl, ↓w_Yes, ↓w_bTru, ↓augF_ok, ↓z_Put, ↓putF_ok, ↓putG_ok, ↓w_isNn, ↓w_isNt, wipeF_nil, wipeF_cons, Int.reduceLE, Int.reduceLT, Int.reduceToNat, Int.reducePow, Int.reduceNeg, Int.reduceSub, Int.reduceAdd, Int.reduceMul, decide_true, decide_false, Bool.not_true, Bool.not_false, Bool.bne_false, Bool.bne_true, ↓w_aStar, ↓w_stT, ↓kSt_ok, ↓w_aDef, ↓kDf_ok, ↓w_Cnt, ↓w_Ext, ↓w_isBB, ↓w_isIB, w_addL e8 e7 sm]
      have gg := (((g1.trans g2).trans g4).trans g5)
      refine k' _ _ (gg.trans (Gr.app _ _)) ?_ ?_ ml pt fP
      · exact gg.len
      · rw [lst_new]
        simp [mks, mids, Function.comp_def]
end
/-! ### both agree -/
theorem sgn_mul_pos {a b : Int} (ha : 0 < a) : (0 < a * b ↔ 0 < b) ∧ (a * b = 0 ↔ b = 0) ∧ (a * b < 0 ↔ b < 0) := by
  rcases Int.lt_trichotomy b 0 with h | h | h
  · have := Int.mul_neg_of_pos_of_neg ha h
    omega
  · subst h; simp
  · have := Int.mul_pos ha h
    omega
/-- the sign in the middle -/
theorem lv_mdl {x y : Int} {a b : Qp} (pa : 1 ≤ a.2) (pb : 1 ≤ b.2) : ∃ g : Int, 0 < g ∧ g * lv x y (mdl a b) = b.2 * lv x y a + a.2 * lv x y b := by
  have p := Int.mul_pos (show 0 < 2 * a.2 by omega) (show 0 < b.2 by omega)
  refine ⟨gI (a.1 * b.2 + b.1 * a.2) (2 * a.2 * b.2), gI_pos (by omega), ?_⟩
  have e1 := lowQ_x (x := a.1 * b.2 + b.1 * a.2) (y := 2 * a.2 * b.2)
  have e2 := lowQ_y (x := a.1 * b.2 + b.1 * a.2) (y := 2 * a.2 * b.2)
  unfold mdl lv
  generalize lowQ (a.1 * b.2 + b.1 * a.2) (2 * a.2 * b.2) = q at *
  generalize gI (a.1 * b.2 + b.1 * a.2) (2 * a.2 * b.2) = g at *
  grind
theorem hold_pos {x y : Int} {ab : Bool} {t : Qp} (h : 0 < lv x y t) : hold x y ab t = true := by simp [hold, h]
theorem hold_neg {x y : Int} {ab : Bool} {t : Qp} (h : lv x y t < 0) : hold x y ab t = false := by
  have h1 : ¬ 0 < lv x y t := by omega
  have h2 : ¬ lv x y t = 0 := by omega
  simp [hold, h1, h2]
theorem hold_zero {x y : Int} {ab : Bool} {t : Qp} (h : lv x y t = 0) : hold x y ab t = !ab := by simp [hold, h]
theorem hold_turn {x y : Int} {ab : Bool} {t : Qp} : hold (-x) (-y) (!ab) t = !hold x y ab t := by
  have e : lv (-x) (-y) t = - lv x y t := by unfold lv; grind
  rcases Int.lt_trichotomy (lv x y t) 0 with h | h | h
  · rw [hold_neg h, hold_pos (by omega)]; rfl
  · rw [hold_zero h, hold_zero (by omega)]
  · rw [hold_pos h, hold_neg (by omega)]; rfl
/-- where the worth goes through nought there is a root -/
theorem through_all {B : Nat} {x y : Int} {ab : Bool} {s : Spl} {rs mid : List Qp} (ok : SpOk B s) (hr : ∀ q ∈ rs, 1 ≤ q.2 ∧ lv x y q = 0 ∧ y ≠ 0) (one : rs.length ≤ 1) (ex : y ≠ 0 → rs ≠ []) (pt : PtI s rs mid) (ml : mid.length ≤ rs.length) :
    (mks s (ptl s mid)).all (hold x y ab) = thr x y ab s := by
  have pb := ok.fb.pos
  have pe := ok.fe.pos
  have inb : s.wb = true → inS s s.b = true := fun hw => by
    have n1 : ¬ qlt s.b s.b := qlt_irr
    have n2 : ¬ qlt s.e s.b := by
      rcases ok.live with h | h
      · exact qlt_asy h
      · rw [h.1]; exact qlt_irr
    have : s.we = true ∨ s.b ≠ s.e := by
      rcases ok.live with h | h
      · exact .inr fun z => by rw [z] at h; exact qlt_irr h
      · exact .inl h.2.2
    simp only [inS, n1, n2, or_self, if_false, hw, Bool.true_or, Bool.true_and]
    rcases this with h | h
    · rw [h]; rfl
    · simp [h]
  by_cases hbe : s.e = s.b
  · -- one moment
    have hm : mid = [] := by
      cases mid with
      | nil => rfl
      | cons q t =>
        have := pt.frm q (by simp)
        rw [hbe] at this
        exact absurd this.2.1 (qlt_asy this.2.2)
    obtain ⟨hw, hv⟩ : s.wb = true ∧ s.we = true := by
      rcases ok.live with h | h
      · rw [hbe] at h; exact absurd h qlt_irr
      · exact h.2
    subst hm
    have e1 : mks s (ptl s []) = [s.b] := by simp [mks, ptl, hbe, mids, inb hw]
    rw [e1, List.all_cons, List.all_nil, Bool.and_true]
    unfold thr
    rw [hbe, hw, hv]
    rcases Int.lt_trichotomy (lv x y s.b) 0 with h | h | h
    · rw [hold_neg h]; simp [h]
    · rw [hold_zero h]; cases ab <;> simp [h]
    · have h1 : ¬ lv x y s.b < 0 := by omega
      have h2 : ¬ lv x y s.b = 0 := by omega
      rw [hold_pos h]; cases ab <;> simp [h, h1, h2]
  · have hlt : qlt s.b s.e := by
      rcases ok.live with h | h
      · exact h
      · exact absurd h.1.symm hbe
    have hlt' : s.b.1 * s.e.2 < s.e.1 * s.b.2 := hlt
    have inE : inS s s.e = s.we := by
      have n1 : ¬ qlt s.e s.b := qlt_asy hlt
      have n2 : ¬ qlt s.e s.e := qlt_irr
      simp [inS, n1, n2, hbe]
    have inB : inS s s.b = s.wb := by
      have n1 : ¬ qlt s.b s.b := qlt_irr
      have n2 : ¬ qlt s.e s.b := qlt_asy hlt
      have n3 : s.b ≠ s.e := fun z => hbe z.symm
      simp [inS, n1, n2, n3]
    -- how the worth goes from begin to end
    have dif : s.b.2 * lv x y s.e - s.e.2 * lv x y s.b = y * (s.e.1 * s.b.2 - s.b.1 * s.e.2) := by unfold lv; grind
    cases mid with
    | nil =>
      have e1 : mks s (ptl s []) = (if s.wb = true then [s.b] else []) ++ (if s.we = true then [s.e] else []) ++ [mdl s.b s.e] := by
        simp only [mks, ptl, hbe, mids, if_false]
        cases hw : s.wb <;> cases hv : s.we <;> rw [hw] at inB <;> rw [hv] at inE <;> simp [inB, inE]
      obtain ⟨g, g0, eg⟩ := lv_mdl (x := x) (y := y) (a := s.b) (b := s.e) pb pe
      have sg := sgn_mul_pos (b := lv x y (mdl s.b s.e)) g0
      rw [eg] at sg
      -- no root strictly between
      have noroot : y ≠ 0 → ∀ q ∈ rs, ¬ (qlt s.b q ∧ qlt q s.e) := fun hy q hq h => by
        have := pt.all q hq h.1 h.2
        cases this
      have same : ¬ (lv x y s.b < 0 ∧ 0 < lv x y s.e) ∧ ¬ (0 < lv x y s.b ∧ lv x y s.e < 0) := by
        have key : ∀ q : Qp, 1 ≤ q.2 → lv x y q = 0 → y ≠ 0 → ((lv x y s.b < 0 ∧ 0 < lv x y s.e) ∨ (0 < lv x y s.b ∧ lv x y s.e < 0)) → qlt s.b q ∧ qlt q s.e := by
          intro q hq h0 hy hs
          have d1 : s.b.2 * lv x y q - q.2 * lv x y s.b = y * (q.1 * s.b.2 - s.b.1 * q.2) := by unfold lv; grind
          have d2 : q.2 * lv x y s.e - s.e.2 * lv x y q = y * (s.e.1 * q.2 - q.1 * s.e.2) := by unfold lv; grind
          rw [h0, Int.mul_zero, Int.zero_sub] at d1
          rw [h0, Int.mul_zero, Int.sub_zero] at d2
          have gp : 0 < s.e.1 * s.b.2 - s.b.1 * s.e.2 := by omega
          rcases hs with ⟨s1, s2⟩ | ⟨s1, s2⟩
          · have y1 : 0 < y * (s.e.1 * s.b.2 - s.b.1 * s.e.2) := by
              rw [← dif]
              have := Int.mul_pos (show 0 < s.b.2 by omega) s2
              have := Int.mul_neg_of_pos_of_neg (show 0 < s.e.2 by omega) s1
              omega
            have yp : 0 < y := Int.pos_of_mul_pos_left y1 gp
            have q1 := Int.mul_neg_of_pos_of_neg (show 0 < q.2 by omega) s1
            have q2 := Int.mul_pos (show 0 < q.2 by omega) s2
            have r1 : 0 < y * (q.1 * s.b.2 - s.b.1 * q.2) := by omega
            have r2 : 0 < y * (s.e.1 * q.2 - q.1 * s.e.2) := by omega
            have t1 := Int.pos_of_mul_pos_right r1 yp
            have t2 := Int.pos_of_mul_pos_right r2 yp
            exact ⟨show s.b.1 * q.2 < q.1 * s.b.2 by omega, show q.1 * s.e.2 < s.e.1 * q.2 by omega⟩
          · have y1 : 0 < (-y) * (s.e.1 * s.b.2 - s.b.1 * s.e.2) := by
              rw [Int.neg_mul, ← dif]
              have := Int.mul_pos (show 0 < s.e.2 by omega) s1
              have := Int.mul_neg_of_pos_of_neg (show 0 < s.b.2 by omega) s2
              omega
            have yp : 0 < -y := Int.pos_of_mul_pos_left y1 gp
            have q1 := Int.mul_pos (show 0 < q.2 by omega) s1
            have q2 := Int.mul_neg_of_pos_of_neg (show 0 < q.2 by omega) s2
            have r1 : 0 < (-y) * (q.1 * s.b.2 - s.b.1 * q.2) := by rw [Int.neg_mul]; omega
            have r2 : 0 < (-y) * (s.e.1 * q.2 - q.1 * s.e.2) := by rw [Int.neg_mul]; omega
            have t1 := Int.pos_of_mul_pos_right r1 yp
            have t2 := Int.pos_of_mul_pos_right r2 yp
            exact ⟨show s.b.1 * q.2 < q.1 * s.b.2 by omega, show q.1 * s.e.2 < s.e.1 * q.2 by omega⟩
        have yn : ((lv x y s.b < 0 ∧ 0 < lv x y s.e) ∨ (0 < lv x y s.b ∧ lv x y s.e < 0)) → False := by
          intro hs
          have hy : y ≠ 0 := by
            rintro rfl
            rw [Int.zero_mul] at dif
            rcases hs with ⟨s1, s2⟩ | ⟨s1, s2⟩
            · have := Int.mul_pos (show 0 < s.b.2 by omega) s2
              have := Int.mul_neg_of_pos_of_neg (show 0 < s.e.2 by omega) s1
              omega
            · have := Int.mul_pos (show 0 < s.e.2 by omega) s1
              have := Int.mul_neg_of_pos_of_neg (show 0 < s.b.2 by omega) s2
              omega
          cases hrs : rs with
          | nil => exact ex hy hrs
          | cons q t =>
            have hq : q ∈ rs := by rw [hrs]; simp
            exact noroot hy q hq (key q (hr q hq).1 (hr q hq).2.1 hy hs)
        exact ⟨fun h => yn (.inl h), fun h => yn (.inr h)⟩
      rw [e1, List.all_append, List.all_append]
      have sb := sgn_mul_pos (b := lv x y s.b) (show 0 < s.e.2 by omega)
      have se := sgn_mul_pos (b := lv x y s.e) (show 0 < s.b.2 by omega)
      generalize s.e.2 * lv x y s.b = u at *
      generalize s.b.2 * lv x y s.e = v at *
      have hall : ∀ (c : Bool) (q : Qp), (if c = true then [q] else []).all (hold x y ab) = (!c || hold x y ab q) := fun c q => by cases c <;> simp
      rw [hall, hall]
      simp only [List.all_cons, List.all_nil, Bool.and_true]
      unfold thr
      rcases Int.lt_trichotomy (lv x y s.b) 0 with h1 | h1 | h1
      · rw [if_pos (.inl h1), hold_neg (show lv x y (mdl s.b s.e) < 0 by omega), Bool.and_false]
      · rcases Int.lt_trichotomy (lv x y s.e) 0 with h2 | h2 | h2
        · rw [if_pos (.inr h2), hold_neg (show lv x y (mdl s.b s.e) < 0 by omega), Bool.and_false]
        · have h3 : lv x y (mdl s.b s.e) = 0 := by omega
          rw [hold_zero h3, hold_zero h1, hold_zero h2]
          cases ab <;> simp [h1, h2]
        · rw [hold_pos (show 0 < lv x y (mdl s.b s.e) by omega), hold_zero h1, hold_pos h2]
          have n1 : ¬ lv x y s.e < 0 := by omega
          have n2 : ¬ lv x y s.e = 0 := by omega
          cases ab <;> cases s.wb <;> cases s.we <;> simp [h1, h2, n1, n2]
      · have n1 : ¬ lv x y s.b < 0 := by omega
        have n2 : ¬ lv x y s.b = 0 := by omega
        rcases Int.lt_trichotomy (lv x y s.e) 0 with h2 | h2 | h2
        · exact absurd ⟨h1, h2⟩ same.2
        · rw [hold_pos (show 0 < lv x y (mdl s.b s.e) by omega), hold_pos h1, hold_zero h2]
          cases ab <;> cases s.we <;> simp [h2, n1, n2]
        · have n3 : ¬ lv x y s.e < 0 := by omega
          rw [hold_pos (show 0 < lv x y (mdl s.b s.e) by omega), hold_pos h1, hold_pos h2]
          cases ab <;> simp [h2, n1, n2, n3]
    | cons q t =>
      have ht : t = [] := by
        cases t with
        | nil => rfl
        | cons a b => simp at ml; omega
      subst ht
      obtain ⟨hq, q1, q2⟩ := pt.frm q (by simp)
      obtain ⟨pq, q0, hy⟩ := hr q hq
      have q1' : s.b.1 * q.2 < q.1 * s.b.2 := q1
      have q2' : q.1 * s.e.2 < s.e.1 * q.2 := q2
      have d1 : s.b.2 * lv x y q - q.2 * lv x y s.b = y * (q.1 * s.b.2 - s.b.1 * q.2) := by unfold lv; grind
      have d2 : q.2 * lv x y s.e - s.e.2 * lv x y q = y * (s.e.1 * q.2 - q.1 * s.e.2) := by unfold lv; grind
      rw [q0, Int.mul_zero, Int.zero_sub] at d1
      rw [q0, Int.mul_zero, Int.sub_zero] at d2
      obtain ⟨g, g0, eg⟩ := lv_mdl (x := x) (y := y) (a := s.b) (b := q) pb pq
      obtain ⟨k, k0, ek⟩ := lv_mdl (x := x) (y := y) (a := q) (b := s.e) pq pe
      rw [q0, Int.mul_zero, Int.add_zero] at eg
      rw [q0, Int.mul_zero, Int.zero_add] at ek
      have sg := sgn_mul_pos (b := lv x y (mdl s.b q)) g0
      have sk := sgn_mul_pos (b := lv x y (mdl q s.e)) k0
      rw [eg] at sg
      rw [ek] at sk
      have sb := sgn_mul_pos (b := lv x y s.b) (show 0 < q.2 by omega)
      have se := sgn_mul_pos (b := lv x y s.e) (show 0 < q.2 by omega)
      have m1 : mdl s.b q ∈ mks s (ptl s [q]) := by simp [mks, ptl, hbe, mids]
      have m2 : mdl q s.e ∈ mks s (ptl s [q]) := by simp [mks, ptl, hbe, mids]
      have neg : lv x y s.b < 0 ∨ lv x y s.e < 0 := by
        rcases Int.lt_or_gt_of_ne hy with h | h
        · have := Int.mul_neg_of_neg_of_pos h (show 0 < s.e.1 * q.2 - q.1 * s.e.2 by omega)
          right; omega
        · have := Int.mul_pos h (show 0 < q.1 * s.b.2 - s.b.1 * q.2 by omega)
          left; omega
      have et : thr x y ab s = false := by unfold thr; rw [if_pos neg]
      rw [et, List.all_eq_false]
      rcases neg with h | h
      · exact ⟨_, m1, by rw [hold_neg (by omega)]; simp⟩
      · exact ⟨_, m2, by rw [hold_neg (by omega)]; simp⟩
end MI
end

section
set_option Elab.async false
set_option linter.all false
set_option autoImplicit false
set_option maxRecDepth 100000
set_option exponentiation.threshold 20000
set_option maxHeartbeats 4000000
/-! what each law's top uses: the cells, repr, lists of truths -/
open PySem L2
namespace MI
section
variable {h : Hq} {Φ : Rs D → Prop} {p : Nat} {n : Int}
theorem pot_w {ns : List Int} {k : Nat} (hk : k < 100) (kk : ∀ l, PotAt (h ++ [.lst l]) h.length 0 → Φ (.ok (.ref h.length) (h ++ [.lst l]))) : W (S__law_pot [.scr ns, .int k] h) Φ := by
  obtain ⟨l, e, P⟩ := pot_ok (h := h) (ns := ns) hk
  exact W.of e (kk l P)
theorem Sh.intB {B : Nat} {i : Int} (b : Bd B i) (hB : B ≤ 1900) : Sh (.int i) 0 (B + 1) := by
  have h1 : i.natAbs.log2 ≤ B := by
    unfold Bd at b
    by_cases h0 : i.natAbs = 0
    · rw [h0]; exact Nat.zero_le _
    · have := (Nat.log2_lt h0).mpr b; omega
  have h2 : ¬ i = 0 → i.natAbs.log2 < B := fun z => by
    unfold Bd at b
    exact (Nat.log2_lt (by omega)).mpr b
  refine ⟨decide_eq_true (by omega), rfl, Nat.le_refl _, decide_eq_true ?_, ?_⟩
  · exact Nat.le_trans (PyProof.Rows.int_text_len_1921 (by omega)) (by decide)
  · show (if i == 0 then 0 else i.natAbs.log2 + 1) ≤ B + 1
    split
    · omega
    · omega
theorem toPyR_dq {m : Nat} (q : Qp) : toPyR h (m + 2) (dq q) = some (pq q) := by
  simp [toPyR, opts, pq]
theorem Sh.q {B : Nat} {q : Qp} (f : Bq B q) (hB : B ≤ 1900) : Sh (pq q) 1 (2 * (B + 2)) := by
  have := Sh.tup (k := 0) (w := B + 1) (ps := [.int q.1, .int q.2]) (fun x hx => by
    simp at hx
    rcases hx with rfl | rfl
    · exact Sh.intB f.b1 hB
    · exact Sh.intB f.b2 hB)
  exact this
theorem repr_q {B : Nat} {q : Qp} (f : Bq B q) (hB : B ≤ 1900) : W (gRepr [dq q] h) Φ = Φ (.ok (.str (pq q).shown) h) := by
  have e : toPyR h 60 (dq q) = some (pq q) := by
    have e0 := toPyR_dq (h := h) (m := 58) q
    have e1 : 58 + 2 = 60 := rfl
    rw [e1] at e0
    exact e0
  have s1 : shows (pq q) = true := (Sh.q f hB).fits (show 1 ≤ 60 by decide) (show 2 * (B + 2) ≤ 8000 by omega)
  exact congrArg Φ (repr_ok e s1)
/-- a range -/
def rgS (m : Nat) : Src := ⟨m, fun i _ => if i < m then some (.int (0 + (i : Int))) else none, fun i _ => decide (m ≤ i)⟩
theorem iR_ok {m : Nat} (hm : m < 1000000) : iR 0 (m : Int) h = .ok (rgS m) h := by
  have c : (m : Int) < 2 ^ 61 ∧ -(2 ^ 61) < (m : Int) ∧ (0 : Int) < 2 ^ 61 ∧ -(2 ^ 61) < (0 : Int) := by omega
  unfold iR
  rw [if_pos c]
  unfold rgS
  have e : ((m : Int) - 0).toNat = m := by omega
  rw [e]
theorem range_t {b : Ss} {fr : Fr} {Ψ : SR → Prop} {m j : Nat} {I : Nat → Fr → Hq → Prop} (h0 : I 0 fr h) (step : ∀ i fr h, i < m → I i fr h → Z (b (fr.set j (some (.int (i : Int)))) h) (kLoop (I (i + 1)) Ψ)) (done : ∀ fr h, I m fr h → Ψ (.nx fr h)) :
    Z (turns (rgS m).get (rgS m).fin (tgN j) b (rgS m).n 0 fr h) Ψ := by
  have e0 : (rgS m).n = m := rfl
  rw [e0]
  refine turns_w (I := I) (n := m) (fun i fr h hi hI => ⟨.int (i : Int), _, ?_, rfl, step i fr h hi hI⟩) (fun fr h hI => ⟨by simp [rgS], done fr h hI⟩) m 0 fr h (by omega) h0
  simp [rgS, hi]
theorem range_w {b : Ss} {fr : Fr} {Ψ : SR → Prop} {m j : Nat} {I : Nat → Fr → Hq → Prop} (hm : m < 1000000) (h0 : I 0 fr h) (step : ∀ i fr h, i < m → I i fr h → Z (b (fr.set j (some (.int (i : Int)))) h) (kLoop (I (i + 1)) Ψ)) (done : ∀ fr h, I m fr h → Ψ (.nx fr h)) :
    W (iR 0 (m : Int) h) (kSrc (tgN j) b fr Ψ) := by
  have e := iR_ok (h := h) hm
  rw [e, w_ok, kSrc_ok]
  have e0 : (rgS m).n = m := rfl
  rw [e0]
  refine turns_w (I := I) (n := m) (fun i fr h hi hI => ⟨.int (i : Int), _, ?_, rfl, step i fr h hi hI⟩) (fun fr h hI => ⟨by simp [rgS], done fr h hI⟩) m 0 fr h (by omega) h0
  simp [rgS, hi]
/-- how many cells are gone through: max(1, min(most, len(script))) -/
theorem cells_n (len : Nat) (most : Int) (h0 : 1 ≤ most) (h1 : most ≤ 100) : ∃ m : Nat, (if (if (len : Int) < most then (len : Int) else most) > 1 then (if (len : Int) < most then (len : Int) else most) else 1) = (m : Int) ∧ m ≤ most.toNat := by
  refine ⟨((if (if (len : Int) < most then (len : Int) else most) > 1 then (if (len : Int) < most then (len : Int) else most) else 1)).toNat, ?_, ?_⟩ <;> split <;> split <;> omega
theorem SpOk.mono {A B : Nat} {s : Spl} (k : SpOk A s) (h : A ≤ B) : SpOk B s := ⟨k.fb.mono h, k.fe.mono h, k.mb, k.me, k.live⟩
/-! lists of truths -/
theorem toPy_bl {h : Hq} {m : Nat} : ∀ bs : List Bool, opts (toPy h (m + 1)) (bs.map D.bl) = some (bs.map PyData.bool)
  | [] => rfl
  | b :: bs => by
    have ih := toPy_bl (h := h) (m := m) bs
    simp only [List.map_cons, opts, toPy, ih]
theorem bls_lay : ∀ bs : List Bool, PyData.canLayAll0 (bs.map PyData.bool) = true
  | [] => by simp [PyData.canLayAll0]
  | b :: bs => by simp [PyData.canLayAll0, bls_lay bs, PyData.canLay0]
theorem bls_depth : ∀ bs : List Bool, PyData.depthAll (bs.map PyData.bool) ≤ 0
  | [] => by simp [PyData.depthAll]
  | b :: bs => by
    have := bls_depth bs
    simp only [List.map_cons, PyData.depthAll]
    have h : (PyData.bool b).depth = 0 := by simp [PyData.depth]
    omega
theorem bls_shaped (bs : List Bool) : SeqAt.shaped (.list (bs.map PyData.bool)) = true := by
  have h1 := bls_depth bs
  have h2 : PyData.depth (.list (bs.map PyData.bool)) ≤ 64 := by
    simp only [PyData.depth]
    omega
  show (PyData.canLay0 (.list (bs.map PyData.bool)) && decide (PyData.depth (.list (bs.map PyData.bool)) ≤ 64)) = true
  rw [Bool.and_eq_true]
  exact ⟨by simp only [PyData.canLay0]; exact bls_lay bs, decide_eq_true h2⟩
theorem any_bl (bs : List Bool) (b : Bool) : (bs.map PyData.bool).any (fun z => PyData.eqv z (.bool b)) = bs.any (· == b) := by
  induction bs with
  | nil => rfl
  | cons a bs ih =>
    rw [List.map_cons, List.any_cons, ih, List.any_cons]
    congr 1
theorem in_bl {m : Nat} {bs : List Bool} {b neg : Bool} (e : lstAt h m = some (bs.map D.bl)) : W (dIn neg (.bl b) (.ref m) h) Φ = Φ (.ok (.bl (bs.any (· == b) != neg)) h) := by
  unfold W dIn
  have e1 : toPy h 60 (.bl b) = some (.bool b) := rfl
  have e2 : toPy h 60 (.ref m) = some (.list (bs.map PyData.bool)) := by
    show (match lstAt h m with | some l => (opts (toPy h 59) l).map PyData.list | none => none) = _
    rw [e]
    simp only [toPy_bl (m := 58) bs, Option.map_some]
  simp only [e1, e2]
  rw [if_pos ⟨by cases b <;> rfl, bls_shaped bs⟩, any_bl]
theorem eqv_bls : ∀ as bs : List Bool, PyData.eqvAll (as.map PyData.bool) (bs.map PyData.bool) = (as == bs)
  | [], [] => by simp [PyData.eqvAll]
  | [], _ :: _ => by simp [PyData.eqvAll]
  | _ :: _, [] => by simp [PyData.eqvAll]
  | a :: as, b :: bs => by
    simp only [List.map_cons, PyData.eqvAll, eqv_bls as bs]
    have : PyData.eqv (.bool a) (.bool b) = (a == b) := by cases a <;> cases b <;> rfl
    rw [this]; rfl
/-- lists of truths, == -/
theorem eq_bls {m k : Nat} {as bs : List Bool} {neg : Bool} (e1 : lstAt h m = some (as.map D.bl)) (e2 : lstAt h k = some (bs.map D.bl)) : W (dEqs neg (.ref m) (.ref k) h) Φ = Φ (.ok (.bl ((as == bs) != neg)) h) := by
  have p1 : toPy h 60 (.ref m) = some (.list (as.map PyData.bool)) := by
    show (match lstAt h m with | some l => (opts (toPy h 59) l).map PyData.list | none => none) = _
    rw [e1]
    simp only [toPy_bl (m := 58) as, Option.map_some]
  have p2 : toPy h 60 (.ref k) = some (.list (bs.map PyData.bool)) := by
    show (match lstAt h k with | some l => (opts (toPy h 59) l).map PyData.list | none => none) = _
    rw [e2]
    simp only [toPy_bl (m := 58) bs, Option.map_some]
  unfold W dEqs
  have e3 : eqQ neg (.ref m) (.ref k) h = none := by unfold eqQ; rfl
  rw [e3]
  unfold dEqP
  simp only [p1, p2]
  rw [if_pos ⟨bls_shaped as, bls_shaped bs⟩]
  have : PyData.eqv (.list (as.map PyData.bool)) (.list (bs.map PyData.bool)) = (as == bs) := by simp only [PyData.eqv]; exact eqv_bls as bs
  rw [this]
theorem eqv_nil (qs : List Qp) : PyData.eqvAll (qs.map pq) [] = qs.isEmpty := by cases qs <;> simp [PyData.eqvAll]
/-- a list of fractions, == the empty one -/
theorem eq_qnil {m k : Nat} {qs : List Qp} {neg : Bool} (e1 : lstAt h m = some (qs.map dq)) (e2 : lstAt h k = some []) : W (dEqs neg (.ref m) (.ref k) h) Φ = Φ (.ok (.bl (qs.isEmpty != neg)) h) := by
  have p1 : toPy h 60 (.ref m) = some (.list (qs.map pq)) := by
    show (match lstAt h m with | some l => (opts (toPy h 59) l).map PyData.list | none => none) = _
    rw [e1]
    simp only [opts_dq (n := 57) qs, Option.map_some]
  have p2 : toPy h 60 (.ref k) = some (.list []) := by
    show (match lstAt h k with | some l => (opts (toPy h 59) l).map PyData.list | none => none) = _
    rw [e2]
    rfl
  unfold W dEqs
  have e3 : eqQ neg (.ref m) (.ref k) h = none := by unfold eqQ; rfl
  rw [e3]
  unfold dEqP
  simp only [p1, p2]
  rw [if_pos ⟨pqs_shaped qs, pqs_shaped []⟩]
  have : PyData.eqv (.list (qs.map pq)) (.list []) = qs.isEmpty := by simp only [PyData.eqv]; exact eqv_nil qs
  rw [this]
end
end MI
end

section
set_option Elab.async false
set_option linter.all false
set_option autoImplicit false
set_option maxRecDepth 100000
set_option exponentiation.threshold 20000
set_option maxHeartbeats 4000000
open PySem L2
namespace MI
section
variable {h : Hq} {Φ : Rs D → Prop} {p : Nat} {n : Int}
theorem line_w (P : PotAt h p n) (hn : n < 999800) (k : ∀ l h1, LnOk 150 l → PotAt h1 p (n + 30) → Step p h h1 → Φ (.ok (dln l) h1)) : W (S__law_line [.ref p] h) Φ := by
  have g1 : ∀ x : Int, gI x 1 = 1 := fun x => by unfold gI; simp
  have one : Bd 150 1 := Bd.one.mono (by decide)
  unfold S__law_line
  simp only [↓w_ok, ↓kB_ok, ↓kI_ok, ↓w_K, ↓w_V, ↓w_vR, ↓w_Op, ↓kO1_ok, ↓kO2_ok, ↓w_Un, ↓w_bOf, ↓w_isB, ↓kBl_ok, ↓kBl_exc, ↓kIf_ok, ↓kIf_exc, ↓w_okB, ↓w_okD, ↓w_bAnd, ↓w_bOr, ↓w_bNot, ↓kNot_ok, ↓kNot_exc, ↓w_eAnd, ↓w_eOr, ↓w_eNot, ↓kNotV_ok, ↓w_eIf, ↓w_aNil, ↓w_aCons, ↓kA1_ok, ↓kA2_ok, ↓kA1_exc, ↓kA2_exc, ↓w_Tup, ↓w_Lst, ↓w_mkT, ↓w_mkL, ↓w_Dct, ↓w_Call, ↓w_goS, ↓w_Bi, ↓w_Isi, ↓w_Cut, ↓kC1_ok, ↓kC2_ok, ↓kC3_ok, ↓w_oNone, ↓w_oSome, ↓w_vO, ↓w_Chain, ↓kCh1_ok, ↓kCh2_ok, ↓kCh3_ok, ↓w_chA, ↓w_App, ↓w_Ins, ↓w_insG, ↓z_nx, ↓z_End, ↓z_Seq, ↓kT_nx, ↓kT_rt, ↓kT_bk, ↓kT_ct, ↓kT_exc, ↓z_If, ↓kIfS_ok, ↓kIfS_exc, ↓z_Ret, ↓kRet_ok, ↓kRet_exc, ↓z_Expr, ↓kNx_ok, ↓kNx_exc, ↓z_Asg, ↓kAs_ok, ↓kAs_exc, ↓z_tgO, t_N, t_T, t_nil, t_cons, t_G, t_gnil, t_gcons, t_bind, ↓z_Par, ↓kPar_ok, ↓z_Raise, ↓z_Break, ↓z_Cont, ↓z_For, ↓kSrc_ok, ↓w_Range, ↓w_rgF, ↓w_SeqI, ↓w_sqT, ↓w_Zip, ↓w_zpT, ↓w_Comp, ↓kCo_ok, ↓w_of, ↓kF_rt, ↓kF_nx, ↓kF_exc, ↓w_add, ↓w_sub, ↓w_pow10, ↓w_neg, ↓w_lt, ↓w_le, ↓w_gt, ↓w_ge, ↓w_ix0, ↓w_ix1, ↓w_ix2, ↓w_ix3, ↓w_eqI, ↓w_eqS, ↓w_eqT2, ↓w_abs, ↓w_lenT, ↓w_lenS, ↓w_max, ↓w_min, ↓w_intT, ↓w_intF, ↓w_isBool, ↓w_isTup, ↓w_tupT, ↓w_listT, ↓w_cutT, ↓brw_t, ↓brw_f, ↓brz_t, ↓brz_f, List.getElem?_cons_zero, List.getElem?_cons_succ, List.set_cons_zero, List.set_cons_succ, List.length_cons, List.length_nil, List.map_cons, List.map_nil, List.replicate, List.cons_append, List.nil_append, small, Nat.reduceAdd, Nat.reduceLeDiff, Nat.reduceEqDiff, Int.cast_ofNat_Int, Int.reduceBEq, BEq.rfl, ↓w_Yes, ↓w_bTru, ↓augF_ok, ↓z_Put, ↓putF_ok, ↓putG_ok, ↓w_isNn, ↓w_isNt, wipeF_nil, wipeF_cons, Int.reduceLE, Int.reduceLT, Int.reduceToNat, Int.reducePow, Int.reduceNeg, Int.reduceSub, Int.reduceAdd, Int.reduceMul, decide_true, decide_false, Bool.not_true, Bool.not_false, Bool.bne_false, Bool.bne_true, ↓w_aStar, ↓w_stT, ↓kSt_ok, ↓w_aDef, ↓kDf_ok, ↓w_Cnt, ↓w_Ext, ↓w_isBB, ↓w_isIB]
  refine take_w P (by omega) (by decide) (by decide) fun i h1 i0 i1 P1 S1 => ?_
  simp only [↓w_ok, ↓kB_ok, ↓kI_ok, ↓w_K, ↓w_V, ↓w_vR, ↓w_Op, ↓kO1_ok, ↓kO2_ok, ↓w_Un, ↓w_bOf, ↓w_isB, ↓kBl_ok, ↓kBl_exc, ↓kIf_ok, ↓kIf_exc, ↓w_okB, ↓w_okD, ↓w_bAnd, ↓w_bOr, ↓w_bNot, ↓kNot_ok, ↓kNot_exc, ↓w_eAnd, ↓w_eOr, ↓w_eNot, ↓kNotV_ok, ↓w_eIf, ↓w_aNil, ↓w_aCons, ↓kA1_ok, ↓kA2_ok, ↓kA1_exc, ↓kA2_exc, ↓w_Tup, ↓w_Lst, ↓w_mkT, ↓w_mkL, ↓w_Dct, ↓w_Call, ↓w_goS, ↓w_Bi, ↓w_Isi, ↓w_Cut, ↓kC1_ok, ↓kC2_ok, ↓kC3_ok, ↓w_oNone, ↓w_oSome, ↓w_vO, ↓w_Chain, ↓kCh1_ok, ↓kCh2_ok, ↓kCh3_ok, ↓w_chA, ↓w_App, ↓w_Ins, ↓w_insG, ↓z_nx, ↓z_End, ↓z_Seq, ↓kT_nx, ↓kT_rt, ↓kT_bk, ↓kT_ct, ↓kT_exc, ↓z_If, ↓kIfS_ok, ↓kIfS_exc, ↓z_Ret, ↓kRet_ok, ↓kRet_exc, ↓z_Expr, ↓kNx_ok, ↓kNx_exc, ↓z_Asg, ↓kAs_ok, ↓kAs_exc, ↓z_tgO, t_N, t_T, t_nil, t_cons, t_G, t_gnil, t_gcons, t_bind, ↓z_Par, ↓kPar_ok, ↓z_Raise, ↓z_Break, ↓z_Cont, ↓z_For, ↓kSrc_ok, ↓w_Range, ↓w_rgF, ↓w_SeqI, ↓w_sqT, ↓w_Zip, ↓w_zpT, ↓w_Comp, ↓kCo_ok, ↓w_of, ↓kF_rt, ↓kF_nx, ↓kF_exc, ↓w_add, ↓w_sub, ↓w_pow10, ↓w_neg, ↓w_lt, ↓w_le, ↓w_gt, ↓w_ge, ↓w_ix0, ↓w_ix1, ↓w_ix2, ↓w_ix3, ↓w_eqI, ↓w_eqS, ↓w_eqT2, ↓w_abs, ↓w_lenT, ↓w_lenS, ↓w_max, ↓w_min, ↓w_intT, ↓w_intF, ↓w_isBool, ↓w_isTup, ↓w_tupT, ↓w_listT, ↓w_cutT, ↓brw_t, ↓brw_f, ↓brz_t, ↓brz_f, List.getElem?_cons_zero, List.getElem?_cons_succ, List.set_cons_zero, List.set_cons_succ, List.length_cons, List.length_nil, List.map_cons, List.map_nil, List.replicate, List.cons_append, List.nil_append, small, Nat.reduceAdd, Nat.reduceLeDiff, Nat.reduceEqDiff, Int.cast_ofNat_Int, Int.reduceBEq, BEq.rfl, ↓w_Yes, ↓w_bTru, ↓augF_ok, ↓z_Put, ↓putF_ok, ↓putG_ok, ↓w_isNn, ↓w_isNt, wipeF_nil, wipeF_cons, Int.reduceLE, Int.reduceLT, Int.reduceToNat, Int.reducePow, Int.reduceNeg, Int.reduceSub, Int.reduceAdd, Int.reduceMul, decide_true, decide_false, Bool.not_true, Bool.not_false, Bool.bne_false, Bool.bne_true, ↓w_aStar, ↓w_stT, ↓kSt_ok, ↓w_aDef, ↓kDf_ok, ↓w_Cnt, ↓w_Ext, ↓w_isBB, ↓w_isIB]
  refine brzP (fun hc => ?_) fun hc => ?_
  · simp only [↓w_ok, ↓kB_ok, ↓kI_ok, ↓w_K, ↓w_V, ↓w_vR, ↓w_Op, ↓kO1_ok, ↓kO2_ok, ↓w_Un, ↓w_bOf, ↓w_isB, ↓kBl_ok, ↓kBl_exc, ↓kIf_ok, ↓kIf_exc, ↓w_okB, ↓w_okD, ↓w_bAnd, ↓w_bOr, ↓w_bNot, ↓kNot_ok, ↓kNot_exc, ↓w_eAnd, ↓w_eOr, ↓w_eNot, ↓kNotV_ok, ↓w_eIf, ↓w_aNil, ↓w_aCons, ↓kA1_ok, ↓kA2_ok, ↓kA1_exc, ↓kA2_exc, ↓w_Tup, ↓w_Lst, ↓w_mkT, ↓w_mkL, ↓w_Dct, ↓w_Call, ↓w_goS, ↓w_Bi, ↓w_Isi, ↓w_Cut, ↓kC1_ok, ↓kC2_ok, ↓kC3_ok, ↓w_oNone, ↓w_oSome, ↓w_vO, ↓w_Chain, ↓kCh1_ok, ↓kCh2_ok, ↓kCh3_ok, ↓w_chA, ↓w_App, ↓w_Ins, ↓w_insG, ↓z_nx, ↓z_End, ↓z_Seq, ↓kT_nx, ↓kT_rt, ↓kT_bk, ↓kT_ct, ↓kT_exc, ↓z_If, ↓kIfS_ok, ↓kIfS_exc, ↓z_Ret, ↓kRet_ok, ↓kRet_exc, ↓z_Expr, ↓kNx_ok, ↓kNx_exc, ↓z_Asg, ↓kAs_ok, ↓kAs_exc, ↓z_tgO, t_N, t_T, t_nil, t_cons, t_G, t_gnil, t_gcons, t_bind, ↓z_Par, ↓kPar_ok, ↓z_Raise, ↓z_Break, ↓z_Cont, ↓z_For, ↓kSrc_ok, ↓w_Range, ↓w_rgF, ↓w_SeqI, ↓w_sqT, ↓w_Zip, ↓w_zpT, ↓w_Comp, ↓kCo_ok, ↓w_of, ↓kF_rt, ↓kF_nx, ↓kF_exc, ↓w_add, ↓w_sub, ↓w_pow10, ↓w_neg, ↓w_lt, ↓w_le, ↓w_gt, ↓w_ge, ↓w_ix0, ↓w_ix1, ↓w_ix2, ↓w_ix3, ↓w_eqI, ↓w_eqS, ↓w_eqT2, ↓w_abs, ↓w_lenT, ↓w_lenS, ↓w_max, ↓w_min, ↓w_intT, ↓w_intF, ↓w_isBool, ↓w_isTup, ↓w_tupT, ↓w_listT, ↓w_cutT, ↓brw_t, ↓brw_f, ↓brz_t, ↓brz_f, List.getElem?_cons_zero, List.getElem?_cons_succ, List.set_cons_zero, List.set_cons_succ, List.length_cons, List.length_nil, List.map_cons, List.map_nil, List.replicate, List.cons_append, List.nil_append, small, Nat.reduceAdd, Nat.reduceLeDiff, Nat.reduceEqDiff, Int.cast_ofNat_Int, Int.reduceBEq, BEq.rfl, ↓w_Yes, ↓w_bTru, ↓augF_ok, ↓z_Put, ↓putF_ok, ↓putG_ok, ↓w_isNn, ↓w_isNt, wipeF_nil, wipeF_cons, Int.reduceLE, Int.reduceLT, Int.reduceToNat, Int.reducePow, Int.reduceNeg, Int.reduceSub, Int.reduceAdd, Int.reduceMul, decide_true, decide_false, Bool.not_true, Bool.not_false, Bool.bne_false, Bool.bne_true, ↓w_aStar, ↓w_stT, ↓kSt_ok, ↓w_aDef, ↓kDf_ok, ↓w_Cnt, ↓w_Ext, ↓w_isBB, ↓w_isIB]
    refine take_w (P1.app _) (by omega) (by decide) (by decide) fun j h2 j0 j1 P2 S2 => ?_
    have np : h1.length ≠ p := by have := P1.lt; omega
    have l2 := S2.lst np (lst_new h1 _)
    simp only [↓w_ok, ↓kB_ok, ↓kI_ok, ↓w_K, ↓w_V, ↓w_vR, ↓w_Op, ↓kO1_ok, ↓kO2_ok, ↓w_Un, ↓w_bOf, ↓w_isB, ↓kBl_ok, ↓kBl_exc, ↓kIf_ok, ↓kIf_exc, ↓w_okB, ↓w_okD, ↓w_bAnd, ↓w_bOr, ↓w_bNot, ↓kNot_ok, ↓kNot_exc, ↓w_eAnd, ↓w_eOr, ↓w_eNot, ↓kNotV_ok, ↓w_eIf, ↓w_aNil, ↓w_aCons, ↓kA1_ok, ↓kA2_ok, ↓kA1_exc, ↓kA2_exc, ↓w_Tup, ↓w_Lst, ↓w_mkT, ↓w_mkL, ↓w_Dct, ↓w_Call, ↓w_goS, ↓w_Bi, ↓w_Isi, ↓w_Cut, ↓kC1_ok, ↓kC2_ok, ↓kC3_ok, ↓w_oNone, ↓w_oSome, ↓w_vO, ↓w_Chain, ↓kCh1_ok, ↓kCh2_ok, ↓kCh3_ok, ↓w_chA, ↓w_App, ↓w_Ins, ↓w_insG, ↓z_nx, ↓z_End, ↓z_Seq, ↓kT_nx, ↓kT_rt, ↓kT_bk, ↓kT_ct, ↓kT_exc, ↓z_If, ↓kIfS_ok, ↓kIfS_exc, ↓z_Ret, ↓kRet_ok, ↓kRet_exc, ↓z_Expr, ↓kNx_ok, ↓kNx_exc, ↓z_Asg, ↓kAs_ok, ↓kAs_exc, ↓z_tgO, t_N, t_T, t_nil, t_cons, t_G, t_gnil, t_gcons, t_bind, ↓z_Par, ↓kPar_ok, ↓z_Raise, ↓z_Break, ↓z_Cont, ↓z_For, ↓kSrc_ok, ↓w_Range, ↓w_rgF, ↓w_SeqI, ↓w_sqT, ↓w_Zip, ↓w_zpT, ↓w_Comp, ↓kCo_ok, ↓w_of, ↓kF_rt, ↓kF_nx, ↓kF_exc, ↓w_add, ↓w_sub, ↓w_pow10, ↓w_neg, ↓w_lt, ↓w_le, ↓w_gt, ↓w_ge, ↓w_ix0, ↓w_ix1, ↓w_ix2, ↓w_ix3, ↓w_eqI, ↓w_eqS, ↓w_eqT2, ↓w_abs, ↓w_lenT, ↓w_lenS, ↓w_max, ↓w_min, ↓w_intT, ↓w_intF, ↓w_isBool, ↓w_isTup, ↓w_tupT, ↓w_listT, ↓w_cutT, ↓brw_t, ↓brw_f, ↓brz_t, ↓brz_f, List.getElem?_cons_zero, List.getElem?_cons_succ, List.set_cons_zero, List.set_cons_succ, List.length_cons, List.length_nil, List.map_cons, List.map_nil, List.replicate, List.cons_append, List.nil_append, small, Nat.reduceAdd, Nat.reduceLeDiff, Nat.reduceEqDiff, Int.cast_ofNat_Int, Int.reduceBEq, BEq.rfl, ↓w_Yes, ↓w_bTru, ↓augF_ok, ↓z_Put, ↓putF_ok, ↓putG_ok, ↓w_isNn, ↓w_isNt, wipeF_nil, wipeF_cons, Int.reduceLE, Int.reduceLT, Int.reduceToNat, Int.reducePow, Int.reduceNeg, Int.reduceSub, Int.reduceAdd, Int.reduceMul, decide_true, decide_false, Bool.not_true, Bool.not_false, Bool.bne_false, Bool.bne_true, ↓w_aStar, ↓w_stT, ↓kSt_ok, ↓w_aDef, ↓kDf_ok, ↓w_Cnt, ↓w_Ext, ↓w_isBB, ↓w_isIB]
    refine w_ixP (intIn (-3) 3) l2 j0 (by simpa using j1) (by simp [intIn]) ?_
    rintro _ ⟨pace, rfl, p0, p1⟩
    simp only [↓w_ok, ↓kB_ok, ↓kI_ok, ↓w_K, ↓w_V, ↓w_vR, ↓w_Op, ↓kO1_ok, ↓kO2_ok, ↓w_Un, ↓w_bOf, ↓w_isB, ↓kBl_ok, ↓kBl_exc, ↓kIf_ok, ↓kIf_exc, ↓w_okB, ↓w_okD, ↓w_bAnd, ↓w_bOr, ↓w_bNot, ↓kNot_ok, ↓kNot_exc, ↓w_eAnd, ↓w_eOr, ↓w_eNot, ↓kNotV_ok, ↓w_eIf, ↓w_aNil, ↓w_aCons, ↓kA1_ok, ↓kA2_ok, ↓kA1_exc, ↓kA2_exc, ↓w_Tup, ↓w_Lst, ↓w_mkT, ↓w_mkL, ↓w_Dct, ↓w_Call, ↓w_goS, ↓w_Bi, ↓w_Isi, ↓w_Cut, ↓kC1_ok, ↓kC2_ok, ↓kC3_ok, ↓w_oNone, ↓w_oSome, ↓w_vO, ↓w_Chain, ↓kCh1_ok, ↓kCh2_ok, ↓kCh3_ok, ↓w_chA, ↓w_App, ↓w_Ins, ↓w_insG, ↓z_nx, ↓z_End, ↓z_Seq, ↓kT_nx, ↓kT_rt, ↓kT_bk, ↓kT_ct, ↓kT_exc, ↓z_If, ↓kIfS_ok, ↓kIfS_exc, ↓z_Ret, ↓kRet_ok, ↓kRet_exc, ↓z_Expr, ↓kNx_ok, ↓kNx_exc, ↓z_Asg, ↓kAs_ok, ↓kAs_exc, ↓z_tgO, t_N, t_T, t_nil, t_cons, t_G, t_gnil, t_gcons, t_bind, ↓z_Par, ↓kPar_ok, ↓z_Raise, ↓z_Break, ↓z_Cont, ↓z_For, ↓kSrc_ok, ↓w_Range, ↓w_rgF, ↓w_SeqI, ↓w_sqT, ↓w_Zip, ↓w_zpT, ↓w_Comp, ↓kCo_ok, ↓w_of, ↓kF_rt, ↓kF_nx, ↓kF_exc, ↓w_add, ↓w_sub, ↓w_pow10, ↓w_neg, ↓w_lt, ↓w_le, ↓w_gt, ↓w_ge, ↓w_ix0, ↓w_ix1, ↓w_ix2, ↓w_ix3, ↓w_eqI, ↓w_eqS, ↓w_eqT2, ↓w_abs, ↓w_lenT, ↓w_lenS, ↓w_max, ↓w_min, ↓w_intT, ↓w_intF, ↓w_isBool, ↓w_isTup, ↓w_tupT, ↓w_listT, ↓w_cutT, ↓brw_t, ↓brw_f, ↓brz_t, ↓brz_f, List.getElem?_cons_zero, List.getElem?_cons_succ, List.set_cons_zero, List.set_cons_succ, List.length_cons, List.length_nil, List.map_cons, List.map_nil, List.replicate, List.cons_append, List.nil_append, small, Nat.reduceAdd, Nat.reduceLeDiff, Nat.reduceEqDiff, Int.cast_ofNat_Int, Int.reduceBEq, BEq.rfl, ↓w_Yes, ↓w_bTru, ↓augF_ok, ↓z_Put, ↓putF_ok, ↓putG_ok, ↓w_isNn, ↓w_isNt, wipeF_nil, wipeF_cons, Int.reduceLE, Int.reduceLT, Int.reduceToNat, Int.reducePow, Int.reduceNeg, Int.reduceSub, Int.reduceAdd, Int.reduceMul, decide_true, decide_false, Bool.not_true, Bool.not_false, Bool.bne_false, Bool.bne_true, ↓w_aStar, ↓w_stT, ↓kSt_ok, ↓w_aDef, ↓kDf_ok, ↓w_Cnt, ↓w_Ext, ↓w_isBB, ↓w_isIB]
    refine take_w P2 (by omega) (by decide) (by decide) fun z h3 z0 z1 P3 S3 => ?_
    simp only [↓w_ok, ↓kB_ok, ↓kI_ok, ↓w_K, ↓w_V, ↓w_vR, ↓w_Op, ↓kO1_ok, ↓kO2_ok, ↓w_Un, ↓w_bOf, ↓w_isB, ↓kBl_ok, ↓kBl_exc, ↓kIf_ok, ↓kIf_exc, ↓w_okB, ↓w_okD, ↓w_bAnd, ↓w_bOr, ↓w_bNot, ↓kNot_ok, ↓kNot_exc, ↓w_eAnd, ↓w_eOr, ↓w_eNot, ↓kNotV_ok, ↓w_eIf, ↓w_aNil, ↓w_aCons, ↓kA1_ok, ↓kA2_ok, ↓kA1_exc, ↓kA2_exc, ↓w_Tup, ↓w_Lst, ↓w_mkT, ↓w_mkL, ↓w_Dct, ↓w_Call, ↓w_goS, ↓w_Bi, ↓w_Isi, ↓w_Cut, ↓kC1_ok, ↓kC2_ok, ↓kC3_ok, ↓w_oNone, ↓w_oSome, ↓w_vO, ↓w_Chain, ↓kCh1_ok, ↓kCh2_ok, ↓kCh3_ok, ↓w_chA, ↓w_App, ↓w_Ins, ↓w_insG, ↓z_nx, ↓z_End, ↓z_Seq, ↓kT_nx, ↓kT_rt, ↓kT_bk, ↓kT_ct, ↓kT_exc, ↓z_If, ↓kIfS_ok, ↓kIfS_exc, ↓z_Ret, ↓kRet_ok, ↓kRet_exc, ↓z_Expr, ↓kNx_ok, ↓kNx_exc, ↓z_Asg, ↓kAs_ok, ↓kAs_exc, ↓z_tgO, t_N, t_T, t_nil, t_cons, t_G, t_gnil, t_gcons, t_bind, ↓z_Par, ↓kPar_ok, ↓z_Raise, ↓z_Break, ↓z_Cont, ↓z_For, ↓kSrc_ok, ↓w_Range, ↓w_rgF, ↓w_SeqI, ↓w_sqT, ↓w_Zip, ↓w_zpT, ↓w_Comp, ↓kCo_ok, ↓w_of, ↓kF_rt, ↓kF_nx, ↓kF_exc, ↓w_add, ↓w_sub, ↓w_pow10, ↓w_neg, ↓w_lt, ↓w_le, ↓w_gt, ↓w_ge, ↓w_ix0, ↓w_ix1, ↓w_ix2, ↓w_ix3, ↓w_eqI, ↓w_eqS, ↓w_eqT2, ↓w_abs, ↓w_lenT, ↓w_lenS, ↓w_max, ↓w_min, ↓w_intT, ↓w_intF, ↓w_isBool, ↓w_isTup, ↓w_tupT, ↓w_listT, ↓w_cutT, ↓brw_t, ↓brw_f, ↓brz_t, ↓brz_f, List.getElem?_cons_zero, List.getElem?_cons_succ, List.set_cons_zero, List.set_cons_succ, List.length_cons, List.length_nil, List.map_cons, List.map_nil, List.replicate, List.cons_append, List.nil_append, small, Nat.reduceAdd, Nat.reduceLeDiff, Nat.reduceEqDiff, Int.cast_ofNat_Int, Int.reduceBEq, BEq.rfl, ↓w_Yes, ↓w_bTru, ↓augF_ok, ↓z_Put, ↓putF_ok, ↓putG_ok, ↓w_isNn, ↓w_isNt, wipeF_nil, wipeF_cons, Int.reduceLE, Int.reduceLT, Int.reduceToNat, Int.reducePow, Int.reduceNeg, Int.reduceSub, Int.reduceAdd, Int.reduceMul, decide_true, decide_false, Bool.not_true, Bool.not_false, Bool.bne_false, Bool.bne_true, ↓w_aStar, ↓w_stT, ↓kSt_ok, ↓w_aDef, ↓kDf_ok, ↓w_Cnt, ↓w_Ext, ↓w_isBB, ↓w_isIB, w_mul (Bd.mk (A := 3) (B := 5) (Bd.of (by omega) (by omega)) (Bd.of (by omega) (by omega)) : mulOk pace z = true)]
    refine take_w (P3.app _) (by omega) (by decide) (by decide) fun u h4 u0 u1 P4 S4 => ?_
    have np3 : h3.length ≠ p := by have := P3.lt; omega
    have l4 := S4.lst np3 (lst_new h3 _)
    simp only [↓w_ok, ↓kB_ok, ↓kI_ok, ↓w_K, ↓w_V, ↓w_vR, ↓w_Op, ↓kO1_ok, ↓kO2_ok, ↓w_Un, ↓w_bOf, ↓w_isB, ↓kBl_ok, ↓kBl_exc, ↓kIf_ok, ↓kIf_exc, ↓w_okB, ↓w_okD, ↓w_bAnd, ↓w_bOr, ↓w_bNot, ↓kNot_ok, ↓kNot_exc, ↓w_eAnd, ↓w_eOr, ↓w_eNot, ↓kNotV_ok, ↓w_eIf, ↓w_aNil, ↓w_aCons, ↓kA1_ok, ↓kA2_ok, ↓kA1_exc, ↓kA2_exc, ↓w_Tup, ↓w_Lst, ↓w_mkT, ↓w_mkL, ↓w_Dct, ↓w_Call, ↓w_goS, ↓w_Bi, ↓w_Isi, ↓w_Cut, ↓kC1_ok, ↓kC2_ok, ↓kC3_ok, ↓w_oNone, ↓w_oSome, ↓w_vO, ↓w_Chain, ↓kCh1_ok, ↓kCh2_ok, ↓kCh3_ok, ↓w_chA, ↓w_App, ↓w_Ins, ↓w_insG, ↓z_nx, ↓z_End, ↓z_Seq, ↓kT_nx, ↓kT_rt, ↓kT_bk, ↓kT_ct, ↓kT_exc, ↓z_If, ↓kIfS_ok, ↓kIfS_exc, ↓z_Ret, ↓kRet_ok, ↓kRet_exc, ↓z_Expr, ↓kNx_ok, ↓kNx_exc, ↓z_Asg, ↓kAs_ok, ↓kAs_exc, ↓z_tgO, t_N, t_T, t_nil, t_cons, t_G, t_gnil, t_gcons, t_bind, ↓z_Par, ↓kPar_ok, ↓z_Raise, ↓z_Break, ↓z_Cont, ↓z_For, ↓kSrc_ok, ↓w_Range, ↓w_rgF, ↓w_SeqI, ↓w_sqT, ↓w_Zip, ↓w_zpT, ↓w_Comp, ↓kCo_ok, ↓w_of, ↓kF_rt, ↓kF_nx, ↓kF_exc, ↓w_add, ↓w_sub, ↓w_pow10, ↓w_neg, ↓w_lt, ↓w_le, ↓w_gt, ↓w_ge, ↓w_ix0, ↓w_ix1, ↓w_ix2, ↓w_ix3, ↓w_eqI, ↓w_eqS, ↓w_eqT2, ↓w_abs, ↓w_lenT, ↓w_lenS, ↓w_max, ↓w_min, ↓w_intT, ↓w_intF, ↓w_isBool, ↓w_isTup, ↓w_tupT, ↓w_listT, ↓w_cutT, ↓brw_t, ↓brw_f, ↓brz_t, ↓brz_f, List.getElem?_cons_zero, List.getElem?_cons_succ, List.set_cons_zero, List.set_cons_succ, List.length_cons, List.length_nil, List.map_cons, List.map_nil, List.replicate, List.cons_append, List.nil_append, small, Nat.reduceAdd, Nat.reduceLeDiff, Nat.reduceEqDiff, Int.cast_ofNat_Int, Int.reduceBEq, BEq.rfl, ↓w_Yes, ↓w_bTru, ↓augF_ok, ↓z_Put, ↓putF_ok, ↓putG_ok, ↓w_isNn, ↓w_isNt, wipeF_nil, wipeF_cons, Int.reduceLE, Int.reduceLT, Int.reduceToNat, Int.reducePow, Int.reduceNeg, Int.reduceSub, Int.reduceAdd, Int.reduceMul, decide_true, decide_false, Bool.not_true, Bool.not_false, Bool.bne_false, Bool.bne_true, ↓w_aStar, ↓w_stT, ↓kSt_ok, ↓w_aDef, ↓kDf_ok, ↓w_Cnt, ↓w_Ext, ↓w_isBB, ↓w_isIB]
    refine w_ixP (intIn 0 1) l4 u0 (by simpa using u1) (by simp [intIn]) ?_
    rintro _ ⟨v, rfl, v0, v1⟩
    simp only [↓w_ok, ↓kB_ok, ↓kI_ok, ↓w_K, ↓w_V, ↓w_vR, ↓w_Op, ↓kO1_ok, ↓kO2_ok, ↓w_Un, ↓w_bOf, ↓w_isB, ↓kBl_ok, ↓kBl_exc, ↓kIf_ok, ↓kIf_exc, ↓w_okB, ↓w_okD, ↓w_bAnd, ↓w_bOr, ↓w_bNot, ↓kNot_ok, ↓kNot_exc, ↓w_eAnd, ↓w_eOr, ↓w_eNot, ↓kNotV_ok, ↓w_eIf, ↓w_aNil, ↓w_aCons, ↓kA1_ok, ↓kA2_ok, ↓kA1_exc, ↓kA2_exc, ↓w_Tup, ↓w_Lst, ↓w_mkT, ↓w_mkL, ↓w_Dct, ↓w_Call, ↓w_goS, ↓w_Bi, ↓w_Isi, ↓w_Cut, ↓kC1_ok, ↓kC2_ok, ↓kC3_ok, ↓w_oNone, ↓w_oSome, ↓w_vO, ↓w_Chain, ↓kCh1_ok, ↓kCh2_ok, ↓kCh3_ok, ↓w_chA, ↓w_App, ↓w_Ins, ↓w_insG, ↓z_nx, ↓z_End, ↓z_Seq, ↓kT_nx, ↓kT_rt, ↓kT_bk, ↓kT_ct, ↓kT_exc, ↓z_If, ↓kIfS_ok, ↓kIfS_exc, ↓z_Ret, ↓kRet_ok, ↓kRet_exc, ↓z_Expr, ↓kNx_ok, ↓kNx_exc, ↓z_Asg, ↓kAs_ok, ↓kAs_exc, ↓z_tgO, t_N, t_T, t_nil, t_cons, t_G, t_gnil, t_gcons, t_bind, ↓z_Par, ↓kPar_ok, ↓z_Raise, ↓z_Break, ↓z_Cont, ↓z_For, ↓kSrc_ok, ↓w_Range, ↓w_rgF, ↓w_SeqI, ↓w_sqT, ↓w_Zip, ↓w_zpT, ↓w_Comp, ↓kCo_ok, ↓w_of, ↓kF_rt, ↓kF_nx, ↓kF_exc, ↓w_add, ↓w_sub, ↓w_pow10, ↓w_neg, ↓w_lt, ↓w_le, ↓w_gt, ↓w_ge, ↓w_ix0, ↓w_ix1, ↓w_ix2, ↓w_ix3, ↓w_eqI, ↓w_eqS, ↓w_eqT2, ↓w_abs, ↓w_lenT, ↓w_lenS, ↓w_max, ↓w_min, ↓w_intT, ↓w_intF, ↓w_isBool, ↓w_isTup, ↓w_tupT, ↓w_listT, ↓w_cutT, ↓brw_t, ↓brw_f, ↓brz_t, ↓brz_f, List.getElem?_cons_zero, List.getElem?_cons_succ, List.set_cons_zero, List.set_cons_succ, List.length_cons, List.length_nil, List.map_cons, List.map_nil, List.replicate, List.cons_append, List.nil_append, small, Nat.reduceAdd, Nat.reduceLeDiff, Nat.reduceEqDiff, Int.cast_ofNat_Int, Int.reduceBEq, BEq.rfl, ↓w_Yes, ↓w_bTru, ↓augF_ok, ↓z_Put, ↓putF_ok, ↓putG_ok, ↓w_isNn, ↓w_isNt, wipeF_nil, wipeF_cons, Int.reduceLE, Int.reduceLT, Int.reduceToNat, Int.reducePow, Int.reduceNeg, Int.reduceSub, Int.reduceAdd, Int.reduceMul, decide_true, decide_false, Bool.not_true, Bool.not_false, Bool.bne_false, Bool.bne_true, ↓w_aStar, ↓w_stT, ↓kSt_ok, ↓w_aDef, ↓kDf_ok, ↓w_Cnt, ↓w_Ext, ↓w_isBB, ↓w_isIB]
    have b1 : Bd 7 (pace * z) := (Bd.of (by omega) (by omega) : Bd 3 pace).mul (Bd.of (by omega) (by omega) : Bd 4 z)
    have b2 : Bd 8 (0 - pace * z) := (Bd.of (by omega) (by omega) : Bd 7 0).sub b1
    have b : Bd 9 (0 - pace * z + v) := b2.add ((Bd.of (by omega) (by omega) : Bd 1 v).mono (by decide))
    refine k ⟨(0 - pace * z + v, 1), (pace, 1)⟩ _ ⟨⟨by simp, g1 _, b.mono (by decide), one⟩, ⟨by simp, g1 _, Bd.of (by simp; omega) (by simp; omega), one⟩⟩ (P4.mono (by omega)) (S1.trans (S2.cut.trans (S3.trans S4.cut)))
  · simp only [↓w_ok, ↓kB_ok, ↓kI_ok, ↓w_K, ↓w_V, ↓w_vR, ↓w_Op, ↓kO1_ok, ↓kO2_ok, ↓w_Un, ↓w_bOf, ↓w_isB, ↓kBl_ok, ↓kBl_exc, ↓kIf_ok, ↓kIf_exc, ↓w_okB, ↓w_okD, ↓w_bAnd, ↓w_bOr, ↓w_bNot, ↓kNot_ok, ↓kNot_exc, ↓w_eAnd, ↓w_eOr, ↓w_eNot, ↓kNotV_ok, ↓w_eIf, ↓w_aNil, ↓w_aCons, ↓kA1_ok, ↓kA2_ok, ↓kA1_exc, ↓kA2_exc, ↓w_Tup, ↓w_Lst, ↓w_mkT, ↓w_mkL, ↓w_Dct, ↓w_Call, ↓w_goS, ↓w_Bi, ↓w_Isi, ↓w_Cut, ↓kC1_ok, ↓kC2_ok, ↓kC3_ok, ↓w_oNone, ↓w_oSome, ↓w_vO, ↓w_Chain, ↓kCh1_ok, ↓kCh2_ok, ↓kCh3_ok, ↓w_chA, ↓w_App, ↓w_Ins, ↓w_insG, ↓z_nx, ↓z_End, ↓z_Seq, ↓kT_nx, ↓kT_rt, ↓kT_bk, ↓kT_ct, ↓kT_exc, ↓z_If, ↓kIfS_ok, ↓kIfS_exc, ↓z_Ret, ↓kRet_ok, ↓kRet_exc, ↓z_Expr, ↓kNx_ok, ↓kNx_exc, ↓z_Asg, ↓kAs_ok, ↓kAs_exc, ↓z_tgO, t_N, t_T, t_nil, t_cons, t_G, t_gnil, t_gcons, t_bind, ↓z_Par, ↓kPar_ok, ↓z_Raise, ↓z_Break, ↓z_Cont, ↓z_For, ↓kSrc_ok, ↓w_Range, ↓w_rgF, ↓w_SeqI, ↓w_sqT, ↓w_Zip, ↓w_zpT, ↓w_Comp, ↓kCo_ok, ↓w_of, ↓kF_rt, ↓kF_nx, ↓kF_exc, ↓w_add, ↓w_sub, ↓w_pow10, ↓w_neg, ↓w_lt, ↓w_le, ↓w_gt, ↓w_ge, ↓w_ix0, ↓w_ix1, ↓w_ix2, ↓w_ix3, ↓w_eqI, ↓w_eqS, ↓w_eqT2, ↓w_abs, ↓w_lenT, ↓w_lenS, ↓w_max, ↓w_min, ↓w_intT, ↓w_intF, ↓w_isBool, ↓w_isTup, ↓w_tupT, ↓w_listT, ↓w_cutT, ↓brw_t, ↓brw_f, ↓brz_t, ↓brz_f, List.getElem?_cons_zero, List.getElem?_cons_succ, List.set_cons_zero, List.set_cons_succ, List.length_cons, List.length_nil, List.map_cons, List.map_nil, List.replicate, List.cons_append, List.nil_append, small, Nat.reduceAdd, Nat.reduceLeDiff, Nat.reduceEqDiff, Int.cast_ofNat_Int, Int.reduceBEq, BEq.rfl, ↓w_Yes, ↓w_bTru, ↓augF_ok, ↓z_Put, ↓putF_ok, ↓putG_ok, ↓w_isNn, ↓w_isNt, wipeF_nil, wipeF_cons, Int.reduceLE, Int.reduceLT, Int.reduceToNat, Int.reducePow, Int.reduceNeg, Int.reduceSub, Int.reduceAdd, Int.reduceMul, decide_true, decide_false, Bool.not_true, Bool.not_false, Bool.bne_false, Bool.bne_true, ↓w_aStar, ↓w_stT, ↓kSt_ok, ↓w_aDef, ↓kDf_ok, ↓w_Cnt, ↓w_Ext, ↓w_isBB, ↓w_isIB]
    refine fraction2_w P1 (by omega) fun a h2 fa P2 S2 => ?_
    simp only [↓w_ok, ↓kB_ok, ↓kI_ok, ↓w_K, ↓w_V, ↓w_vR, ↓w_Op, ↓kO1_ok, ↓kO2_ok, ↓w_Un, ↓w_bOf, ↓w_isB, ↓kBl_ok, ↓kBl_exc, ↓kIf_ok, ↓kIf_exc, ↓w_okB, ↓w_okD, ↓w_bAnd, ↓w_bOr, ↓w_bNot, ↓kNot_ok, ↓kNot_exc, ↓w_eAnd, ↓w_eOr, ↓w_eNot, ↓kNotV_ok, ↓w_eIf, ↓w_aNil, ↓w_aCons, ↓kA1_ok, ↓kA2_ok, ↓kA1_exc, ↓kA2_exc, ↓w_Tup, ↓w_Lst, ↓w_mkT, ↓w_mkL, ↓w_Dct, ↓w_Call, ↓w_goS, ↓w_Bi, ↓w_Isi, ↓w_Cut, ↓kC1_ok, ↓kC2_ok, ↓kC3_ok, ↓w_oNone, ↓w_oSome, ↓w_vO, ↓w_Chain, ↓kCh1_ok, ↓kCh2_ok, ↓kCh3_ok, ↓w_chA, ↓w_App, ↓w_Ins, ↓w_insG, ↓z_nx, ↓z_End, ↓z_Seq, ↓kT_nx, ↓kT_rt, ↓kT_bk, ↓kT_ct, ↓kT_exc, ↓z_If, ↓kIfS_ok, ↓kIfS_exc, ↓z_Ret, ↓kRet_ok, ↓kRet_exc, ↓z_Expr, ↓kNx_ok, ↓kNx_exc, ↓z_Asg, ↓kAs_ok, ↓kAs_exc, ↓z_tgO, t_N, t_T, t_nil, t_cons, t_G, t_gnil, t_gcons, t_bind, ↓z_Par, ↓kPar_ok, ↓z_Raise, ↓z_Break, ↓z_Cont, ↓z_For, ↓kSrc_ok, ↓w_Range, ↓w_rgF, ↓w_SeqI, ↓w_sqT, ↓w_Zip, ↓w_zpT, ↓w_Comp, ↓kCo_ok, ↓w_of, ↓kF_rt, ↓kF_nx, ↓kF_exc, ↓w_add, ↓w_sub, ↓w_pow10, ↓w_neg, ↓w_lt, ↓w_le, ↓w_gt, ↓w_ge, ↓w_ix0, ↓w_ix1, ↓w_ix2, ↓w_ix3, ↓w_eqI, ↓w_eqS, ↓w_eqT2, ↓w_abs, ↓w_lenT, ↓w_lenS, ↓w_max, ↓w_min, ↓w_intT, ↓w_intF, ↓w_isBool, ↓w_isTup, ↓w_tupT, ↓w_listT, ↓w_cutT, ↓brw_t, ↓brw_f, ↓brz_t, ↓brz_f, List.getElem?_cons_zero, List.getElem?_cons_succ, List.set_cons_zero, List.set_cons_succ, List.length_cons, List.length_nil, List.map_cons, List.map_nil, List.replicate, List.cons_append, List.nil_append, small, Nat.reduceAdd, Nat.reduceLeDiff, Nat.reduceEqDiff, Int.cast_ofNat_Int, Int.reduceBEq, BEq.rfl, ↓w_Yes, ↓w_bTru, ↓augF_ok, ↓z_Put, ↓putF_ok, ↓putG_ok, ↓w_isNn, ↓w_isNt, wipeF_nil, wipeF_cons, Int.reduceLE, Int.reduceLT, Int.reduceToNat, Int.reducePow, Int.reduceNeg, Int.reduceSub, Int.reduceAdd, Int.reduceMul, decide_true, decide_false, Bool.not_true, Bool.not_false, Bool.bne_false, Bool.bne_true, ↓w_aStar, ↓w_stT, ↓kSt_ok, ↓w_aDef, ↓kDf_ok, ↓w_Cnt, ↓w_Ext, ↓w_isBB, ↓w_isIB]
    refine fraction2_w P2 (by omega) fun b h3 fb P3 S3 => ?_
    simp only [↓w_ok, ↓kB_ok, ↓kI_ok, ↓w_K, ↓w_V, ↓w_vR, ↓w_Op, ↓kO1_ok, ↓kO2_ok, ↓w_Un, ↓w_bOf, ↓w_isB, ↓kBl_ok, ↓kBl_exc, ↓kIf_ok, ↓kIf_exc, ↓w_okB, ↓w_okD, ↓w_bAnd, ↓w_bOr, ↓w_bNot, ↓kNot_ok, ↓kNot_exc, ↓w_eAnd, ↓w_eOr, ↓w_eNot, ↓kNotV_ok, ↓w_eIf, ↓w_aNil, ↓w_aCons, ↓kA1_ok, ↓kA2_ok, ↓kA1_exc, ↓kA2_exc, ↓w_Tup, ↓w_Lst, ↓w_mkT, ↓w_mkL, ↓w_Dct, ↓w_Call, ↓w_goS, ↓w_Bi, ↓w_Isi, ↓w_Cut, ↓kC1_ok, ↓kC2_ok, ↓kC3_ok, ↓w_oNone, ↓w_oSome, ↓w_vO, ↓w_Chain, ↓kCh1_ok, ↓kCh2_ok, ↓kCh3_ok, ↓w_chA, ↓w_App, ↓w_Ins, ↓w_insG, ↓z_nx, ↓z_End, ↓z_Seq, ↓kT_nx, ↓kT_rt, ↓kT_bk, ↓kT_ct, ↓kT_exc, ↓z_If, ↓kIfS_ok, ↓kIfS_exc, ↓z_Ret, ↓kRet_ok, ↓kRet_exc, ↓z_Expr, ↓kNx_ok, ↓kNx_exc, ↓z_Asg, ↓kAs_ok, ↓kAs_exc, ↓z_tgO, t_N, t_T, t_nil, t_cons, t_G, t_gnil, t_gcons, t_bind, ↓z_Par, ↓kPar_ok, ↓z_Raise, ↓z_Break, ↓z_Cont, ↓z_For, ↓kSrc_ok, ↓w_Range, ↓w_rgF, ↓w_SeqI, ↓w_sqT, ↓w_Zip, ↓w_zpT, ↓w_Comp, ↓kCo_ok, ↓w_of, ↓kF_rt, ↓kF_nx, ↓kF_exc, ↓w_add, ↓w_sub, ↓w_pow10, ↓w_neg, ↓w_lt, ↓w_le, ↓w_gt, ↓w_ge, ↓w_ix0, ↓w_ix1, ↓w_ix2, ↓w_ix3, ↓w_eqI, ↓w_eqS, ↓w_eqT2, ↓w_abs, ↓w_lenT, ↓w_lenS, ↓w_max, ↓w_min, ↓w_intT, ↓w_intF, ↓w_isBool, ↓w_isTup, ↓w_tupT, ↓w_listT, ↓w_cutT, ↓brw_t, ↓brw_f, ↓brz_t, ↓brz_f, List.getElem?_cons_zero, List.getElem?_cons_succ, List.set_cons_zero, List.set_cons_succ, List.length_cons, List.length_nil, List.map_cons, List.map_nil, List.replicate, List.cons_append, List.nil_append, small, Nat.reduceAdd, Nat.reduceLeDiff, Nat.reduceEqDiff, Int.cast_ofNat_Int, Int.reduceBEq, BEq.rfl, ↓w_Yes, ↓w_bTru, ↓augF_ok, ↓z_Put, ↓putF_ok, ↓putG_ok, ↓w_isNn, ↓w_isNt, wipeF_nil, wipeF_cons, Int.reduceLE, Int.reduceLT, Int.reduceToNat, Int.reducePow, Int.reduceNeg, Int.reduceSub, Int.reduceAdd, Int.reduceMul, decide_true, decide_false, Bool.not_true, Bool.not_false, Bool.bne_false, Bool.bne_true, ↓w_aStar, ↓w_stT, ↓kSt_ok, ↓w_aDef, ↓kDf_ok, ↓w_Cnt, ↓w_Ext, ↓w_isBB, ↓w_isIB, w_intB]
    obtain ⟨j, hj, j0, j1⟩ : ∃ j : Int, (if decide (3 < i) = true then 1 else 0) = j ∧ 0 ≤ j ∧ j < 2 := ⟨_, rfl, by split <;> omega, by split <;> omega⟩
    rw [hj]
    refine w_ixP (fun d => ∃ q : Qp, d = dq q ∧ Fq 150 q) (lst_new _ _) j0 (by simpa using j1) ?_ ?_
    · intro d hd
      simp at hd
      rcases hd with rfl | rfl
      · exact ⟨(0, 1), rfl, ⟨by decide, g1 _, Bd.of (by decide) (by decide), one⟩⟩
      · exact ⟨b, rfl, fb⟩
    · rintro _ ⟨q, rfl, fq⟩
      simp only [↓w_ok, ↓kB_ok, ↓kI_ok, ↓w_K, ↓w_V, ↓w_vR, ↓w_Op, ↓kO1_ok, ↓kO2_ok, ↓w_Un, ↓w_bOf, ↓w_isB, ↓kBl_ok, ↓kBl_exc, ↓kIf_ok, ↓kIf_exc, ↓w_okB, ↓w_okD, ↓w_bAnd, ↓w_bOr, ↓w_bNot, ↓kNot_ok, ↓kNot_exc, ↓w_eAnd, ↓w_eOr, ↓w_eNot, ↓kNotV_ok, ↓w_eIf, ↓w_aNil, ↓w_aCons, ↓kA1_ok, ↓kA2_ok, ↓kA1_exc, ↓kA2_exc, ↓w_Tup, ↓w_Lst, ↓w_mkT, ↓w_mkL, ↓w_Dct, ↓w_Call, ↓w_goS, ↓w_Bi, ↓w_Isi, ↓w_Cut, ↓kC1_ok, ↓kC2_ok, ↓kC3_ok, ↓w_oNone, ↓w_oSome, ↓w_vO, ↓w_Chain, ↓kCh1_ok, ↓kCh2_ok, ↓kCh3_ok, ↓w_chA, ↓w_App, ↓w_Ins, ↓w_insG, ↓z_nx, ↓z_End, ↓z_Seq, ↓kT_nx, ↓kT_rt, ↓kT_bk, ↓kT_ct, ↓kT_exc, ↓z_If, ↓kIfS_ok, ↓kIfS_exc, ↓z_Ret, ↓kRet_ok, ↓kRet_exc, ↓z_Expr, ↓kNx_ok, ↓kNx_exc, ↓z_Asg, ↓kAs_ok, ↓kAs_exc, ↓z_tgO, t_N, t_T, t_nil, t_cons, t_G, t_gnil, t_gcons, t_bind, ↓z_Par, ↓kPar_ok, ↓z_Raise, ↓z_Break, ↓z_Cont, ↓z_For, ↓kSrc_ok, ↓w_Range, ↓w_rgF, ↓w_SeqI, ↓w_sqT, ↓w_Zip, ↓w_zpT, ↓w_Comp, ↓kCo_ok, ↓w_of, ↓kF_rt, ↓kF_nx, ↓kF_exc, ↓w_add, ↓w_sub, ↓w_pow10, ↓w_neg, ↓w_lt, ↓w_le, ↓w_gt, ↓w_ge, ↓w_ix0, ↓w_ix1, ↓w_ix2, ↓w_ix3, ↓w_eqI, ↓w_eqS, ↓w_eqT2, ↓w_abs, ↓w_lenT, ↓w_lenS, ↓w_max, ↓w_min, ↓w_intT, ↓w_intF, ↓w_isBool, ↓w_isTup, ↓w_tupT, ↓w_listT, ↓w_cutT, ↓brw_t, ↓brw_f, ↓brz_t, ↓brz_f, List.getElem?_cons_zero, List.getElem?_cons_succ, List.set_cons_zero, List.set_cons_succ, List.length_cons, List.length_nil, List.map_cons, List.map_nil, List.replicate, List.cons_append, List.nil_append, small, Nat.reduceAdd, Nat.reduceLeDiff, Nat.reduceEqDiff, Int.cast_ofNat_Int, Int.reduceBEq, BEq.rfl, ↓w_Yes, ↓w_bTru, ↓augF_ok, ↓z_Put, ↓putF_ok, ↓putG_ok, ↓w_isNn, ↓w_isNt, wipeF_nil, wipeF_cons, Int.reduceLE, Int.reduceLT, Int.reduceToNat, Int.reducePow, Int.reduceNeg, Int.reduceSub, Int.reduceAdd, Int.reduceMul, decide_true, decide_false, Bool.not_true, Bool.not_false, Bool.bne_false, Bool.bne_true, ↓w_aStar, ↓w_stT, ↓kSt_ok, ↓w_aDef, ↓kDf_ok, ↓w_Cnt, ↓w_Ext, ↓w_isBB, ↓w_isIB]
      exact k ⟨a, q⟩ _ ⟨fa, fq⟩ ((P3.mono (by omega)).app _) ((S1.trans (S2.trans S3)).appR _)
end
end MI
namespace K16
open MI
theorem truth_w {h : Hq} {Φ : Rs D → Prop} {a b : Bool} : W (f_law_truth [.bl a, .bl b] h) Φ = Φ (.ok (.bl (a == b)) h) := by
  have e : ∀ Φ : Rs D → Prop, W (dEqs false (.bl a) (.bl b) h) Φ = Φ (.ok (.bl (a == b)) h) := fun Φ => by
    cases a <;> cases b <;> rfl
  unfold f_law_truth b_law_truth
  simp only [↓w_ok, ↓kB_ok, ↓kI_ok, ↓w_K, ↓w_V, ↓w_vR, ↓w_Op, ↓kO1_ok, ↓kO2_ok, ↓w_Un, ↓w_bOf, ↓w_isB, ↓kBl_ok, ↓kBl_exc, ↓kIf_ok, ↓kIf_exc, ↓w_okB, ↓w_okD, ↓w_bAnd, ↓w_bOr, ↓w_bNot, ↓kNot_ok, ↓kNot_exc, ↓w_eAnd, ↓w_eOr, ↓w_eNot, ↓kNotV_ok, ↓w_eIf, ↓w_aNil, ↓w_aCons, ↓kA1_ok, ↓kA2_ok, ↓kA1_exc, ↓kA2_exc, ↓w_Tup, ↓w_Lst, ↓w_mkT, ↓w_mkL, ↓w_Dct, ↓w_Call, ↓w_goS, ↓w_Bi, ↓w_Isi, ↓w_Cut, ↓kC1_ok, ↓kC2_ok, ↓kC3_ok, ↓w_oNone, ↓w_oSome, ↓w_vO, ↓w_Chain, ↓kCh1_ok, ↓kCh2_ok, ↓kCh3_ok, ↓w_chA, ↓w_App, ↓w_Ins, ↓w_insG, ↓z_nx, ↓z_End, ↓z_Seq, ↓kT_nx, ↓kT_rt, ↓kT_bk, ↓kT_ct, ↓kT_exc, ↓z_If, ↓kIfS_ok, ↓kIfS_exc, ↓z_Ret, ↓kRet_ok, ↓kRet_exc, ↓z_Expr, ↓kNx_ok, ↓kNx_exc, ↓z_Asg, ↓kAs_ok, ↓kAs_exc, ↓z_tgO, t_N, t_T, t_nil, t_cons, t_G, t_gnil, t_gcons, t_bind, ↓z_Par, ↓kPar_ok, ↓z_Raise, ↓z_Break, ↓z_Cont, ↓z_For, ↓kSrc_ok, ↓w_Range, ↓w_rgF, ↓w_SeqI, ↓w_sqT, ↓w_Zip, ↓w_zpT, ↓w_Comp, ↓kCo_ok, ↓w_of, ↓kF_rt, ↓kF_nx, ↓kF_exc, ↓w_add, ↓w_sub, ↓w_pow10, ↓w_neg, ↓w_lt, ↓w_le, ↓w_gt, ↓w_ge, ↓w_ix0, ↓w_ix1, ↓w_ix2, ↓w_ix3, ↓w_eqI, ↓w_eqS, ↓w_eqT2, ↓w_abs, ↓w_lenT, ↓w_lenS, ↓w_max, ↓w_min, ↓w_intT, ↓w_intF, ↓w_isBool, ↓w_isTup, ↓w_tupT, ↓w_listT, ↓w_cutT, ↓brw_t, ↓brw_f, ↓brz_t, ↓brz_f, List.getElem?_cons_zero, List.getElem?_cons_succ, List.set_cons_zero, List.set_cons_succ, List.length_cons, List.length_nil, List.map_cons, List.map_nil, List.replicate, List.cons_append, List.nil_append, small, Nat.reduceAdd, Nat.reduceLeDiff, Nat.reduceEqDiff, Int.cast_ofNat_Int, Int.reduceBEq, BEq.rfl, ↓w_Yes, ↓w_bTru, ↓augF_ok, ↓z_Put, ↓putF_ok, ↓putG_ok, ↓w_isNn, ↓w_isNt, wipeF_nil, wipeF_cons, Int.reduceLE, Int.reduceLT, Int.reduceToNat, Int.reducePow, Int.reduceNeg, Int.reduceSub, Int.reduceAdd, Int.reduceMul, decide_true, decide_false, Bool.not_true, Bool.not_false, Bool.bne_false, Bool.bne_true, ↓w_aStar, ↓w_stT, ↓kSt_ok, ↓w_aDef, ↓kDf_ok, ↓w_Cnt, ↓w_Ext, ↓w_isBB, ↓w_isIB, e]
theorem all_any (bs : List Bool) : bs.all id = !bs.any (· == false) := by
  induction bs with
  | nil => rfl
  | cons b bs ih => rw [List.all_cons, List.any_cons, ih]; cases b <;> rfl
/-- one cell -/
theorem turn_w {ns : List Int} {k : Nat} {h : Hq} {x2 x3 x4 x5 x6 x7 x13 : Option D} {I : Fr → Hq → Prop} {Ψ : SR → Prop} (hk : k < 63) (hI : ∀ x2 x3 x4 x5 x6 x7 h1, I [some (.scr ns), some (.int (k : Int)), x2, x3, x4, x5, x6, x7, none, none, none, none, none, x13] h1) :
    Z (L0 [some (.scr ns), some (.int (k : Int)), x2, x3, x4, x5, x6, x7, none, none, none, none, none, x13] h) (kLoop I Ψ) := by
  unfold L0
  simp only [↓w_ok, ↓kB_ok, ↓kI_ok, ↓w_K, ↓w_V, ↓w_vR, ↓w_Op, ↓kO1_ok, ↓kO2_ok, ↓w_Un, ↓w_bOf, ↓w_isB, ↓kBl_ok, ↓kBl_exc, ↓kIf_ok, ↓kIf_exc, ↓w_okB, ↓w_okD, ↓w_bAnd, ↓w_bOr, ↓w_bNot, ↓kNot_ok, ↓kNot_exc, ↓w_eAnd, ↓w_eOr, ↓w_eNot, ↓kNotV_ok, ↓w_eIf, ↓w_aNil, ↓w_aCons, ↓kA1_ok, ↓kA2_ok, ↓kA1_exc, ↓kA2_exc, ↓w_Tup, ↓w_Lst, ↓w_mkT, ↓w_mkL, ↓w_Dct, ↓w_Call, ↓w_goS, ↓w_Bi, ↓w_Isi, ↓w_Cut, ↓kC1_ok, ↓kC2_ok, ↓kC3_ok, ↓w_oNone, ↓w_oSome, ↓w_vO, ↓w_Chain, ↓kCh1_ok, ↓kCh2_ok, ↓kCh3_ok, ↓w_chA, ↓w_App, ↓w_Ins, ↓w_insG, ↓z_nx, ↓z_End, ↓z_Seq, ↓kT_nx, ↓kT_rt, ↓kT_bk, ↓kT_ct, ↓kT_exc, ↓z_If, ↓kIfS_ok, ↓kIfS_exc, ↓z_Ret, ↓kRet_ok, ↓kRet_exc, ↓z_Expr, ↓kNx_ok, ↓kNx_exc, ↓z_Asg, ↓kAs_ok, ↓kAs_exc, ↓z_tgO, t_N, t_T, t_nil, t_cons, t_G, t_gnil, t_gcons, t_bind, ↓z_Par, ↓kPar_ok, ↓z_Raise, ↓z_Break, ↓z_Cont, ↓z_For, ↓kSrc_ok, ↓w_Range, ↓w_rgF, ↓w_SeqI, ↓w_sqT, ↓w_Zip, ↓w_zpT, ↓w_Comp, ↓kCo_ok, ↓w_of, ↓kF_rt, ↓kF_nx, ↓kF_exc, ↓w_add, ↓w_sub, ↓w_pow10, ↓w_neg, ↓w_lt, ↓w_le, ↓w_gt, ↓w_ge, ↓w_ix0, ↓w_ix1, ↓w_ix2, ↓w_ix3, ↓w_eqI, ↓w_eqS, ↓w_eqT2, ↓w_abs, ↓w_lenT, ↓w_lenS, ↓w_max, ↓w_min, ↓w_intT, ↓w_intF, ↓w_isBool, ↓w_isTup, ↓w_tupT, ↓w_listT, ↓w_cutT, ↓brw_t, ↓brw_f, ↓brz_t, ↓brz_f, List.getElem?_cons_zero, List.getElem?_cons_succ, List.set_cons_zero, List.set_cons_succ, List.length_cons, List.length_nil, List.map_cons, List.map_nil, List.replicate, List.cons_append, List.nil_append, small, Nat.reduceAdd, Nat.reduceLeDiff, Nat.reduceEqDiff, Int.cast_ofNat_Int, Int.reduceBEq, BEq.rfl, ↓w_Yes, ↓w_bTru, ↓augF_ok, ↓z_Put, ↓putF_ok, ↓putG_ok, ↓w_isNn, ↓w_isNt, wipeF_nil, wipeF_cons, Int.reduceLE, Int.reduceLT, Int.reduceToNat, Int.reducePow, Int.reduceNeg, Int.reduceSub, Int.reduceAdd, Int.reduceMul, decide_true, decide_false, Bool.not_true, Bool.not_false, Bool.bne_false, Bool.bne_true, ↓w_aStar, ↓w_stT, ↓kSt_ok, ↓w_aDef, ↓kDf_ok, ↓w_Cnt, ↓w_Ext, ↓w_isBB, ↓w_isIB]
  refine pot_w (by omega) fun l P => ?_
  simp only [↓w_ok, ↓kB_ok, ↓kI_ok, ↓w_K, ↓w_V, ↓w_vR, ↓w_Op, ↓kO1_ok, ↓kO2_ok, ↓w_Un, ↓w_bOf, ↓w_isB, ↓kBl_ok, ↓kBl_exc, ↓kIf_ok, ↓kIf_exc, ↓w_okB, ↓w_okD, ↓w_bAnd, ↓w_bOr, ↓w_bNot, ↓kNot_ok, ↓kNot_exc, ↓w_eAnd, ↓w_eOr, ↓w_eNot, ↓kNotV_ok, ↓w_eIf, ↓w_aNil, ↓w_aCons, ↓kA1_ok, ↓kA2_ok, ↓kA1_exc, ↓kA2_exc, ↓w_Tup, ↓w_Lst, ↓w_mkT, ↓w_mkL, ↓w_Dct, ↓w_Call, ↓w_goS, ↓w_Bi, ↓w_Isi, ↓w_Cut, ↓kC1_ok, ↓kC2_ok, ↓kC3_ok, ↓w_oNone, ↓w_oSome, ↓w_vO, ↓w_Chain, ↓kCh1_ok, ↓kCh2_ok, ↓kCh3_ok, ↓w_chA, ↓w_App, ↓w_Ins, ↓w_insG, ↓z_nx, ↓z_End, ↓z_Seq, ↓kT_nx, ↓kT_rt, ↓kT_bk, ↓kT_ct, ↓kT_exc, ↓z_If, ↓kIfS_ok, ↓kIfS_exc, ↓z_Ret, ↓kRet_ok, ↓kRet_exc, ↓z_Expr, ↓kNx_ok, ↓kNx_exc, ↓z_Asg, ↓kAs_ok, ↓kAs_exc, ↓z_tgO, t_N, t_T, t_nil, t_cons, t_G, t_gnil, t_gcons, t_bind, ↓z_Par, ↓kPar_ok, ↓z_Raise, ↓z_Break, ↓z_Cont, ↓z_For, ↓kSrc_ok, ↓w_Range, ↓w_rgF, ↓w_SeqI, ↓w_sqT, ↓w_Zip, ↓w_zpT, ↓w_Comp, ↓kCo_ok, ↓w_of, ↓kF_rt, ↓kF_nx, ↓kF_exc, ↓w_add, ↓w_sub, ↓w_pow10, ↓w_neg, ↓w_lt, ↓w_le, ↓w_gt, ↓w_ge, ↓w_ix0, ↓w_ix1, ↓w_ix2, ↓w_ix3, ↓w_eqI, ↓w_eqS, ↓w_eqT2, ↓w_abs, ↓w_lenT, ↓w_lenS, ↓w_max, ↓w_min, ↓w_intT, ↓w_intF, ↓w_isBool, ↓w_isTup, ↓w_tupT, ↓w_listT, ↓w_cutT, ↓brw_t, ↓brw_f, ↓brz_t, ↓brz_f, List.getElem?_cons_zero, List.getElem?_cons_succ, List.set_cons_zero, List.set_cons_succ, List.length_cons, List.length_nil, List.map_cons, List.map_nil, List.replicate, List.cons_append, List.nil_append, small, Nat.reduceAdd, Nat.reduceLeDiff, Nat.reduceEqDiff, Int.cast_ofNat_Int, Int.reduceBEq, BEq.rfl, ↓w_Yes, ↓w_bTru, ↓augF_ok, ↓z_Put, ↓putF_ok, ↓putG_ok, ↓w_isNn, ↓w_isNt, wipeF_nil, wipeF_cons, Int.reduceLE, Int.reduceLT, Int.reduceToNat, Int.reducePow, Int.reduceNeg, Int.reduceSub, Int.reduceAdd, Int.reduceMul, decide_true, decide_false, Bool.not_true, Bool.not_false, Bool.bne_false, Bool.bne_true, ↓w_aStar, ↓w_stT, ↓kSt_ok, ↓w_aDef, ↓kDf_ok, ↓w_Cnt, ↓w_Ext, ↓w_isBB, ↓w_isIB]
  refine line_w P (by decide) fun ln h1 lk P1 S1 => ?_
  simp only [↓w_ok, ↓kB_ok, ↓kI_ok, ↓w_K, ↓w_V, ↓w_vR, ↓w_Op, ↓kO1_ok, ↓kO2_ok, ↓w_Un, ↓w_bOf, ↓w_isB, ↓kBl_ok, ↓kBl_exc, ↓kIf_ok, ↓kIf_exc, ↓w_okB, ↓w_okD, ↓w_bAnd, ↓w_bOr, ↓w_bNot, ↓kNot_ok, ↓kNot_exc, ↓w_eAnd, ↓w_eOr, ↓w_eNot, ↓kNotV_ok, ↓w_eIf, ↓w_aNil, ↓w_aCons, ↓kA1_ok, ↓kA2_ok, ↓kA1_exc, ↓kA2_exc, ↓w_Tup, ↓w_Lst, ↓w_mkT, ↓w_mkL, ↓w_Dct, ↓w_Call, ↓w_goS, ↓w_Bi, ↓w_Isi, ↓w_Cut, ↓kC1_ok, ↓kC2_ok, ↓kC3_ok, ↓w_oNone, ↓w_oSome, ↓w_vO, ↓w_Chain, ↓kCh1_ok, ↓kCh2_ok, ↓kCh3_ok, ↓w_chA, ↓w_App, ↓w_Ins, ↓w_insG, ↓z_nx, ↓z_End, ↓z_Seq, ↓kT_nx, ↓kT_rt, ↓kT_bk, ↓kT_ct, ↓kT_exc, ↓z_If, ↓kIfS_ok, ↓kIfS_exc, ↓z_Ret, ↓kRet_ok, ↓kRet_exc, ↓z_Expr, ↓kNx_ok, ↓kNx_exc, ↓z_Asg, ↓kAs_ok, ↓kAs_exc, ↓z_tgO, t_N, t_T, t_nil, t_cons, t_G, t_gnil, t_gcons, t_bind, ↓z_Par, ↓kPar_ok, ↓z_Raise, ↓z_Break, ↓z_Cont, ↓z_For, ↓kSrc_ok, ↓w_Range, ↓w_rgF, ↓w_SeqI, ↓w_sqT, ↓w_Zip, ↓w_zpT, ↓w_Comp, ↓kCo_ok, ↓w_of, ↓kF_rt, ↓kF_nx, ↓kF_exc, ↓w_add, ↓w_sub, ↓w_pow10, ↓w_neg, ↓w_lt, ↓w_le, ↓w_gt, ↓w_ge, ↓w_ix0, ↓w_ix1, ↓w_ix2, ↓w_ix3, ↓w_eqI, ↓w_eqS, ↓w_eqT2, ↓w_abs, ↓w_lenT, ↓w_lenS, ↓w_max, ↓w_min, ↓w_intT, ↓w_intF, ↓w_isBool, ↓w_isTup, ↓w_tupT, ↓w_listT, ↓w_cutT, ↓brw_t, ↓brw_f, ↓brz_t, ↓brz_f, List.getElem?_cons_zero, List.getElem?_cons_succ, List.set_cons_zero, List.set_cons_succ, List.length_cons, List.length_nil, List.map_cons, List.map_nil, List.replicate, List.cons_append, List.nil_append, small, Nat.reduceAdd, Nat.reduceLeDiff, Nat.reduceEqDiff, Int.cast_ofNat_Int, Int.reduceBEq, BEq.rfl, ↓w_Yes, ↓w_bTru, ↓augF_ok, ↓z_Put, ↓putF_ok, ↓putG_ok, ↓w_isNn, ↓w_isNt, wipeF_nil, wipeF_cons, Int.reduceLE, Int.reduceLT, Int.reduceToNat, Int.reducePow, Int.reduceNeg, Int.reduceSub, Int.reduceAdd, Int.reduceMul, decide_true, decide_false, Bool.not_true, Bool.not_false, Bool.bne_false, Bool.bne_true, ↓w_aStar, ↓w_stT, ↓kSt_ok, ↓w_aDef, ↓kDf_ok, ↓w_Cnt, ↓w_Ext, ↓w_isBB, ↓w_isIB]
  refine take_w P1 (by omega) (by decide) (by decide) fun i h2 i0 i1 P2 S2 => ?_
  simp only [↓w_ok, ↓kB_ok, ↓kI_ok, ↓w_K, ↓w_V, ↓w_vR, ↓w_Op, ↓kO1_ok, ↓kO2_ok, ↓w_Un, ↓w_bOf, ↓w_isB, ↓kBl_ok, ↓kBl_exc, ↓kIf_ok, ↓kIf_exc, ↓w_okB, ↓w_okD, ↓w_bAnd, ↓w_bOr, ↓w_bNot, ↓kNot_ok, ↓kNot_exc, ↓w_eAnd, ↓w_eOr, ↓w_eNot, ↓kNotV_ok, ↓w_eIf, ↓w_aNil, ↓w_aCons, ↓kA1_ok, ↓kA2_ok, ↓kA1_exc, ↓kA2_exc, ↓w_Tup, ↓w_Lst, ↓w_mkT, ↓w_mkL, ↓w_Dct, ↓w_Call, ↓w_goS, ↓w_Bi, ↓w_Isi, ↓w_Cut, ↓kC1_ok, ↓kC2_ok, ↓kC3_ok, ↓w_oNone, ↓w_oSome, ↓w_vO, ↓w_Chain, ↓kCh1_ok, ↓kCh2_ok, ↓kCh3_ok, ↓w_chA, ↓w_App, ↓w_Ins, ↓w_insG, ↓z_nx, ↓z_End, ↓z_Seq, ↓kT_nx, ↓kT_rt, ↓kT_bk, ↓kT_ct, ↓kT_exc, ↓z_If, ↓kIfS_ok, ↓kIfS_exc, ↓z_Ret, ↓kRet_ok, ↓kRet_exc, ↓z_Expr, ↓kNx_ok, ↓kNx_exc, ↓z_Asg, ↓kAs_ok, ↓kAs_exc, ↓z_tgO, t_N, t_T, t_nil, t_cons, t_G, t_gnil, t_gcons, t_bind, ↓z_Par, ↓kPar_ok, ↓z_Raise, ↓z_Break, ↓z_Cont, ↓z_For, ↓kSrc_ok, ↓w_Range, ↓w_rgF, ↓w_SeqI, ↓w_sqT, ↓w_Zip, ↓w_zpT, ↓w_Comp, ↓kCo_ok, ↓w_of, ↓kF_rt, ↓kF_nx, ↓kF_exc, ↓w_add, ↓w_sub, ↓w_pow10, ↓w_neg, ↓w_lt, ↓w_le, ↓w_gt, ↓w_ge, ↓w_ix0, ↓w_ix1, ↓w_ix2, ↓w_ix3, ↓w_eqI, ↓w_eqS, ↓w_eqT2, ↓w_abs, ↓w_lenT, ↓w_lenS, ↓w_max, ↓w_min, ↓w_intT, ↓w_intF, ↓w_isBool, ↓w_isTup, ↓w_tupT, ↓w_listT, ↓w_cutT, ↓brw_t, ↓brw_f, ↓brz_t, ↓brz_f, List.getElem?_cons_zero, List.getElem?_cons_succ, List.set_cons_zero, List.set_cons_succ, List.length_cons, List.length_nil, List.map_cons, List.map_nil, List.replicate, List.cons_append, List.nil_append, small, Nat.reduceAdd, Nat.reduceLeDiff, Nat.reduceEqDiff, Int.cast_ofNat_Int, Int.reduceBEq, BEq.rfl, ↓w_Yes, ↓w_bTru, ↓augF_ok, ↓z_Put, ↓putF_ok, ↓putG_ok, ↓w_isNn, ↓w_isNt, wipeF_nil, wipeF_cons, Int.reduceLE, Int.reduceLT, Int.reduceToNat, Int.reducePow, Int.reduceNeg, Int.reduceSub, Int.reduceAdd, Int.reduceMul, decide_true, decide_false, Bool.not_true, Bool.not_false, Bool.bne_false, Bool.bne_true, ↓w_aStar, ↓w_stT, ↓kSt_ok, ↓w_aDef, ↓kDf_ok, ↓w_Cnt, ↓w_Ext, ↓w_isBB, ↓w_isIB, w_intB]
  refine take_w (P2.app _) (by omega) (by decide) (by decide) fun j h3 j0 j1 P3 S3 => ?_
  simp only [↓w_ok, ↓kB_ok, ↓kI_ok, ↓w_K, ↓w_V, ↓w_vR, ↓w_Op, ↓kO1_ok, ↓kO2_ok, ↓w_Un, ↓w_bOf, ↓w_isB, ↓kBl_ok, ↓kBl_exc, ↓kIf_ok, ↓kIf_exc, ↓w_okB, ↓w_okD, ↓w_bAnd, ↓w_bOr, ↓w_bNot, ↓kNot_ok, ↓kNot_exc, ↓w_eAnd, ↓w_eOr, ↓w_eNot, ↓kNotV_ok, ↓w_eIf, ↓w_aNil, ↓w_aCons, ↓kA1_ok, ↓kA2_ok, ↓kA1_exc, ↓kA2_exc, ↓w_Tup, ↓w_Lst, ↓w_mkT, ↓w_mkL, ↓w_Dct, ↓w_Call, ↓w_goS, ↓w_Bi, ↓w_Isi, ↓w_Cut, ↓kC1_ok, ↓kC2_ok, ↓kC3_ok, ↓w_oNone, ↓w_oSome, ↓w_vO, ↓w_Chain, ↓kCh1_ok, ↓kCh2_ok, ↓kCh3_ok, ↓w_chA, ↓w_App, ↓w_Ins, ↓w_insG, ↓z_nx, ↓z_End, ↓z_Seq, ↓kT_nx, ↓kT_rt, ↓kT_bk, ↓kT_ct, ↓kT_exc, ↓z_If, ↓kIfS_ok, ↓kIfS_exc, ↓z_Ret, ↓kRet_ok, ↓kRet_exc, ↓z_Expr, ↓kNx_ok, ↓kNx_exc, ↓z_Asg, ↓kAs_ok, ↓kAs_exc, ↓z_tgO, t_N, t_T, t_nil, t_cons, t_G, t_gnil, t_gcons, t_bind, ↓z_Par, ↓kPar_ok, ↓z_Raise, ↓z_Break, ↓z_Cont, ↓z_For, ↓kSrc_ok, ↓w_Range, ↓w_rgF, ↓w_SeqI, ↓w_sqT, ↓w_Zip, ↓w_zpT, ↓w_Comp, ↓kCo_ok, ↓w_of, ↓kF_rt, ↓kF_nx, ↓kF_exc, ↓w_add, ↓w_sub, ↓w_pow10, ↓w_neg, ↓w_lt, ↓w_le, ↓w_gt, ↓w_ge, ↓w_ix0, ↓w_ix1, ↓w_ix2, ↓w_ix3, ↓w_eqI, ↓w_eqS, ↓w_eqT2, ↓w_abs, ↓w_lenT, ↓w_lenS, ↓w_max, ↓w_min, ↓w_intT, ↓w_intF, ↓w_isBool, ↓w_isTup, ↓w_tupT, ↓w_listT, ↓w_cutT, ↓brw_t, ↓brw_f, ↓brz_t, ↓brz_f, List.getElem?_cons_zero, List.getElem?_cons_succ, List.set_cons_zero, List.set_cons_succ, List.length_cons, List.length_nil, List.map_cons, List.map_nil, List.replicate, List.cons_append, List.nil_append, small, Nat.reduceAdd, Nat.reduceLeDiff, Nat.reduceEqDiff, Int.cast_ofNat_Int, Int.reduceBEq, BEq.rfl, ↓w_Yes, ↓w_bTru, ↓augF_ok, ↓z_Put, ↓putF_ok, ↓putG_ok, ↓w_isNn, ↓w_isNt, wipeF_nil, wipeF_cons, Int.reduceLE, Int.reduceLT, Int.reduceToNat, Int.reducePow, Int.reduceNeg, Int.reduceSub, Int.reduceAdd, Int.reduceMul, decide_true, decide_false, Bool.not_true, Bool.not_false, Bool.bne_false, Bool.bne_true, ↓w_aStar, ↓w_stT, ↓kSt_ok, ↓w_aDef, ↓kDf_ok, ↓w_Cnt, ↓w_Ext, ↓w_isBB, ↓w_isIB, w_intB]
  have np : h2.length ≠ h.length := by have := P2.lt; omega
  have l3 := S3.lst np (lst_new h2 _)
  obtain ⟨u, hu, u0, u1⟩ : ∃ u : Int, (if (j == 0) = true then 1 else 0) = u ∧ 0 ≤ u ∧ u < 2 := ⟨_, rfl, by split <;> omega, by split <;> omega⟩
  rw [hu]
  refine w_ixP (intIn 1 1000000) l3 u0 (by simpa using u1) (by simp [intIn]) ?_
  rintro _ ⟨top, rfl, t0, t1⟩
  simp only [↓w_ok, ↓kB_ok, ↓kI_ok, ↓w_K, ↓w_V, ↓w_vR, ↓w_Op, ↓kO1_ok, ↓kO2_ok, ↓w_Un, ↓w_bOf, ↓w_isB, ↓kBl_ok, ↓kBl_exc, ↓kIf_ok, ↓kIf_exc, ↓w_okB, ↓w_okD, ↓w_bAnd, ↓w_bOr, ↓w_bNot, ↓kNot_ok, ↓kNot_exc, ↓w_eAnd, ↓w_eOr, ↓w_eNot, ↓kNotV_ok, ↓w_eIf, ↓w_aNil, ↓w_aCons, ↓kA1_ok, ↓kA2_ok, ↓kA1_exc, ↓kA2_exc, ↓w_Tup, ↓w_Lst, ↓w_mkT, ↓w_mkL, ↓w_Dct, ↓w_Call, ↓w_goS, ↓w_Bi, ↓w_Isi, ↓w_Cut, ↓kC1_ok, ↓kC2_ok, ↓kC3_ok, ↓w_oNone, ↓w_oSome, ↓w_vO, ↓w_Chain, ↓kCh1_ok, ↓kCh2_ok, ↓kCh3_ok, ↓w_chA, ↓w_App, ↓w_Ins, ↓w_insG, ↓z_nx, ↓z_End, ↓z_Seq, ↓kT_nx, ↓kT_rt, ↓kT_bk, ↓kT_ct, ↓kT_exc, ↓z_If, ↓kIfS_ok, ↓kIfS_exc, ↓z_Ret, ↓kRet_ok, ↓kRet_exc, ↓z_Expr, ↓kNx_ok, ↓kNx_exc, ↓z_Asg, ↓kAs_ok, ↓kAs_exc, ↓z_tgO, t_N, t_T, t_nil, t_cons, t_G, t_gnil, t_gcons, t_bind, ↓z_Par, ↓kPar_ok, ↓z_Raise, ↓z_Break, ↓z_Cont, ↓z_For, ↓kSrc_ok, ↓w_Range, ↓w_rgF, ↓w_SeqI, ↓w_sqT, ↓w_Zip, ↓w_zpT, ↓w_Comp, ↓kCo_ok, ↓w_of, ↓kF_rt, ↓kF_nx, ↓kF_exc, ↓w_add, ↓w_sub, ↓w_pow10, ↓w_neg, ↓w_lt, ↓w_le, ↓w_gt, ↓w_ge, ↓w_ix0, ↓w_ix1, ↓w_ix2, ↓w_ix3, ↓w_eqI, ↓w_eqS, ↓w_eqT2, ↓w_abs, ↓w_lenT, ↓w_lenS, ↓w_max, ↓w_min, ↓w_intT, ↓w_intF, ↓w_isBool, ↓w_isTup, ↓w_tupT, ↓w_listT, ↓w_cutT, ↓brw_t, ↓brw_f, ↓brz_t, ↓brz_f, List.getElem?_cons_zero, List.getElem?_cons_succ, List.set_cons_zero, List.set_cons_succ, List.length_cons, List.length_nil, List.map_cons, List.map_nil, List.replicate, List.cons_append, List.nil_append, small, Nat.reduceAdd, Nat.reduceLeDiff, Nat.reduceEqDiff, Int.cast_ofNat_Int, Int.reduceBEq, BEq.rfl, ↓w_Yes, ↓w_bTru, ↓augF_ok, ↓z_Put, ↓putF_ok, ↓putG_ok, ↓w_isNn, ↓w_isNt, wipeF_nil, wipeF_cons, Int.reduceLE, Int.reduceLT, Int.reduceToNat, Int.reducePow, Int.reduceNeg, Int.reduceSub, Int.reduceAdd, Int.reduceMul, decide_true, decide_false, Bool.not_true, Bool.not_false, Bool.bne_false, Bool.bne_true, ↓w_aStar, ↓w_stT, ↓kSt_ok, ↓w_aDef, ↓kDf_ok, ↓w_Cnt, ↓w_Ext, ↓w_isBB, ↓w_isIB]
  refine spell_w P3 (by omega) t0 t1 fun s h4 sk P4 S4 => ?_
  simp only [↓w_ok, ↓kB_ok, ↓kI_ok, ↓w_K, ↓w_V, ↓w_vR, ↓w_Op, ↓kO1_ok, ↓kO2_ok, ↓w_Un, ↓w_bOf, ↓w_isB, ↓kBl_ok, ↓kBl_exc, ↓kIf_ok, ↓kIf_exc, ↓w_okB, ↓w_okD, ↓w_bAnd, ↓w_bOr, ↓w_bNot, ↓kNot_ok, ↓kNot_exc, ↓w_eAnd, ↓w_eOr, ↓w_eNot, ↓kNotV_ok, ↓w_eIf, ↓w_aNil, ↓w_aCons, ↓kA1_ok, ↓kA2_ok, ↓kA1_exc, ↓kA2_exc, ↓w_Tup, ↓w_Lst, ↓w_mkT, ↓w_mkL, ↓w_Dct, ↓w_Call, ↓w_goS, ↓w_Bi, ↓w_Isi, ↓w_Cut, ↓kC1_ok, ↓kC2_ok, ↓kC3_ok, ↓w_oNone, ↓w_oSome, ↓w_vO, ↓w_Chain, ↓kCh1_ok, ↓kCh2_ok, ↓kCh3_ok, ↓w_chA, ↓w_App, ↓w_Ins, ↓w_insG, ↓z_nx, ↓z_End, ↓z_Seq, ↓kT_nx, ↓kT_rt, ↓kT_bk, ↓kT_ct, ↓kT_exc, ↓z_If, ↓kIfS_ok, ↓kIfS_exc, ↓z_Ret, ↓kRet_ok, ↓kRet_exc, ↓z_Expr, ↓kNx_ok, ↓kNx_exc, ↓z_Asg, ↓kAs_ok, ↓kAs_exc, ↓z_tgO, t_N, t_T, t_nil, t_cons, t_G, t_gnil, t_gcons, t_bind, ↓z_Par, ↓kPar_ok, ↓z_Raise, ↓z_Break, ↓z_Cont, ↓z_For, ↓kSrc_ok, ↓w_Range, ↓w_rgF, ↓w_SeqI, ↓w_sqT, ↓w_Zip, ↓w_zpT, ↓w_Comp, ↓kCo_ok, ↓w_of, ↓kF_rt, ↓kF_nx, ↓kF_exc, ↓w_add, ↓w_sub, ↓w_pow10, ↓w_neg, ↓w_lt, ↓w_le, ↓w_gt, ↓w_ge, ↓w_ix0, ↓w_ix1, ↓w_ix2, ↓w_ix3, ↓w_eqI, ↓w_eqS, ↓w_eqT2, ↓w_abs, ↓w_lenT, ↓w_lenS, ↓w_max, ↓w_min, ↓w_intT, ↓w_intF, ↓w_isBool, ↓w_isTup, ↓w_tupT, ↓w_listT, ↓w_cutT, ↓brw_t, ↓brw_f, ↓brz_t, ↓brz_f, List.getElem?_cons_zero, List.getElem?_cons_succ, List.set_cons_zero, List.set_cons_succ, List.length_cons, List.length_nil, List.map_cons, List.map_nil, List.replicate, List.cons_append, List.nil_append, small, Nat.reduceAdd, Nat.reduceLeDiff, Nat.reduceEqDiff, Int.cast_ofNat_Int, Int.reduceBEq, BEq.rfl, ↓w_Yes, ↓w_bTru, ↓augF_ok, ↓z_Put, ↓putF_ok, ↓putG_ok, ↓w_isNn, ↓w_isNt, wipeF_nil, wipeF_cons, Int.reduceLE, Int.reduceLT, Int.reduceToNat, Int.reducePow, Int.reduceNeg, Int.reduceSub, Int.reduceAdd, Int.reduceMul, decide_true, decide_false, Bool.not_true, Bool.not_false, Bool.bne_false, Bool.bne_true, ↓w_aStar, ↓w_stT, ↓kSt_ok, ↓w_aDef, ↓kDf_ok, ↓w_Cnt, ↓w_Ext, ↓w_isBB, ↓w_isIB]
  refine moment2_w P4 (by omega) (by decide) (by decide) fun t h5 ft ta tb P5 S5 => ?_
  have mt := mom_of (by decide) ft.pos ta tb
  simp only [↓w_ok, ↓kB_ok, ↓kI_ok, ↓w_K, ↓w_V, ↓w_vR, ↓w_Op, ↓kO1_ok, ↓kO2_ok, ↓w_Un, ↓w_bOf, ↓w_isB, ↓kBl_ok, ↓kBl_exc, ↓kIf_ok, ↓kIf_exc, ↓w_okB, ↓w_okD, ↓w_bAnd, ↓w_bOr, ↓w_bNot, ↓kNot_ok, ↓kNot_exc, ↓w_eAnd, ↓w_eOr, ↓w_eNot, ↓kNotV_ok, ↓w_eIf, ↓w_aNil, ↓w_aCons, ↓kA1_ok, ↓kA2_ok, ↓kA1_exc, ↓kA2_exc, ↓w_Tup, ↓w_Lst, ↓w_mkT, ↓w_mkL, ↓w_Dct, ↓w_Call, ↓w_goS, ↓w_Bi, ↓w_Isi, ↓w_Cut, ↓kC1_ok, ↓kC2_ok, ↓kC3_ok, ↓w_oNone, ↓w_oSome, ↓w_vO, ↓w_Chain, ↓kCh1_ok, ↓kCh2_ok, ↓kCh3_ok, ↓w_chA, ↓w_App, ↓w_Ins, ↓w_insG, ↓z_nx, ↓z_End, ↓z_Seq, ↓kT_nx, ↓kT_rt, ↓kT_bk, ↓kT_ct, ↓kT_exc, ↓z_If, ↓kIfS_ok, ↓kIfS_exc, ↓z_Ret, ↓kRet_ok, ↓kRet_exc, ↓z_Expr, ↓kNx_ok, ↓kNx_exc, ↓z_Asg, ↓kAs_ok, ↓kAs_exc, ↓z_tgO, t_N, t_T, t_nil, t_cons, t_G, t_gnil, t_gcons, t_bind, ↓z_Par, ↓kPar_ok, ↓z_Raise, ↓z_Break, ↓z_Cont, ↓z_For, ↓kSrc_ok, ↓w_Range, ↓w_rgF, ↓w_SeqI, ↓w_sqT, ↓w_Zip, ↓w_zpT, ↓w_Comp, ↓kCo_ok, ↓w_of, ↓kF_rt, ↓kF_nx, ↓kF_exc, ↓w_add, ↓w_sub, ↓w_pow10, ↓w_neg, ↓w_lt, ↓w_le, ↓w_gt, ↓w_ge, ↓w_ix0, ↓w_ix1, ↓w_ix2, ↓w_ix3, ↓w_eqI, ↓w_eqS, ↓w_eqT2, ↓w_abs, ↓w_lenT, ↓w_lenS, ↓w_max, ↓w_min, ↓w_intT, ↓w_intF, ↓w_isBool, ↓w_isTup, ↓w_tupT, ↓w_listT, ↓w_cutT, ↓brw_t, ↓brw_f, ↓brz_t, ↓brz_f, List.getElem?_cons_zero, List.getElem?_cons_succ, List.set_cons_zero, List.set_cons_succ, List.length_cons, List.length_nil, List.map_cons, List.map_nil, List.replicate, List.cons_append, List.nil_append, small, Nat.reduceAdd, Nat.reduceLeDiff, Nat.reduceEqDiff, Int.cast_ofNat_Int, Int.reduceBEq, BEq.rfl, ↓w_Yes, ↓w_bTru, ↓augF_ok, ↓z_Put, ↓putF_ok, ↓putG_ok, ↓w_isNn, ↓w_isNt, wipeF_nil, wipeF_cons, Int.reduceLE, Int.reduceLT, Int.reduceToNat, Int.reducePow, Int.reduceNeg, Int.reduceSub, Int.reduceAdd, Int.reduceMul, decide_true, decide_false, Bool.not_true, Bool.not_false, Bool.bne_false, Bool.bne_true, ↓w_aStar, ↓w_stT, ↓kSt_ok, ↓w_aDef, ↓kDf_ok, ↓w_Cnt, ↓w_Ext, ↓w_isBB, ↓w_isIB]
  refine worth_w lk ft mt (by decide) fun h6 g6 => ?_
  have wb : Bq 460 (wth ln t) := by
    have f := lowQ_ok (B := 460) (x := ln.a.1 * ln.b.2 * t.2 + ln.b.1 * t.1 * ln.a.2) (y := ln.a.2 * ln.b.2 * t.2) (Int.mul_pos (Int.mul_pos (by have := lk.fa.pos; omega) (by have := lk.fb.pos; omega)) (by have := ft.pos; omega))
      ((((lk.fa.b1.mul lk.fb.b2).mul ft.b2).add ((lk.fb.b1.mul ft.b1).mul lk.fa.b2)).mono (by decide)) (((lk.fa.b2.mul lk.fb.b2).mul ft.b2).mono (by decide))
    exact f.bq
  simp only [↓w_ok, ↓kB_ok, ↓kI_ok, ↓w_K, ↓w_V, ↓w_vR, ↓w_Op, ↓kO1_ok, ↓kO2_ok, ↓w_Un, ↓w_bOf, ↓w_isB, ↓kBl_ok, ↓kBl_exc, ↓kIf_ok, ↓kIf_exc, ↓w_okB, ↓w_okD, ↓w_bAnd, ↓w_bOr, ↓w_bNot, ↓kNot_ok, ↓kNot_exc, ↓w_eAnd, ↓w_eOr, ↓w_eNot, ↓kNotV_ok, ↓w_eIf, ↓w_aNil, ↓w_aCons, ↓kA1_ok, ↓kA2_ok, ↓kA1_exc, ↓kA2_exc, ↓w_Tup, ↓w_Lst, ↓w_mkT, ↓w_mkL, ↓w_Dct, ↓w_Call, ↓w_goS, ↓w_Bi, ↓w_Isi, ↓w_Cut, ↓kC1_ok, ↓kC2_ok, ↓kC3_ok, ↓w_oNone, ↓w_oSome, ↓w_vO, ↓w_Chain, ↓kCh1_ok, ↓kCh2_ok, ↓kCh3_ok, ↓w_chA, ↓w_App, ↓w_Ins, ↓w_insG, ↓z_nx, ↓z_End, ↓z_Seq, ↓kT_nx, ↓kT_rt, ↓kT_bk, ↓kT_ct, ↓kT_exc, ↓z_If, ↓kIfS_ok, ↓kIfS_exc, ↓z_Ret, ↓kRet_ok, ↓kRet_exc, ↓z_Expr, ↓kNx_ok, ↓kNx_exc, ↓z_Asg, ↓kAs_ok, ↓kAs_exc, ↓z_tgO, t_N, t_T, t_nil, t_cons, t_G, t_gnil, t_gcons, t_bind, ↓z_Par, ↓kPar_ok, ↓z_Raise, ↓z_Break, ↓z_Cont, ↓z_For, ↓kSrc_ok, ↓w_Range, ↓w_rgF, ↓w_SeqI, ↓w_sqT, ↓w_Zip, ↓w_zpT, ↓w_Comp, ↓kCo_ok, ↓w_of, ↓kF_rt, ↓kF_nx, ↓kF_exc, ↓w_add, ↓w_sub, ↓w_pow10, ↓w_neg, ↓w_lt, ↓w_le, ↓w_gt, ↓w_ge, ↓w_ix0, ↓w_ix1, ↓w_ix2, ↓w_ix3, ↓w_eqI, ↓w_eqS, ↓w_eqT2, ↓w_abs, ↓w_lenT, ↓w_lenS, ↓w_max, ↓w_min, ↓w_intT, ↓w_intF, ↓w_isBool, ↓w_isTup, ↓w_tupT, ↓w_listT, ↓w_cutT, ↓brw_t, ↓brw_f, ↓brz_t, ↓brz_f, List.getElem?_cons_zero, List.getElem?_cons_succ, List.set_cons_zero, List.set_cons_succ, List.length_cons, List.length_nil, List.map_cons, List.map_nil, List.replicate, List.cons_append, List.nil_append, small, Nat.reduceAdd, Nat.reduceLeDiff, Nat.reduceEqDiff, Int.cast_ofNat_Int, Int.reduceBEq, BEq.rfl, ↓w_Yes, ↓w_bTru, ↓augF_ok, ↓z_Put, ↓putF_ok, ↓putG_ok, ↓w_isNn, ↓w_isNt, wipeF_nil, wipeF_cons, Int.reduceLE, Int.reduceLT, Int.reduceToNat, Int.reducePow, Int.reduceNeg, Int.reduceSub, Int.reduceAdd, Int.reduceMul, decide_true, decide_false, Bool.not_true, Bool.not_false, Bool.bne_false, Bool.bne_true, ↓w_aStar, ↓w_stT, ↓kSt_ok, ↓w_aDef, ↓kDf_ok, ↓w_Cnt, ↓w_Ext, ↓w_isBB, ↓w_isIB, repr_q wb (by decide)]
  refine lworth_w lk ft (by decide) ?_
  simp only [↓w_ok, ↓kB_ok, ↓kI_ok, ↓w_K, ↓w_V, ↓w_vR, ↓w_Op, ↓kO1_ok, ↓kO2_ok, ↓w_Un, ↓w_bOf, ↓w_isB, ↓kBl_ok, ↓kBl_exc, ↓kIf_ok, ↓kIf_exc, ↓w_okB, ↓w_okD, ↓w_bAnd, ↓w_bOr, ↓w_bNot, ↓kNot_ok, ↓kNot_exc, ↓w_eAnd, ↓w_eOr, ↓w_eNot, ↓kNotV_ok, ↓w_eIf, ↓w_aNil, ↓w_aCons, ↓kA1_ok, ↓kA2_ok, ↓kA1_exc, ↓kA2_exc, ↓w_Tup, ↓w_Lst, ↓w_mkT, ↓w_mkL, ↓w_Dct, ↓w_Call, ↓w_goS, ↓w_Bi, ↓w_Isi, ↓w_Cut, ↓kC1_ok, ↓kC2_ok, ↓kC3_ok, ↓w_oNone, ↓w_oSome, ↓w_vO, ↓w_Chain, ↓kCh1_ok, ↓kCh2_ok, ↓kCh3_ok, ↓w_chA, ↓w_App, ↓w_Ins, ↓w_insG, ↓z_nx, ↓z_End, ↓z_Seq, ↓kT_nx, ↓kT_rt, ↓kT_bk, ↓kT_ct, ↓kT_exc, ↓z_If, ↓kIfS_ok, ↓kIfS_exc, ↓z_Ret, ↓kRet_ok, ↓kRet_exc, ↓z_Expr, ↓kNx_ok, ↓kNx_exc, ↓z_Asg, ↓kAs_ok, ↓kAs_exc, ↓z_tgO, t_N, t_T, t_nil, t_cons, t_G, t_gnil, t_gcons, t_bind, ↓z_Par, ↓kPar_ok, ↓z_Raise, ↓z_Break, ↓z_Cont, ↓z_For, ↓kSrc_ok, ↓w_Range, ↓w_rgF, ↓w_SeqI, ↓w_sqT, ↓w_Zip, ↓w_zpT, ↓w_Comp, ↓kCo_ok, ↓w_of, ↓kF_rt, ↓kF_nx, ↓kF_exc, ↓w_add, ↓w_sub, ↓w_pow10, ↓w_neg, ↓w_lt, ↓w_le, ↓w_gt, ↓w_ge, ↓w_ix0, ↓w_ix1, ↓w_ix2, ↓w_ix3, ↓w_eqI, ↓w_eqS, ↓w_eqT2, ↓w_abs, ↓w_lenT, ↓w_lenS, ↓w_max, ↓w_min, ↓w_intT, ↓w_intF, ↓w_isBool, ↓w_isTup, ↓w_tupT, ↓w_listT, ↓w_cutT, ↓brw_t, ↓brw_f, ↓brz_t, ↓brz_f, List.getElem?_cons_zero, List.getElem?_cons_succ, List.set_cons_zero, List.set_cons_succ, List.length_cons, List.length_nil, List.map_cons, List.map_nil, List.replicate, List.cons_append, List.nil_append, small, Nat.reduceAdd, Nat.reduceLeDiff, Nat.reduceEqDiff, Int.cast_ofNat_Int, Int.reduceBEq, BEq.rfl, ↓w_Yes, ↓w_bTru, ↓augF_ok, ↓z_Put, ↓putF_ok, ↓putG_ok, ↓w_isNn, ↓w_isNt, wipeF_nil, wipeF_cons, Int.reduceLE, Int.reduceLT, Int.reduceToNat, Int.reducePow, Int.reduceNeg, Int.reduceSub, Int.reduceAdd, Int.reduceMul, decide_true, decide_false, Bool.not_true, Bool.not_false, Bool.bne_false, Bool.bne_true, ↓w_aStar, ↓w_stT, ↓kSt_ok, ↓w_aDef, ↓kDf_ok, ↓w_Cnt, ↓w_Ext, ↓w_isBB, ↓w_isIB, repr_q wb (by decide)]
  have P6 := g6.pot P5
  refine roots_w (cs := [(ln, i == 0)]) (lst_new h6 _) (fun c hc => by rw [List.mem_singleton.mp hc]; exact lk) (by decide) (by simp) fun h7 g7 len7 l7 => ?_
  simp only [↓w_ok, ↓kB_ok, ↓kI_ok, ↓w_K, ↓w_V, ↓w_vR, ↓w_Op, ↓kO1_ok, ↓kO2_ok, ↓w_Un, ↓w_bOf, ↓w_isB, ↓kBl_ok, ↓kBl_exc, ↓kIf_ok, ↓kIf_exc, ↓w_okB, ↓w_okD, ↓w_bAnd, ↓w_bOr, ↓w_bNot, ↓kNot_ok, ↓kNot_exc, ↓w_eAnd, ↓w_eOr, ↓w_eNot, ↓kNotV_ok, ↓w_eIf, ↓w_aNil, ↓w_aCons, ↓kA1_ok, ↓kA2_ok, ↓kA1_exc, ↓kA2_exc, ↓w_Tup, ↓w_Lst, ↓w_mkT, ↓w_mkL, ↓w_Dct, ↓w_Call, ↓w_goS, ↓w_Bi, ↓w_Isi, ↓w_Cut, ↓kC1_ok, ↓kC2_ok, ↓kC3_ok, ↓w_oNone, ↓w_oSome, ↓w_vO, ↓w_Chain, ↓kCh1_ok, ↓kCh2_ok, ↓kCh3_ok, ↓w_chA, ↓w_App, ↓w_Ins, ↓w_insG, ↓z_nx, ↓z_End, ↓z_Seq, ↓kT_nx, ↓kT_rt, ↓kT_bk, ↓kT_ct, ↓kT_exc, ↓z_If, ↓kIfS_ok, ↓kIfS_exc, ↓z_Ret, ↓kRet_ok, ↓kRet_exc, ↓z_Expr, ↓kNx_ok, ↓kNx_exc, ↓z_Asg, ↓kAs_ok, ↓kAs_exc, ↓z_tgO, t_N, t_T, t_nil, t_cons, t_G, t_gnil, t_gcons, t_bind, ↓z_Par, ↓kPar_ok, ↓z_Raise, ↓z_Break, ↓z_Cont, ↓z_For, ↓kSrc_ok, ↓w_Range, ↓w_rgF, ↓w_SeqI, ↓w_sqT, ↓w_Zip, ↓w_zpT, ↓w_Comp, ↓kCo_ok, ↓w_of, ↓kF_rt, ↓kF_nx, ↓kF_exc, ↓w_add, ↓w_sub, ↓w_pow10, ↓w_neg, ↓w_lt, ↓w_le, ↓w_gt, ↓w_ge, ↓w_ix0, ↓w_ix1, ↓w_ix2, ↓w_ix3, ↓w_eqI, ↓w_eqS, ↓w_eqT2, ↓w_abs, ↓w_lenT, ↓w_lenS, ↓w_max, ↓w_min, ↓w_intT, ↓w_intF, ↓w_isBool, ↓w_isTup, ↓w_tupT, ↓w_listT, ↓w_cutT, ↓brw_t, ↓brw_f, ↓brz_t, ↓brz_f, List.getElem?_cons_zero, List.getElem?_cons_succ, List.set_cons_zero, List.set_cons_succ, List.length_cons, List.length_nil, List.map_cons, List.map_nil, List.replicate, List.cons_append, List.nil_append, small, Nat.reduceAdd, Nat.reduceLeDiff, Nat.reduceEqDiff, Int.cast_ofNat_Int, Int.reduceBEq, BEq.rfl, ↓w_Yes, ↓w_bTru, ↓augF_ok, ↓z_Put, ↓putF_ok, ↓putG_ok, ↓w_isNn, ↓w_isNt, wipeF_nil, wipeF_cons, Int.reduceLE, Int.reduceLT, Int.reduceToNat, Int.reducePow, Int.reduceNeg, Int.reduceSub, Int.reduceAdd, Int.reduceMul, decide_true, decide_false, Bool.not_true, Bool.not_false, Bool.bne_false, Bool.bne_true, ↓w_aStar, ↓w_stT, ↓kSt_ok, ↓w_aDef, ↓kDf_ok, ↓w_Cnt, ↓w_Ext, ↓w_isBB, ↓w_isIB]
  have P7 := g7.pot (P6.app _)
  generalize (h6 ++ [Cell.lst [D.tup [dln ln, D.bl (i == 0)]]]).length = r7 at *
  -- what stands behind the choice of the spell
  have rest : ∀ (s : Spl) (h8 : Hq), SpOk 301 s → lstAt h8 r7 = some ((([(ln, i == 0)] : List Cn).filterMap fun c => rootOf c.1).map dq) →
      kT (sSeq (sAsg (eComp (iSeq (eCall 2 S__law_marks (aCons (eV 4) (aCons (eV 6) (aNil))))) [13] (tgN 13) (cYes) (eCall 2 S__law_holds_at (aCons (eV 3) (aCons (eV 13) (aNil))))) (tgN 7)) (sSeq (sIf (bNot (bOf (eCall 2 f_law_truth (aCons (eCall 2 S_holds_through (aCons (eV 3) (aCons (eV 4) (aNil)))) (aCons (eOp (dIn true) (eK (.bl false)) (eV 7)) (aNil)))))) (sSeq (sRet (eK (.bl false))) (sEnd)) (sEnd)) (sSeq (sIf (bNot (bOf (eCall 2 f_law_truth (aCons (eCall 2 S_fails_through (aCons (eV 3) (aCons (eV 4) (aNil)))) (aCons (eOp (dIn true) (eK (.bl true)) (eV 7)) (aNil)))))) (sSeq (sRet (eK (.bl false))) (sEnd)) (sEnd)) (sEnd))))
        (kLoop I Ψ) (.nx [some (.scr ns), some (.int (k : Int)), some (.ref h.length), some (dcn (ln, i == 0)), some (dsp s), some (dq t), some (.ref r7), x7, none, none, none, none, none, x13] h8) := by
    intro s h8 sk l8
    have lk8 : LnOk 602 ln := ⟨lk.fa.mono (by decide), lk.fb.mono (by decide)⟩
    simp only [↓w_ok, ↓kB_ok, ↓kI_ok, ↓w_K, ↓w_V, ↓w_vR, ↓w_Op, ↓kO1_ok, ↓kO2_ok, ↓w_Un, ↓w_bOf, ↓w_isB, ↓kBl_ok, ↓kBl_exc, ↓kIf_ok, ↓kIf_exc, ↓w_okB, ↓w_okD, ↓w_bAnd, ↓w_bOr, ↓w_bNot, ↓kNot_ok, ↓kNot_exc, ↓w_eAnd, ↓w_eOr, ↓w_eNot, ↓kNotV_ok, ↓w_eIf, ↓w_aNil, ↓w_aCons, ↓kA1_ok, ↓kA2_ok, ↓kA1_exc, ↓kA2_exc, ↓w_Tup, ↓w_Lst, ↓w_mkT, ↓w_mkL, ↓w_Dct, ↓w_Call, ↓w_goS, ↓w_Bi, ↓w_Isi, ↓w_Cut, ↓kC1_ok, ↓kC2_ok, ↓kC3_ok, ↓w_oNone, ↓w_oSome, ↓w_vO, ↓w_Chain, ↓kCh1_ok, ↓kCh2_ok, ↓kCh3_ok, ↓w_chA, ↓w_App, ↓w_Ins, ↓w_insG, ↓z_nx, ↓z_End, ↓z_Seq, ↓kT_nx, ↓kT_rt, ↓kT_bk, ↓kT_ct, ↓kT_exc, ↓z_If, ↓kIfS_ok, ↓kIfS_exc, ↓z_Ret, ↓kRet_ok, ↓kRet_exc, ↓z_Expr, ↓kNx_ok, ↓kNx_exc, ↓z_Asg, ↓kAs_ok, ↓kAs_exc, ↓z_tgO, t_N, t_T, t_nil, t_cons, t_G, t_gnil, t_gcons, t_bind, ↓z_Par, ↓kPar_ok, ↓z_Raise, ↓z_Break, ↓z_Cont, ↓z_For, ↓kSrc_ok, ↓w_Range, ↓w_rgF, ↓w_SeqI, ↓w_sqT, ↓w_Zip, ↓w_zpT, ↓w_Comp, ↓kCo_ok, ↓w_of, ↓kF_rt, ↓kF_nx, ↓kF_exc, ↓w_add, ↓w_sub, ↓w_pow10, ↓w_neg, ↓w_lt, ↓w_le, ↓w_gt, ↓w_ge, ↓w_ix0, ↓w_ix1, ↓w_ix2, ↓w_ix3, ↓w_eqI, ↓w_eqS, ↓w_eqT2, ↓w_abs, ↓w_lenT, ↓w_lenS, ↓w_max, ↓w_min, ↓w_intT, ↓w_intF, ↓w_isBool, ↓w_isTup, ↓w_tupT, ↓w_listT, ↓w_cutT, ↓brw_t, ↓brw_f, ↓brz_t, ↓brz_f, List.getElem?_cons_zero, List.getElem?_cons_succ, List.set_cons_zero, List.set_cons_succ, List.length_cons, List.length_nil, List.map_cons, List.map_nil, List.replicate, List.cons_append, List.nil_append, small, Nat.reduceAdd, Nat.reduceLeDiff, Nat.reduceEqDiff, Int.cast_ofNat_Int, Int.reduceBEq, BEq.rfl, ↓w_Yes, ↓w_bTru, ↓augF_ok, ↓z_Put, ↓putF_ok, ↓putG_ok, ↓w_isNn, ↓w_isNt, wipeF_nil, wipeF_cons, Int.reduceLE, Int.reduceLT, Int.reduceToNat, Int.reducePow, Int.reduceNeg, Int.reduceSub, Int.reduceAdd, Int.reduceMul, decide_true, decide_false, Bool.not_true, Bool.not_false, Bool.bne_false, Bool.bne_true, ↓w_aStar, ↓w_stT, ↓kSt_ok, ↓w_aDef, ↓kDf_ok, ↓w_Cnt, ↓w_Ext, ↓w_isBB, ↓w_isIB]
    have hroot : ∀ q ∈ ([(ln, i == 0)] : List Cn).filterMap (fun c => rootOf c.1), Fq 301 q ∧ lv ln.x ln.y q = 0 ∧ ln.y ≠ 0 := fun q hq => by
      obtain ⟨c, hc, e⟩ := List.mem_filterMap.mp hq
      rw [List.mem_singleton.mp hc] at e
      exact root_ok lk e
    have hone : (([(ln, i == 0)] : List Cn).filterMap fun c => rootOf c.1).length ≤ 1 := List.length_filterMap_le _ _
    have hex : ln.y ≠ 0 → ([(ln, i == 0)] : List Cn).filterMap (fun c => rootOf c.1) ≠ [] := fun hy => by
      unfold rootOf
      by_cases h0 : 0 < ln.y <;> simp [hy, h0]
    generalize ([(ln, i == 0)] : List Cn).filterMap (fun c => rootOf c.1) = rs at *
    refine marks_w (B := 301) (by decide) sk.fb sk.fe (fun q hq => (hroot q hq).1) (by omega) l8 fun mid n9 h9 g9 n9l l9 ml pt fP => ?_
    have hM : ∀ q ∈ mks s (ptl s mid), Fq 604 q := fun q hq => by
      unfold mks mids at hq
      rcases List.mem_append.mp hq with hq | hq
      · exact (fP q (List.mem_filter.mp hq).1).mono (by decide)
      · obtain ⟨z, hz, rfl⟩ := List.mem_map.mp hq
        obtain ⟨z1, z2⟩ := z
        have hz' := List.of_mem_zip hz
        exact mdl_ok (fP z1 hz'.1) (fP z2 (List.mem_of_mem_drop hz'.2))
    have agree := fun ab => through_all (ab := ab) sk (fun q hq => ⟨(hroot q hq).1.pos, (hroot q hq).2⟩) hone hex pt ml
    have lM : (mks s (ptl s mid)).length ≤ 100 := by
      have := List.length_filter_le (inS s) (ptl s mid)
      have e1 : (ptl s mid).length ≤ mid.length + 2 := by unfold ptl; split <;> simp <;> omega
      simp only [mks, mids, List.length_append, List.length_map, List.length_zip]
      omega
    have agree2 := fun ab => through_all (x := -ln.x) (y := -ln.y) (ab := ab) sk (fun q hq => ⟨(hroot q hq).1.pos, by
      have := (hroot q hq).2.1
      have e : lv (-ln.x) (-ln.y) q = - lv ln.x ln.y q := by unfold lv; grind
      omega, by have := (hroot q hq).2.2; omega⟩) hone (fun hy => hex (by omega)) pt ml
    generalize mks s (ptl s mid) = M at *
    simp only [↓w_ok, ↓kB_ok, ↓kI_ok, ↓w_K, ↓w_V, ↓w_vR, ↓w_Op, ↓kO1_ok, ↓kO2_ok, ↓w_Un, ↓w_bOf, ↓w_isB, ↓kBl_ok, ↓kBl_exc, ↓kIf_ok, ↓kIf_exc, ↓w_okB, ↓w_okD, ↓w_bAnd, ↓w_bOr, ↓w_bNot, ↓kNot_ok, ↓kNot_exc, ↓w_eAnd, ↓w_eOr, ↓w_eNot, ↓kNotV_ok, ↓w_eIf, ↓w_aNil, ↓w_aCons, ↓kA1_ok, ↓kA2_ok, ↓kA1_exc, ↓kA2_exc, ↓w_Tup, ↓w_Lst, ↓w_mkT, ↓w_mkL, ↓w_Dct, ↓w_Call, ↓w_goS, ↓w_Bi, ↓w_Isi, ↓w_Cut, ↓kC1_ok, ↓kC2_ok, ↓kC3_ok, ↓w_oNone, ↓w_oSome, ↓w_vO, ↓w_Chain, ↓kCh1_ok, ↓kCh2_ok, ↓kCh3_ok, ↓w_chA, ↓w_App, ↓w_Ins, ↓w_insG, ↓z_nx, ↓z_End, ↓z_Seq, ↓kT_nx, ↓kT_rt, ↓kT_bk, ↓kT_ct, ↓kT_exc, ↓z_If, ↓kIfS_ok, ↓kIfS_exc, ↓z_Ret, ↓kRet_ok, ↓kRet_exc, ↓z_Expr, ↓kNx_ok, ↓kNx_exc, ↓z_Asg, ↓kAs_ok, ↓kAs_exc, ↓z_tgO, t_N, t_T, t_nil, t_cons, t_G, t_gnil, t_gcons, t_bind, ↓z_Par, ↓kPar_ok, ↓z_Raise, ↓z_Break, ↓z_Cont, ↓z_For, ↓kSrc_ok, ↓w_Range, ↓w_rgF, ↓w_SeqI, ↓w_sqT, ↓w_Zip, ↓w_zpT, ↓w_Comp, ↓kCo_ok, ↓w_of, ↓kF_rt, ↓kF_nx, ↓kF_exc, ↓w_add, ↓w_sub, ↓w_pow10, ↓w_neg, ↓w_lt, ↓w_le, ↓w_gt, ↓w_ge, ↓w_ix0, ↓w_ix1, ↓w_ix2, ↓w_ix3, ↓w_eqI, ↓w_eqS, ↓w_eqT2, ↓w_abs, ↓w_lenT, ↓w_lenS, ↓w_max, ↓w_min, ↓w_intT, ↓w_intF, ↓w_isBool, ↓w_isTup, ↓w_tupT, ↓w_listT, ↓w_cutT, ↓brw_t, ↓brw_f, ↓brz_t, ↓brz_f, List.getElem?_cons_zero, List.getElem?_cons_succ, List.set_cons_zero, List.set_cons_succ, List.length_cons, List.length_nil, List.map_cons, List.map_nil, List.replicate, List.cons_append, List.nil_append, small, Nat.reduceAdd, Nat.reduceLeDiff, Nat.reduceEqDiff, Int.cast_ofNat_Int, Int.reduceBEq, BEq.rfl, ↓w_Yes, ↓w_bTru, ↓augF_ok, ↓z_Put, ↓putF_ok, ↓putG_ok, ↓w_isNn, ↓w_isNt, wipeF_nil, wipeF_cons, Int.reduceLE, Int.reduceLT, Int.reduceToNat, Int.reducePow, Int.reduceNeg, Int.reduceSub, Int.reduceAdd, Int.reduceMul, decide_true, decide_false, Bool.not_true, Bool.not_false, Bool.bne_false, Bool.bne_true, ↓w_aStar, ↓w_stT, ↓kSt_ok, ↓w_aDef, ↓kDf_ok, ↓w_Cnt, ↓w_Ext, ↓w_isBB, ↓w_isIB, w_sqL l9]
    refine comp_typed M dq (by simp [srcC]) (by omega) (fun i h' g => srcC_get l9 i h' g) (fun h' g => by have := srcC_fin l9 h' g; simpa using this) (fun _ => true) (fun q => .bl (hold ln.x ln.y (i == 0) q)) (fun q hq => ⟨_, rfl, fun h' Θ g hΘ => ?_, fun _ h' Ψ g hΨ => ?_⟩) fun T => ?_
    · simp only [↓w_ok, ↓kB_ok, ↓kI_ok, ↓w_K, ↓w_V, ↓w_vR, ↓w_Op, ↓kO1_ok, ↓kO2_ok, ↓w_Un, ↓w_bOf, ↓w_isB, ↓kBl_ok, ↓kBl_exc, ↓kIf_ok, ↓kIf_exc, ↓w_okB, ↓w_okD, ↓w_bAnd, ↓w_bOr, ↓w_bNot, ↓kNot_ok, ↓kNot_exc, ↓w_eAnd, ↓w_eOr, ↓w_eNot, ↓kNotV_ok, ↓w_eIf, ↓w_aNil, ↓w_aCons, ↓kA1_ok, ↓kA2_ok, ↓kA1_exc, ↓kA2_exc, ↓w_Tup, ↓w_Lst, ↓w_mkT, ↓w_mkL, ↓w_Dct, ↓w_Call, ↓w_goS, ↓w_Bi, ↓w_Isi, ↓w_Cut, ↓kC1_ok, ↓kC2_ok, ↓kC3_ok, ↓w_oNone, ↓w_oSome, ↓w_vO, ↓w_Chain, ↓kCh1_ok, ↓kCh2_ok, ↓kCh3_ok, ↓w_chA, ↓w_App, ↓w_Ins, ↓w_insG, ↓z_nx, ↓z_End, ↓z_Seq, ↓kT_nx, ↓kT_rt, ↓kT_bk, ↓kT_ct, ↓kT_exc, ↓z_If, ↓kIfS_ok, ↓kIfS_exc, ↓z_Ret, ↓kRet_ok, ↓kRet_exc, ↓z_Expr, ↓kNx_ok, ↓kNx_exc, ↓z_Asg, ↓kAs_ok, ↓kAs_exc, ↓z_tgO, t_N, t_T, t_nil, t_cons, t_G, t_gnil, t_gcons, t_bind, ↓z_Par, ↓kPar_ok, ↓z_Raise, ↓z_Break, ↓z_Cont, ↓z_For, ↓kSrc_ok, ↓w_Range, ↓w_rgF, ↓w_SeqI, ↓w_sqT, ↓w_Zip, ↓w_zpT, ↓w_Comp, ↓kCo_ok, ↓w_of, ↓kF_rt, ↓kF_nx, ↓kF_exc, ↓w_add, ↓w_sub, ↓w_pow10, ↓w_neg, ↓w_lt, ↓w_le, ↓w_gt, ↓w_ge, ↓w_ix0, ↓w_ix1, ↓w_ix2, ↓w_ix3, ↓w_eqI, ↓w_eqS, ↓w_eqT2, ↓w_abs, ↓w_lenT, ↓w_lenS, ↓w_max, ↓w_min, ↓w_intT, ↓w_intF, ↓w_isBool, ↓w_isTup, ↓w_tupT, ↓w_listT, ↓w_cutT, ↓brw_t, ↓brw_f, ↓brz_t, ↓brz_f, List.getElem?_cons_zero, List.getElem?_cons_succ, List.set_cons_zero, List.set_cons_succ, List.length_cons, List.length_nil, List.map_cons, List.map_nil, List.replicate, List.cons_append, List.nil_append, small, Nat.reduceAdd, Nat.reduceLeDiff, Nat.reduceEqDiff, Int.cast_ofNat_Int, Int.reduceBEq, BEq.rfl, ↓w_Yes, ↓w_bTru, ↓augF_ok, ↓z_Put, ↓putF_ok, ↓putG_ok, ↓w_isNn, ↓w_isNt, wipeF_nil, wipeF_cons, Int.reduceLE, Int.reduceLT, Int.reduceToNat, Int.reducePow, Int.reduceNeg, Int.reduceSub, Int.reduceAdd, Int.reduceMul, decide_true, decide_false, Bool.not_true, Bool.not_false, Bool.bne_false, Bool.bne_true, ↓w_aStar, ↓w_stT, ↓kSt_ok, ↓w_aDef, ↓kDf_ok, ↓w_Cnt, ↓w_Ext, ↓w_isBB, ↓w_isIB]
      exact hΘ h' (Gr.refl _)
    · simp only [↓w_ok, ↓kB_ok, ↓kI_ok, ↓w_K, ↓w_V, ↓w_vR, ↓w_Op, ↓kO1_ok, ↓kO2_ok, ↓w_Un, ↓w_bOf, ↓w_isB, ↓kBl_ok, ↓kBl_exc, ↓kIf_ok, ↓kIf_exc, ↓w_okB, ↓w_okD, ↓w_bAnd, ↓w_bOr, ↓w_bNot, ↓kNot_ok, ↓kNot_exc, ↓w_eAnd, ↓w_eOr, ↓w_eNot, ↓kNotV_ok, ↓w_eIf, ↓w_aNil, ↓w_aCons, ↓kA1_ok, ↓kA2_ok, ↓kA1_exc, ↓kA2_exc, ↓w_Tup, ↓w_Lst, ↓w_mkT, ↓w_mkL, ↓w_Dct, ↓w_Call, ↓w_goS, ↓w_Bi, ↓w_Isi, ↓w_Cut, ↓kC1_ok, ↓kC2_ok, ↓kC3_ok, ↓w_oNone, ↓w_oSome, ↓w_vO, ↓w_Chain, ↓kCh1_ok, ↓kCh2_ok, ↓kCh3_ok, ↓w_chA, ↓w_App, ↓w_Ins, ↓w_insG, ↓z_nx, ↓z_End, ↓z_Seq, ↓kT_nx, ↓kT_rt, ↓kT_bk, ↓kT_ct, ↓kT_exc, ↓z_If, ↓kIfS_ok, ↓kIfS_exc, ↓z_Ret, ↓kRet_ok, ↓kRet_exc, ↓z_Expr, ↓kNx_ok, ↓kNx_exc, ↓z_Asg, ↓kAs_ok, ↓kAs_exc, ↓z_tgO, t_N, t_T, t_nil, t_cons, t_G, t_gnil, t_gcons, t_bind, ↓z_Par, ↓kPar_ok, ↓z_Raise, ↓z_Break, ↓z_Cont, ↓z_For, ↓kSrc_ok, ↓w_Range, ↓w_rgF, ↓w_SeqI, ↓w_sqT, ↓w_Zip, ↓w_zpT, ↓w_Comp, ↓kCo_ok, ↓w_of, ↓kF_rt, ↓kF_nx, ↓kF_exc, ↓w_add, ↓w_sub, ↓w_pow10, ↓w_neg, ↓w_lt, ↓w_le, ↓w_gt, ↓w_ge, ↓w_ix0, ↓w_ix1, ↓w_ix2, ↓w_ix3, ↓w_eqI, ↓w_eqS, ↓w_eqT2, ↓w_abs, ↓w_lenT, ↓w_lenS, ↓w_max, ↓w_min, ↓w_intT, ↓w_intF, ↓w_isBool, ↓w_isTup, ↓w_tupT, ↓w_listT, ↓w_cutT, ↓brw_t, ↓brw_f, ↓brz_t, ↓brz_f, List.getElem?_cons_zero, List.getElem?_cons_succ, List.set_cons_zero, List.set_cons_succ, List.length_cons, List.length_nil, List.map_cons, List.map_nil, List.replicate, List.cons_append, List.nil_append, small, Nat.reduceAdd, Nat.reduceLeDiff, Nat.reduceEqDiff, Int.cast_ofNat_Int, Int.reduceBEq, BEq.rfl, ↓w_Yes, ↓w_bTru, ↓augF_ok, ↓z_Put, ↓putF_ok, ↓putG_ok, ↓w_isNn, ↓w_isNt, wipeF_nil, wipeF_cons, Int.reduceLE, Int.reduceLT, Int.reduceToNat, Int.reducePow, Int.reduceNeg, Int.reduceSub, Int.reduceAdd, Int.reduceMul, decide_true, decide_false, Bool.not_true, Bool.not_false, Bool.bne_false, Bool.bne_true, ↓w_aStar, ↓w_stT, ↓kSt_ok, ↓w_aDef, ↓kDf_ok, ↓w_Cnt, ↓w_Ext, ↓w_isBB, ↓w_isIB]
      refine holdat_w (c := (ln, i == 0)) (A := 604) ⟨lk.fa.mono (by decide), lk.fb.mono (by decide)⟩ (hM q hq) (by decide) ?_
      simp only [↓w_ok, ↓kB_ok, ↓kI_ok, ↓w_K, ↓w_V, ↓w_vR, ↓w_Op, ↓kO1_ok, ↓kO2_ok, ↓w_Un, ↓w_bOf, ↓w_isB, ↓kBl_ok, ↓kBl_exc, ↓kIf_ok, ↓kIf_exc, ↓w_okB, ↓w_okD, ↓w_bAnd, ↓w_bOr, ↓w_bNot, ↓kNot_ok, ↓kNot_exc, ↓w_eAnd, ↓w_eOr, ↓w_eNot, ↓kNotV_ok, ↓w_eIf, ↓w_aNil, ↓w_aCons, ↓kA1_ok, ↓kA2_ok, ↓kA1_exc, ↓kA2_exc, ↓w_Tup, ↓w_Lst, ↓w_mkT, ↓w_mkL, ↓w_Dct, ↓w_Call, ↓w_goS, ↓w_Bi, ↓w_Isi, ↓w_Cut, ↓kC1_ok, ↓kC2_ok, ↓kC3_ok, ↓w_oNone, ↓w_oSome, ↓w_vO, ↓w_Chain, ↓kCh1_ok, ↓kCh2_ok, ↓kCh3_ok, ↓w_chA, ↓w_App, ↓w_Ins, ↓w_insG, ↓z_nx, ↓z_End, ↓z_Seq, ↓kT_nx, ↓kT_rt, ↓kT_bk, ↓kT_ct, ↓kT_exc, ↓z_If, ↓kIfS_ok, ↓kIfS_exc, ↓z_Ret, ↓kRet_ok, ↓kRet_exc, ↓z_Expr, ↓kNx_ok, ↓kNx_exc, ↓z_Asg, ↓kAs_ok, ↓kAs_exc, ↓z_tgO, t_N, t_T, t_nil, t_cons, t_G, t_gnil, t_gcons, t_bind, ↓z_Par, ↓kPar_ok, ↓z_Raise, ↓z_Break, ↓z_Cont, ↓z_For, ↓kSrc_ok, ↓w_Range, ↓w_rgF, ↓w_SeqI, ↓w_sqT, ↓w_Zip, ↓w_zpT, ↓w_Comp, ↓kCo_ok, ↓w_of, ↓kF_rt, ↓kF_nx, ↓kF_exc, ↓w_add, ↓w_sub, ↓w_pow10, ↓w_neg, ↓w_lt, ↓w_le, ↓w_gt, ↓w_ge, ↓w_ix0, ↓w_ix1, ↓w_ix2, ↓w_ix3, ↓w_eqI, ↓w_eqS, ↓w_eqT2, ↓w_abs, ↓w_lenT, ↓w_lenS, ↓w_max, ↓w_min, ↓w_intT, ↓w_intF, ↓w_isBool, ↓w_isTup, ↓w_tupT, ↓w_listT, ↓w_cutT, ↓brw_t, ↓brw_f, ↓brz_t, ↓brz_f, List.getElem?_cons_zero, List.getElem?_cons_succ, List.set_cons_zero, List.set_cons_succ, List.length_cons, List.length_nil, List.map_cons, List.map_nil, List.replicate, List.cons_append, List.nil_append, small, Nat.reduceAdd, Nat.reduceLeDiff, Nat.reduceEqDiff, Int.cast_ofNat_Int, Int.reduceBEq, BEq.rfl, ↓w_Yes, ↓w_bTru, ↓augF_ok, ↓z_Put, ↓putF_ok, ↓putG_ok, ↓w_isNn, ↓w_isNt, wipeF_nil, wipeF_cons, Int.reduceLE, Int.reduceLT, Int.reduceToNat, Int.reducePow, Int.reduceNeg, Int.reduceSub, Int.reduceAdd, Int.reduceMul, decide_true, decide_false, Bool.not_true, Bool.not_false, Bool.bne_false, Bool.bne_true, ↓w_aStar, ↓w_stT, ↓kSt_ok, ↓w_aDef, ↓kDf_ok, ↓w_Cnt, ↓w_Ext, ↓w_isBB, ↓w_isIB]
      exact hΨ h' (Gr.refl _)
    · rw [filter_yes]
      have lt := lst_mid h9 (M.map fun q => D.bl (hold ln.x ln.y (i == 0) q)) T
      generalize h9 ++ [Cell.lst (M.map fun q => D.bl (hold ln.x ln.y (i == 0) q))] ++ T = h10 at *
      have lt' : lstAt h10 h9.length = some ((M.map (hold ln.x ln.y (i == 0))).map D.bl) := by rw [lt, List.map_map]; rfl
      simp only [↓w_ok, ↓kB_ok, ↓kI_ok, ↓w_K, ↓w_V, ↓w_vR, ↓w_Op, ↓kO1_ok, ↓kO2_ok, ↓w_Un, ↓w_bOf, ↓w_isB, ↓kBl_ok, ↓kBl_exc, ↓kIf_ok, ↓kIf_exc, ↓w_okB, ↓w_okD, ↓w_bAnd, ↓w_bOr, ↓w_bNot, ↓kNot_ok, ↓kNot_exc, ↓w_eAnd, ↓w_eOr, ↓w_eNot, ↓kNotV_ok, ↓w_eIf, ↓w_aNil, ↓w_aCons, ↓kA1_ok, ↓kA2_ok, ↓kA1_exc, ↓kA2_exc, ↓w_Tup, ↓w_Lst, ↓w_mkT, ↓w_mkL, ↓w_Dct, ↓w_Call, ↓w_goS, ↓w_Bi, ↓w_Isi, ↓w_Cut, ↓kC1_ok, ↓kC2_ok, ↓kC3_ok, ↓w_oNone, ↓w_oSome, ↓w_vO, ↓w_Chain, ↓kCh1_ok, ↓kCh2_ok, ↓kCh3_ok, ↓w_chA, ↓w_App, ↓w_Ins, ↓w_insG, ↓z_nx, ↓z_End, ↓z_Seq, ↓kT_nx, ↓kT_rt, ↓kT_bk, ↓kT_ct, ↓kT_exc, ↓z_If, ↓kIfS_ok, ↓kIfS_exc, ↓z_Ret, ↓kRet_ok, ↓kRet_exc, ↓z_Expr, ↓kNx_ok, ↓kNx_exc, ↓z_Asg, ↓kAs_ok, ↓kAs_exc, ↓z_tgO, t_N, t_T, t_nil, t_cons, t_G, t_gnil, t_gcons, t_bind, ↓z_Par, ↓kPar_ok, ↓z_Raise, ↓z_Break, ↓z_Cont, ↓z_For, ↓kSrc_ok, ↓w_Range, ↓w_rgF, ↓w_SeqI, ↓w_sqT, ↓w_Zip, ↓w_zpT, ↓w_Comp, ↓kCo_ok, ↓w_of, ↓kF_rt, ↓kF_nx, ↓kF_exc, ↓w_add, ↓w_sub, ↓w_pow10, ↓w_neg, ↓w_lt, ↓w_le, ↓w_gt, ↓w_ge, ↓w_ix0, ↓w_ix1, ↓w_ix2, ↓w_ix3, ↓w_eqI, ↓w_eqS, ↓w_eqT2, ↓w_abs, ↓w_lenT, ↓w_lenS, ↓w_max, ↓w_min, ↓w_intT, ↓w_intF, ↓w_isBool, ↓w_isTup, ↓w_tupT, ↓w_listT, ↓w_cutT, ↓brw_t, ↓brw_f, ↓brz_t, ↓brz_f, List.getElem?_cons_zero, List.getElem?_cons_succ, List.set_cons_zero, List.set_cons_succ, List.length_cons, List.length_nil, List.map_cons, List.map_nil, List.replicate, List.cons_append, List.nil_append, small, Nat.reduceAdd, Nat.reduceLeDiff, Nat.reduceEqDiff, Int.cast_ofNat_Int, Int.reduceBEq, BEq.rfl, ↓w_Yes, ↓w_bTru, ↓augF_ok, ↓z_Put, ↓putF_ok, ↓putG_ok, ↓w_isNn, ↓w_isNt, wipeF_nil, wipeF_cons, Int.reduceLE, Int.reduceLT, Int.reduceToNat, Int.reducePow, Int.reduceNeg, Int.reduceSub, Int.reduceAdd, Int.reduceMul, decide_true, decide_false, Bool.not_true, Bool.not_false, Bool.bne_false, Bool.bne_true, ↓w_aStar, ↓w_stT, ↓kSt_ok, ↓w_aDef, ↓kDf_ok, ↓w_Cnt, ↓w_Ext, ↓w_isBB, ↓w_isIB]
      refine holds_w (c := (ln, i == 0)) lk sk (by decide) (by decide) fun h11 g11 => ?_
      have e1 : thr ln.x ln.y (i == 0) s = ((M.map (hold ln.x ln.y (i == 0))).any (· == false) != true) := by
        rw [← agree, Bool.bne_true, ← all_any, List.all_map]
        rfl
      simp only [↓w_ok, ↓kB_ok, ↓kI_ok, ↓w_K, ↓w_V, ↓w_vR, ↓w_Op, ↓kO1_ok, ↓kO2_ok, ↓w_Un, ↓w_bOf, ↓w_isB, ↓kBl_ok, ↓kBl_exc, ↓kIf_ok, ↓kIf_exc, ↓w_okB, ↓w_okD, ↓w_bAnd, ↓w_bOr, ↓w_bNot, ↓kNot_ok, ↓kNot_exc, ↓w_eAnd, ↓w_eOr, ↓w_eNot, ↓kNotV_ok, ↓w_eIf, ↓w_aNil, ↓w_aCons, ↓kA1_ok, ↓kA2_ok, ↓kA1_exc, ↓kA2_exc, ↓w_Tup, ↓w_Lst, ↓w_mkT, ↓w_mkL, ↓w_Dct, ↓w_Call, ↓w_goS, ↓w_Bi, ↓w_Isi, ↓w_Cut, ↓kC1_ok, ↓kC2_ok, ↓kC3_ok, ↓w_oNone, ↓w_oSome, ↓w_vO, ↓w_Chain, ↓kCh1_ok, ↓kCh2_ok, ↓kCh3_ok, ↓w_chA, ↓w_App, ↓w_Ins, ↓w_insG, ↓z_nx, ↓z_End, ↓z_Seq, ↓kT_nx, ↓kT_rt, ↓kT_bk, ↓kT_ct, ↓kT_exc, ↓z_If, ↓kIfS_ok, ↓kIfS_exc, ↓z_Ret, ↓kRet_ok, ↓kRet_exc, ↓z_Expr, ↓kNx_ok, ↓kNx_exc, ↓z_Asg, ↓kAs_ok, ↓kAs_exc, ↓z_tgO, t_N, t_T, t_nil, t_cons, t_G, t_gnil, t_gcons, t_bind, ↓z_Par, ↓kPar_ok, ↓z_Raise, ↓z_Break, ↓z_Cont, ↓z_For, ↓kSrc_ok, ↓w_Range, ↓w_rgF, ↓w_SeqI, ↓w_sqT, ↓w_Zip, ↓w_zpT, ↓w_Comp, ↓kCo_ok, ↓w_of, ↓kF_rt, ↓kF_nx, ↓kF_exc, ↓w_add, ↓w_sub, ↓w_pow10, ↓w_neg, ↓w_lt, ↓w_le, ↓w_gt, ↓w_ge, ↓w_ix0, ↓w_ix1, ↓w_ix2, ↓w_ix3, ↓w_eqI, ↓w_eqS, ↓w_eqT2, ↓w_abs, ↓w_lenT, ↓w_lenS, ↓w_max, ↓w_min, ↓w_intT, ↓w_intF, ↓w_isBool, ↓w_isTup, ↓w_tupT, ↓w_listT, ↓w_cutT, ↓brw_t, ↓brw_f, ↓brz_t, ↓brz_f, List.getElem?_cons_zero, List.getElem?_cons_succ, List.set_cons_zero, List.set_cons_succ, List.length_cons, List.length_nil, List.map_cons, List.map_nil, List.replicate, List.cons_append, List.nil_append, small, Nat.reduceAdd, Nat.reduceLeDiff, Nat.reduceEqDiff, Int.cast_ofNat_Int, Int.reduceBEq, BEq.rfl, ↓w_Yes, ↓w_bTru, ↓augF_ok, ↓z_Put, ↓putF_ok, ↓putG_ok, ↓w_isNn, ↓w_isNt, wipeF_nil, wipeF_cons, Int.reduceLE, Int.reduceLT, Int.reduceToNat, Int.reducePow, Int.reduceNeg, Int.reduceSub, Int.reduceAdd, Int.reduceMul, decide_true, decide_false, Bool.not_true, Bool.not_false, Bool.bne_false, Bool.bne_true, ↓w_aStar, ↓w_stT, ↓kSt_ok, ↓w_aDef, ↓kDf_ok, ↓w_Cnt, ↓w_Ext, ↓w_isBB, ↓w_isIB, in_bl (g11.lst lt'), truth_w, e1, beq_self_eq_true]
      refine fails_w (c := (ln, i == 0)) lk sk (by decide) (by decide) fun h12 g12 => ?_
      have e2 : thr (-ln.x) (-ln.y) (!(i == 0)) s = ((M.map (hold ln.x ln.y (i == 0))).any (· == true) != true) := by
        rw [← agree2]
        have e3 : ∀ bs : List Bool, (bs.all fun b => !b) = !bs.any (· == true) := fun bs => by
          induction bs with
          | nil => rfl
          | cons b bs ih => rw [List.all_cons, List.any_cons, ih]; cases b <;> rfl
        rw [Bool.bne_true, ← e3, List.all_map]
        congr 1
        funext q
        exact hold_turn
      simp only [↓w_ok, ↓kB_ok, ↓kI_ok, ↓w_K, ↓w_V, ↓w_vR, ↓w_Op, ↓kO1_ok, ↓kO2_ok, ↓w_Un, ↓w_bOf, ↓w_isB, ↓kBl_ok, ↓kBl_exc, ↓kIf_ok, ↓kIf_exc, ↓w_okB, ↓w_okD, ↓w_bAnd, ↓w_bOr, ↓w_bNot, ↓kNot_ok, ↓kNot_exc, ↓w_eAnd, ↓w_eOr, ↓w_eNot, ↓kNotV_ok, ↓w_eIf, ↓w_aNil, ↓w_aCons, ↓kA1_ok, ↓kA2_ok, ↓kA1_exc, ↓kA2_exc, ↓w_Tup, ↓w_Lst, ↓w_mkT, ↓w_mkL, ↓w_Dct, ↓w_Call, ↓w_goS, ↓w_Bi, ↓w_Isi, ↓w_Cut, ↓kC1_ok, ↓kC2_ok, ↓kC3_ok, ↓w_oNone, ↓w_oSome, ↓w_vO, ↓w_Chain, ↓kCh1_ok, ↓kCh2_ok, ↓kCh3_ok, ↓w_chA, ↓w_App, ↓w_Ins, ↓w_insG, ↓z_nx, ↓z_End, ↓z_Seq, ↓kT_nx, ↓kT_rt, ↓kT_bk, ↓kT_ct, ↓kT_exc, ↓z_If, ↓kIfS_ok, ↓kIfS_exc, ↓z_Ret, ↓kRet_ok, ↓kRet_exc, ↓z_Expr, ↓kNx_ok, ↓kNx_exc, ↓z_Asg, ↓kAs_ok, ↓kAs_exc, ↓z_tgO, t_N, t_T, t_nil, t_cons, t_G, t_gnil, t_gcons, t_bind, ↓z_Par, ↓kPar_ok, ↓z_Raise, ↓z_Break, ↓z_Cont, ↓z_For, ↓kSrc_ok, ↓w_Range, ↓w_rgF, ↓w_SeqI, ↓w_sqT, ↓w_Zip, ↓w_zpT, ↓w_Comp, ↓kCo_ok, ↓w_of, ↓kF_rt, ↓kF_nx, ↓kF_exc, ↓w_add, ↓w_sub, ↓w_pow10, ↓w_neg, ↓w_lt, ↓w_le, ↓w_gt, ↓w_ge, ↓w_ix0, ↓w_ix1, ↓w_ix2, ↓w_ix3, ↓w_eqI, ↓w_eqS, ↓w_eqT2, ↓w_abs, ↓w_lenT, ↓w_lenS, ↓w_max, ↓w_min, ↓w_intT, ↓w_intF, ↓w_isBool, ↓w_isTup, ↓w_tupT, ↓w_listT, ↓w_cutT, ↓brw_t, ↓brw_f, ↓brz_t, ↓brz_f, List.getElem?_cons_zero, List.getElem?_cons_succ, List.set_cons_zero, List.set_cons_succ, List.length_cons, List.length_nil, List.map_cons, List.map_nil, List.replicate, List.cons_append, List.nil_append, small, Nat.reduceAdd, Nat.reduceLeDiff, Nat.reduceEqDiff, Int.cast_ofNat_Int, Int.reduceBEq, BEq.rfl, ↓w_Yes, ↓w_bTru, ↓augF_ok, ↓z_Put, ↓putF_ok, ↓putG_ok, ↓w_isNn, ↓w_isNt, wipeF_nil, wipeF_cons, Int.reduceLE, Int.reduceLT, Int.reduceToNat, Int.reducePow, Int.reduceNeg, Int.reduceSub, Int.reduceAdd, Int.reduceMul, decide_true, decide_false, Bool.not_true, Bool.not_false, Bool.bne_false, Bool.bne_true, ↓w_aStar, ↓w_stT, ↓kSt_ok, ↓w_aDef, ↓kDf_ok, ↓w_Cnt, ↓w_Ext, ↓w_isBB, ↓w_isIB, in_bl ((g11.trans g12).lst lt'), truth_w, e2, beq_self_eq_true]
      exact hI _ _ _ _ _ _ _
  refine take_w P7 (by omega) (by decide) (by decide) fun z h8 z0 z1 P8 S8 => ?_
  have nr : r7 ≠ h.length := fun e => by
    subst e
    obtain ⟨a, b, c, e, _⟩ := P7.ex
    rw [l7] at e
    cases hq : ([(ln, i == 0)] : List Cn).filterMap (fun c => rootOf c.1) with
    | nil => rw [hq] at e; cases e
    | cons q t => rw [hq] at e; cases e
  have l8 := S8.lst nr l7
  simp only [↓w_ok, ↓kB_ok, ↓kI_ok, ↓w_K, ↓w_V, ↓w_vR, ↓w_Op, ↓kO1_ok, ↓kO2_ok, ↓w_Un, ↓w_bOf, ↓w_isB, ↓kBl_ok, ↓kBl_exc, ↓kIf_ok, ↓kIf_exc, ↓w_okB, ↓w_okD, ↓w_bAnd, ↓w_bOr, ↓w_bNot, ↓kNot_ok, ↓kNot_exc, ↓w_eAnd, ↓w_eOr, ↓w_eNot, ↓kNotV_ok, ↓w_eIf, ↓w_aNil, ↓w_aCons, ↓kA1_ok, ↓kA2_ok, ↓kA1_exc, ↓kA2_exc, ↓w_Tup, ↓w_Lst, ↓w_mkT, ↓w_mkL, ↓w_Dct, ↓w_Call, ↓w_goS, ↓w_Bi, ↓w_Isi, ↓w_Cut, ↓kC1_ok, ↓kC2_ok, ↓kC3_ok, ↓w_oNone, ↓w_oSome, ↓w_vO, ↓w_Chain, ↓kCh1_ok, ↓kCh2_ok, ↓kCh3_ok, ↓w_chA, ↓w_App, ↓w_Ins, ↓w_insG, ↓z_nx, ↓z_End, ↓z_Seq, ↓kT_nx, ↓kT_rt, ↓kT_bk, ↓kT_ct, ↓kT_exc, ↓z_If, ↓kIfS_ok, ↓kIfS_exc, ↓z_Ret, ↓kRet_ok, ↓kRet_exc, ↓z_Expr, ↓kNx_ok, ↓kNx_exc, ↓z_Asg, ↓kAs_ok, ↓kAs_exc, ↓z_tgO, t_N, t_T, t_nil, t_cons, t_G, t_gnil, t_gcons, t_bind, ↓z_Par, ↓kPar_ok, ↓z_Raise, ↓z_Break, ↓z_Cont, ↓z_For, ↓kSrc_ok, ↓w_Range, ↓w_rgF, ↓w_SeqI, ↓w_sqT, ↓w_Zip, ↓w_zpT, ↓w_Comp, ↓kCo_ok, ↓w_of, ↓kF_rt, ↓kF_nx, ↓kF_exc, ↓w_add, ↓w_sub, ↓w_pow10, ↓w_neg, ↓w_lt, ↓w_le, ↓w_gt, ↓w_ge, ↓w_ix0, ↓w_ix1, ↓w_ix2, ↓w_ix3, ↓w_eqI, ↓w_eqS, ↓w_eqT2, ↓w_abs, ↓w_lenT, ↓w_lenS, ↓w_max, ↓w_min, ↓w_intT, ↓w_intF, ↓w_isBool, ↓w_isTup, ↓w_tupT, ↓w_listT, ↓w_cutT, ↓brw_t, ↓brw_f, ↓brz_t, ↓brz_f, List.getElem?_cons_zero, List.getElem?_cons_succ, List.set_cons_zero, List.set_cons_succ, List.length_cons, List.length_nil, List.map_cons, List.map_nil, List.replicate, List.cons_append, List.nil_append, small, Nat.reduceAdd, Nat.reduceLeDiff, Nat.reduceEqDiff, Int.cast_ofNat_Int, Int.reduceBEq, BEq.rfl, ↓w_Yes, ↓w_bTru, ↓augF_ok, ↓z_Put, ↓putF_ok, ↓putG_ok, ↓w_isNn, ↓w_isNt, wipeF_nil, wipeF_cons, Int.reduceLE, Int.reduceLT, Int.reduceToNat, Int.reducePow, Int.reduceNeg, Int.reduceSub, Int.reduceAdd, Int.reduceMul, decide_true, decide_false, Bool.not_true, Bool.not_false, Bool.bne_false, Bool.bne_true, ↓w_aStar, ↓w_stT, ↓kSt_ok, ↓w_aDef, ↓kDf_ok, ↓w_Cnt, ↓w_Ext, ↓w_isBB, ↓w_isIB]
  refine brw (fun hz => ?_) fun hz => ?_
  rotate_left
  · have q := rest s h8 (sk.mono (by decide)) l8
    revert q
    simp only [↓w_ok, ↓kB_ok, ↓kI_ok, ↓w_K, ↓w_V, ↓w_vR, ↓w_Op, ↓kO1_ok, ↓kO2_ok, ↓w_Un, ↓w_bOf, ↓w_isB, ↓kBl_ok, ↓kBl_exc, ↓kIf_ok, ↓kIf_exc, ↓w_okB, ↓w_okD, ↓w_bAnd, ↓w_bOr, ↓w_bNot, ↓kNot_ok, ↓kNot_exc, ↓w_eAnd, ↓w_eOr, ↓w_eNot, ↓kNotV_ok, ↓w_eIf, ↓w_aNil, ↓w_aCons, ↓kA1_ok, ↓kA2_ok, ↓kA1_exc, ↓kA2_exc, ↓w_Tup, ↓w_Lst, ↓w_mkT, ↓w_mkL, ↓w_Dct, ↓w_Call, ↓w_goS, ↓w_Bi, ↓w_Isi, ↓w_Cut, ↓kC1_ok, ↓kC2_ok, ↓kC3_ok, ↓w_oNone, ↓w_oSome, ↓w_vO, ↓w_Chain, ↓kCh1_ok, ↓kCh2_ok, ↓kCh3_ok, ↓w_chA, ↓w_App, ↓w_Ins, ↓w_insG, ↓z_nx, ↓z_End, ↓z_Seq, ↓kT_nx, ↓kT_rt, ↓kT_bk, ↓kT_ct, ↓kT_exc, ↓z_If, ↓kIfS_ok, ↓kIfS_exc, ↓z_Ret, ↓kRet_ok, ↓kRet_exc, ↓z_Expr, ↓kNx_ok, ↓kNx_exc, ↓z_Asg, ↓kAs_ok, ↓kAs_exc, ↓z_tgO, t_N, t_T, t_nil, t_cons, t_G, t_gnil, t_gcons, t_bind, ↓z_Par, ↓kPar_ok, ↓z_Raise, ↓z_Break, ↓z_Cont, ↓z_For, ↓kSrc_ok, ↓w_Range, ↓w_rgF, ↓w_SeqI, ↓w_sqT, ↓w_Zip, ↓w_zpT, ↓w_Comp, ↓kCo_ok, ↓w_of, ↓kF_rt, ↓kF_nx, ↓kF_exc, ↓w_add, ↓w_sub, ↓w_pow10, ↓w_neg, ↓w_lt, ↓w_le, ↓w_gt, ↓w_ge, ↓w_ix0, ↓w_ix1, ↓w_ix2, ↓w_ix3, ↓w_eqI, ↓w_eqS, ↓w_eqT2, ↓w_abs, ↓w_lenT, ↓w_lenS, ↓w_max, ↓w_min, ↓w_intT, ↓w_intF, ↓w_isBool, ↓w_isTup, ↓w_tupT, ↓w_listT, ↓w_cutT, ↓brw_t, ↓brw_f, ↓brz_t, ↓brz_f, List.getElem?_cons_zero, List.getElem?_cons_succ, List.set_cons_zero, List.set_cons_succ, List.length_cons, List.length_nil, List.map_cons, List.map_nil, List.replicate, List.cons_append, List.nil_append, small, Nat.reduceAdd, Nat.reduceLeDiff, Nat.reduceEqDiff, Int.cast_ofNat_Int, Int.reduceBEq, BEq.rfl, ↓w_Yes, ↓w_bTru, ↓augF_ok, ↓z_Put, ↓putF_ok, ↓putG_ok, ↓w_isNn, ↓w_isNt, wipeF_nil, wipeF_cons, Int.reduceLE, Int.reduceLT, Int.reduceToNat, Int.reducePow, Int.reduceNeg, Int.reduceSub, Int.reduceAdd, Int.reduceMul, decide_true, decide_false, Bool.not_true, Bool.not_false, Bool.bne_false, Bool.bne_true, ↓w_aStar, ↓w_stT, ↓kSt_ok, ↓w_aDef, ↓kDf_ok, ↓w_Cnt, ↓w_Ext, ↓w_isBB, ↓w_isIB]
    exact id
  have l9 := lstAt_app l8 [.lst []]
  simp only [↓w_ok, ↓kB_ok, ↓kI_ok, ↓w_K, ↓w_V, ↓w_vR, ↓w_Op, ↓kO1_ok, ↓kO2_ok, ↓w_Un, ↓w_bOf, ↓w_isB, ↓kBl_ok, ↓kBl_exc, ↓kIf_ok, ↓kIf_exc, ↓w_okB, ↓w_okD, ↓w_bAnd, ↓w_bOr, ↓w_bNot, ↓kNot_ok, ↓kNot_exc, ↓w_eAnd, ↓w_eOr, ↓w_eNot, ↓kNotV_ok, ↓w_eIf, ↓w_aNil, ↓w_aCons, ↓kA1_ok, ↓kA2_ok, ↓kA1_exc, ↓kA2_exc, ↓w_Tup, ↓w_Lst, ↓w_mkT, ↓w_mkL, ↓w_Dct, ↓w_Call, ↓w_goS, ↓w_Bi, ↓w_Isi, ↓w_Cut, ↓kC1_ok, ↓kC2_ok, ↓kC3_ok, ↓w_oNone, ↓w_oSome, ↓w_vO, ↓w_Chain, ↓kCh1_ok, ↓kCh2_ok, ↓kCh3_ok, ↓w_chA, ↓w_App, ↓w_Ins, ↓w_insG, ↓z_nx, ↓z_End, ↓z_Seq, ↓kT_nx, ↓kT_rt, ↓kT_bk, ↓kT_ct, ↓kT_exc, ↓z_If, ↓kIfS_ok, ↓kIfS_exc, ↓z_Ret, ↓kRet_ok, ↓kRet_exc, ↓z_Expr, ↓kNx_ok, ↓kNx_exc, ↓z_Asg, ↓kAs_ok, ↓kAs_exc, ↓z_tgO, t_N, t_T, t_nil, t_cons, t_G, t_gnil, t_gcons, t_bind, ↓z_Par, ↓kPar_ok, ↓z_Raise, ↓z_Break, ↓z_Cont, ↓z_For, ↓kSrc_ok, ↓w_Range, ↓w_rgF, ↓w_SeqI, ↓w_sqT, ↓w_Zip, ↓w_zpT, ↓w_Comp, ↓kCo_ok, ↓w_of, ↓kF_rt, ↓kF_nx, ↓kF_exc, ↓w_add, ↓w_sub, ↓w_pow10, ↓w_neg, ↓w_lt, ↓w_le, ↓w_gt, ↓w_ge, ↓w_ix0, ↓w_ix1, ↓w_ix2, ↓w_ix3, ↓w_eqI, ↓w_eqS, ↓w_eqT2, ↓w_abs, ↓w_lenT, ↓w_lenS, ↓w_max, ↓w_min, ↓w_intT, ↓w_intF, ↓w_isBool, ↓w_isTup, ↓w_tupT, ↓w_listT, ↓w_cutT, ↓brw_t, ↓brw_f, ↓brz_t, ↓brz_f, List.getElem?_cons_zero, List.getElem?_cons_succ, List.set_cons_zero, List.set_cons_succ, List.length_cons, List.length_nil, List.map_cons, List.map_nil, List.replicate, List.cons_append, List.nil_append, small, Nat.reduceAdd, Nat.reduceLeDiff, Nat.reduceEqDiff, Int.cast_ofNat_Int, Int.reduceBEq, BEq.rfl, ↓w_Yes, ↓w_bTru, ↓augF_ok, ↓z_Put, ↓putF_ok, ↓putG_ok, ↓w_isNn, ↓w_isNt, wipeF_nil, wipeF_cons, Int.reduceLE, Int.reduceLT, Int.reduceToNat, Int.reducePow, Int.reduceNeg, Int.reduceSub, Int.reduceAdd, Int.reduceMul, decide_true, decide_false, Bool.not_true, Bool.not_false, Bool.bne_false, Bool.bne_true, ↓w_aStar, ↓w_stT, ↓kSt_ok, ↓w_aDef, ↓kDf_ok, ↓w_Cnt, ↓w_Ext, ↓w_isBB, ↓w_isIB, eq_qnil l9 (lst_new h8 [])]
  have P9 := P8.app [.lst []]
  generalize h8 ++ [Cell.lst []] = h9 at *
  have hroot : ∀ q ∈ ([(ln, i == 0)] : List Cn).filterMap (fun c => rootOf c.1), Fq 301 q := fun q hq => by
    obtain ⟨c, hc, e⟩ := List.mem_filterMap.mp hq
    rw [List.mem_singleton.mp hc] at e
    exact (root_ok lk e).1
  cases hq : ([(ln, i == 0)] : List Cn).filterMap (fun c => rootOf c.1) with
  | nil =>
    have q := rest s h9 (sk.mono (by decide)) l9
    have e0 : (([] : List Qp).isEmpty != true) = false := rfl
    revert q
    simp only [↓w_ok, ↓kB_ok, ↓kI_ok, ↓w_K, ↓w_V, ↓w_vR, ↓w_Op, ↓kO1_ok, ↓kO2_ok, ↓w_Un, ↓w_bOf, ↓w_isB, ↓kBl_ok, ↓kBl_exc, ↓kIf_ok, ↓kIf_exc, ↓w_okB, ↓w_okD, ↓w_bAnd, ↓w_bOr, ↓w_bNot, ↓kNot_ok, ↓kNot_exc, ↓w_eAnd, ↓w_eOr, ↓w_eNot, ↓kNotV_ok, ↓w_eIf, ↓w_aNil, ↓w_aCons, ↓kA1_ok, ↓kA2_ok, ↓kA1_exc, ↓kA2_exc, ↓w_Tup, ↓w_Lst, ↓w_mkT, ↓w_mkL, ↓w_Dct, ↓w_Call, ↓w_goS, ↓w_Bi, ↓w_Isi, ↓w_Cut, ↓kC1_ok, ↓kC2_ok, ↓kC3_ok, ↓w_oNone, ↓w_oSome, ↓w_vO, ↓w_Chain, ↓kCh1_ok, ↓kCh2_ok, ↓kCh3_ok, ↓w_chA, ↓w_App, ↓w_Ins, ↓w_insG, ↓z_nx, ↓z_End, ↓z_Seq, ↓kT_nx, ↓kT_rt, ↓kT_bk, ↓kT_ct, ↓kT_exc, ↓z_If, ↓kIfS_ok, ↓kIfS_exc, ↓z_Ret, ↓kRet_ok, ↓kRet_exc, ↓z_Expr, ↓kNx_ok, ↓kNx_exc, ↓z_Asg, ↓kAs_ok, ↓kAs_exc, ↓z_tgO, t_N, t_T, t_nil, t_cons, t_G, t_gnil, t_gcons, t_bind, ↓z_Par, ↓kPar_ok, ↓z_Raise, ↓z_Break, ↓z_Cont, ↓z_For, ↓kSrc_ok, ↓w_Range, ↓w_rgF, ↓w_SeqI, ↓w_sqT, ↓w_Zip, ↓w_zpT, ↓w_Comp, ↓kCo_ok, ↓w_of, ↓kF_rt, ↓kF_nx, ↓kF_exc, ↓w_add, ↓w_sub, ↓w_pow10, ↓w_neg, ↓w_lt, ↓w_le, ↓w_gt, ↓w_ge, ↓w_ix0, ↓w_ix1, ↓w_ix2, ↓w_ix3, ↓w_eqI, ↓w_eqS, ↓w_eqT2, ↓w_abs, ↓w_lenT, ↓w_lenS, ↓w_max, ↓w_min, ↓w_intT, ↓w_intF, ↓w_isBool, ↓w_isTup, ↓w_tupT, ↓w_listT, ↓w_cutT, ↓brw_t, ↓brw_f, ↓brz_t, ↓brz_f, List.getElem?_cons_zero, List.getElem?_cons_succ, List.set_cons_zero, List.set_cons_succ, List.length_cons, List.length_nil, List.map_cons, List.map_nil, List.replicate, List.cons_append, List.nil_append, small, Nat.reduceAdd, Nat.reduceLeDiff, Nat.reduceEqDiff, Int.cast_ofNat_Int, Int.reduceBEq, BEq.rfl, ↓w_Yes, ↓w_bTru, ↓augF_ok, ↓z_Put, ↓putF_ok, ↓putG_ok, ↓w_isNn, ↓w_isNt, wipeF_nil, wipeF_cons, Int.reduceLE, Int.reduceLT, Int.reduceToNat, Int.reducePow, Int.reduceNeg, Int.reduceSub, Int.reduceAdd, Int.reduceMul, decide_true, decide_false, Bool.not_true, Bool.not_false, Bool.bne_false, Bool.bne_true, ↓w_aStar, ↓w_stT, ↓kSt_ok, ↓w_aDef, ↓kDf_ok, ↓w_Cnt, ↓w_Ext, ↓w_isBB, ↓w_isIB, hq, List.isEmpty_nil]
    exact id
  | cons r tl =>
    have fr := hroot r (by rw [hq]; simp)
    have ixr : ∀ h' (Φ : Rs D → Prop), lstAt h' r7 = some ((r :: tl).map dq) → W (dIx (.ref r7) (.int 0) h') Φ = Φ (.ok (dq r) h') := fun h' Φ e => w_ixL e atI0
    rw [hq] at l9 rest
    have one : Bd 301 1 := Bd.one.mono (by decide)
    have mil : Bd 301 1000000 := Bd.of (by decide) (by decide)
    simp only [↓w_ok, ↓kB_ok, ↓kI_ok, ↓w_K, ↓w_V, ↓w_vR, ↓w_Op, ↓kO1_ok, ↓kO2_ok, ↓w_Un, ↓w_bOf, ↓w_isB, ↓kBl_ok, ↓kBl_exc, ↓kIf_ok, ↓kIf_exc, ↓w_okB, ↓w_okD, ↓w_bAnd, ↓w_bOr, ↓w_bNot, ↓kNot_ok, ↓kNot_exc, ↓w_eAnd, ↓w_eOr, ↓w_eNot, ↓kNotV_ok, ↓w_eIf, ↓w_aNil, ↓w_aCons, ↓kA1_ok, ↓kA2_ok, ↓kA1_exc, ↓kA2_exc, ↓w_Tup, ↓w_Lst, ↓w_mkT, ↓w_mkL, ↓w_Dct, ↓w_Call, ↓w_goS, ↓w_Bi, ↓w_Isi, ↓w_Cut, ↓kC1_ok, ↓kC2_ok, ↓kC3_ok, ↓w_oNone, ↓w_oSome, ↓w_vO, ↓w_Chain, ↓kCh1_ok, ↓kCh2_ok, ↓kCh3_ok, ↓w_chA, ↓w_App, ↓w_Ins, ↓w_insG, ↓z_nx, ↓z_End, ↓z_Seq, ↓kT_nx, ↓kT_rt, ↓kT_bk, ↓kT_ct, ↓kT_exc, ↓z_If, ↓kIfS_ok, ↓kIfS_exc, ↓z_Ret, ↓kRet_ok, ↓kRet_exc, ↓z_Expr, ↓kNx_ok, ↓kNx_exc, ↓z_Asg, ↓kAs_ok, ↓kAs_exc, ↓z_tgO, t_N, t_T, t_nil, t_cons, t_G, t_gnil, t_gcons, t_bind, ↓z_Par, ↓kPar_ok, ↓z_Raise, ↓z_Break, ↓z_Cont, ↓z_For, ↓kSrc_ok, ↓w_Range, ↓w_rgF, ↓w_SeqI, ↓w_sqT, ↓w_Zip, ↓w_zpT, ↓w_Comp, ↓kCo_ok, ↓w_of, ↓kF_rt, ↓kF_nx, ↓kF_exc, ↓w_add, ↓w_sub, ↓w_pow10, ↓w_neg, ↓w_lt, ↓w_le, ↓w_gt, ↓w_ge, ↓w_ix0, ↓w_ix1, ↓w_ix2, ↓w_ix3, ↓w_eqI, ↓w_eqS, ↓w_eqT2, ↓w_abs, ↓w_lenT, ↓w_lenS, ↓w_max, ↓w_min, ↓w_intT, ↓w_intF, ↓w_isBool, ↓w_isTup, ↓w_tupT, ↓w_listT, ↓w_cutT, ↓brw_t, ↓brw_f, ↓brz_t, ↓brz_f, List.getElem?_cons_zero, List.getElem?_cons_succ, List.set_cons_zero, List.set_cons_succ, List.length_cons, List.length_nil, List.map_cons, List.map_nil, List.replicate, List.cons_append, List.nil_append, small, Nat.reduceAdd, Nat.reduceLeDiff, Nat.reduceEqDiff, Int.cast_ofNat_Int, Int.reduceBEq, BEq.rfl, ↓w_Yes, ↓w_bTru, ↓augF_ok, ↓z_Put, ↓putF_ok, ↓putG_ok, ↓w_isNn, ↓w_isNt, wipeF_nil, wipeF_cons, Int.reduceLE, Int.reduceLT, Int.reduceToNat, Int.reducePow, Int.reduceNeg, Int.reduceSub, Int.reduceAdd, Int.reduceMul, decide_true, decide_false, Bool.not_true, Bool.not_false, Bool.bne_false, Bool.bne_true, ↓w_aStar, ↓w_stT, ↓kSt_ok, ↓w_aDef, ↓kDf_ok, ↓w_Cnt, ↓w_Ext, ↓w_isBB, ↓w_isIB, List.isEmpty_cons, ixr _ _ l9]
    refine brwP (fun h0 => ?_) fun h0 => ?_
    rotate_left
    · have q := rest s h9 (sk.mono (by decide)) l9
      revert q
      simp only [↓w_ok, ↓kB_ok, ↓kI_ok, ↓w_K, ↓w_V, ↓w_vR, ↓w_Op, ↓kO1_ok, ↓kO2_ok, ↓w_Un, ↓w_bOf, ↓w_isB, ↓kBl_ok, ↓kBl_exc, ↓kIf_ok, ↓kIf_exc, ↓w_okB, ↓w_okD, ↓w_bAnd, ↓w_bOr, ↓w_bNot, ↓kNot_ok, ↓kNot_exc, ↓w_eAnd, ↓w_eOr, ↓w_eNot, ↓kNotV_ok, ↓w_eIf, ↓w_aNil, ↓w_aCons, ↓kA1_ok, ↓kA2_ok, ↓kA1_exc, ↓kA2_exc, ↓w_Tup, ↓w_Lst, ↓w_mkT, ↓w_mkL, ↓w_Dct, ↓w_Call, ↓w_goS, ↓w_Bi, ↓w_Isi, ↓w_Cut, ↓kC1_ok, ↓kC2_ok, ↓kC3_ok, ↓w_oNone, ↓w_oSome, ↓w_vO, ↓w_Chain, ↓kCh1_ok, ↓kCh2_ok, ↓kCh3_ok, ↓w_chA, ↓w_App, ↓w_Ins, ↓w_insG, ↓z_nx, ↓z_End, ↓z_Seq, ↓kT_nx, ↓kT_rt, ↓kT_bk, ↓kT_ct, ↓kT_exc, ↓z_If, ↓kIfS_ok, ↓kIfS_exc, ↓z_Ret, ↓kRet_ok, ↓kRet_exc, ↓z_Expr, ↓kNx_ok, ↓kNx_exc, ↓z_Asg, ↓kAs_ok, ↓kAs_exc, ↓z_tgO, t_N, t_T, t_nil, t_cons, t_G, t_gnil, t_gcons, t_bind, ↓z_Par, ↓kPar_ok, ↓z_Raise, ↓z_Break, ↓z_Cont, ↓z_For, ↓kSrc_ok, ↓w_Range, ↓w_rgF, ↓w_SeqI, ↓w_sqT, ↓w_Zip, ↓w_zpT, ↓w_Comp, ↓kCo_ok, ↓w_of, ↓kF_rt, ↓kF_nx, ↓kF_exc, ↓w_add, ↓w_sub, ↓w_pow10, ↓w_neg, ↓w_lt, ↓w_le, ↓w_gt, ↓w_ge, ↓w_ix0, ↓w_ix1, ↓w_ix2, ↓w_ix3, ↓w_eqI, ↓w_eqS, ↓w_eqT2, ↓w_abs, ↓w_lenT, ↓w_lenS, ↓w_max, ↓w_min, ↓w_intT, ↓w_intF, ↓w_isBool, ↓w_isTup, ↓w_tupT, ↓w_listT, ↓w_cutT, ↓brw_t, ↓brw_f, ↓brz_t, ↓brz_f, List.getElem?_cons_zero, List.getElem?_cons_succ, List.set_cons_zero, List.set_cons_succ, List.length_cons, List.length_nil, List.map_cons, List.map_nil, List.replicate, List.cons_append, List.nil_append, small, Nat.reduceAdd, Nat.reduceLeDiff, Nat.reduceEqDiff, Int.cast_ofNat_Int, Int.reduceBEq, BEq.rfl, ↓w_Yes, ↓w_bTru, ↓augF_ok, ↓z_Put, ↓putF_ok, ↓putG_ok, ↓w_isNn, ↓w_isNt, wipeF_nil, wipeF_cons, Int.reduceLE, Int.reduceLT, Int.reduceToNat, Int.reducePow, Int.reduceNeg, Int.reduceSub, Int.reduceAdd, Int.reduceMul, decide_true, decide_false, Bool.not_true, Bool.not_false, Bool.bne_false, Bool.bne_true, ↓w_aStar, ↓w_stT, ↓kSt_ok, ↓w_aDef, ↓kDf_ok, ↓w_Cnt, ↓w_Ext, ↓w_isBB, ↓w_isIB]
      exact id
    simp only [↓w_ok, ↓kB_ok, ↓kI_ok, ↓w_K, ↓w_V, ↓w_vR, ↓w_Op, ↓kO1_ok, ↓kO2_ok, ↓w_Un, ↓w_bOf, ↓w_isB, ↓kBl_ok, ↓kBl_exc, ↓kIf_ok, ↓kIf_exc, ↓w_okB, ↓w_okD, ↓w_bAnd, ↓w_bOr, ↓w_bNot, ↓kNot_ok, ↓kNot_exc, ↓w_eAnd, ↓w_eOr, ↓w_eNot, ↓kNotV_ok, ↓w_eIf, ↓w_aNil, ↓w_aCons, ↓kA1_ok, ↓kA2_ok, ↓kA1_exc, ↓kA2_exc, ↓w_Tup, ↓w_Lst, ↓w_mkT, ↓w_mkL, ↓w_Dct, ↓w_Call, ↓w_goS, ↓w_Bi, ↓w_Isi, ↓w_Cut, ↓kC1_ok, ↓kC2_ok, ↓kC3_ok, ↓w_oNone, ↓w_oSome, ↓w_vO, ↓w_Chain, ↓kCh1_ok, ↓kCh2_ok, ↓kCh3_ok, ↓w_chA, ↓w_App, ↓w_Ins, ↓w_insG, ↓z_nx, ↓z_End, ↓z_Seq, ↓kT_nx, ↓kT_rt, ↓kT_bk, ↓kT_ct, ↓kT_exc, ↓z_If, ↓kIfS_ok, ↓kIfS_exc, ↓z_Ret, ↓kRet_ok, ↓kRet_exc, ↓z_Expr, ↓kNx_ok, ↓kNx_exc, ↓z_Asg, ↓kAs_ok, ↓kAs_exc, ↓z_tgO, t_N, t_T, t_nil, t_cons, t_G, t_gnil, t_gcons, t_bind, ↓z_Par, ↓kPar_ok, ↓z_Raise, ↓z_Break, ↓z_Cont, ↓z_For, ↓kSrc_ok, ↓w_Range, ↓w_rgF, ↓w_SeqI, ↓w_sqT, ↓w_Zip, ↓w_zpT, ↓w_Comp, ↓kCo_ok, ↓w_of, ↓kF_rt, ↓kF_nx, ↓kF_exc, ↓w_add, ↓w_sub, ↓w_pow10, ↓w_neg, ↓w_lt, ↓w_le, ↓w_gt, ↓w_ge, ↓w_ix0, ↓w_ix1, ↓w_ix2, ↓w_ix3, ↓w_eqI, ↓w_eqS, ↓w_eqT2, ↓w_abs, ↓w_lenT, ↓w_lenS, ↓w_max, ↓w_min, ↓w_intT, ↓w_intF, ↓w_isBool, ↓w_isTup, ↓w_tupT, ↓w_listT, ↓w_cutT, ↓brw_t, ↓brw_f, ↓brz_t, ↓brz_f, List.getElem?_cons_zero, List.getElem?_cons_succ, List.set_cons_zero, List.set_cons_succ, List.length_cons, List.length_nil, List.map_cons, List.map_nil, List.replicate, List.cons_append, List.nil_append, small, Nat.reduceAdd, Nat.reduceLeDiff, Nat.reduceEqDiff, Int.cast_ofNat_Int, Int.reduceBEq, BEq.rfl, ↓w_Yes, ↓w_bTru, ↓augF_ok, ↓z_Put, ↓putF_ok, ↓putG_ok, ↓w_isNn, ↓w_isNt, wipeF_nil, wipeF_cons, Int.reduceLE, Int.reduceLT, Int.reduceToNat, Int.reducePow, Int.reduceNeg, Int.reduceSub, Int.reduceAdd, Int.reduceMul, decide_true, decide_false, Bool.not_true, Bool.not_false, Bool.bne_false, Bool.bne_true, ↓w_aStar, ↓w_stT, ↓kSt_ok, ↓w_aDef, ↓kDf_ok, ↓w_Cnt, ↓w_Ext, ↓w_isBB, ↓w_isIB, ixr _ _ l9, less_w fr.b1 fr.b2 mil one]
    refine brzP (fun h1 => ?_) fun h1 => ?_
    rotate_left
    · have q := rest s h9 (sk.mono (by decide)) l9
      revert q
      simp only [↓w_ok, ↓kB_ok, ↓kI_ok, ↓w_K, ↓w_V, ↓w_vR, ↓w_Op, ↓kO1_ok, ↓kO2_ok, ↓w_Un, ↓w_bOf, ↓w_isB, ↓kBl_ok, ↓kBl_exc, ↓kIf_ok, ↓kIf_exc, ↓w_okB, ↓w_okD, ↓w_bAnd, ↓w_bOr, ↓w_bNot, ↓kNot_ok, ↓kNot_exc, ↓w_eAnd, ↓w_eOr, ↓w_eNot, ↓kNotV_ok, ↓w_eIf, ↓w_aNil, ↓w_aCons, ↓kA1_ok, ↓kA2_ok, ↓kA1_exc, ↓kA2_exc, ↓w_Tup, ↓w_Lst, ↓w_mkT, ↓w_mkL, ↓w_Dct, ↓w_Call, ↓w_goS, ↓w_Bi, ↓w_Isi, ↓w_Cut, ↓kC1_ok, ↓kC2_ok, ↓kC3_ok, ↓w_oNone, ↓w_oSome, ↓w_vO, ↓w_Chain, ↓kCh1_ok, ↓kCh2_ok, ↓kCh3_ok, ↓w_chA, ↓w_App, ↓w_Ins, ↓w_insG, ↓z_nx, ↓z_End, ↓z_Seq, ↓kT_nx, ↓kT_rt, ↓kT_bk, ↓kT_ct, ↓kT_exc, ↓z_If, ↓kIfS_ok, ↓kIfS_exc, ↓z_Ret, ↓kRet_ok, ↓kRet_exc, ↓z_Expr, ↓kNx_ok, ↓kNx_exc, ↓z_Asg, ↓kAs_ok, ↓kAs_exc, ↓z_tgO, t_N, t_T, t_nil, t_cons, t_G, t_gnil, t_gcons, t_bind, ↓z_Par, ↓kPar_ok, ↓z_Raise, ↓z_Break, ↓z_Cont, ↓z_For, ↓kSrc_ok, ↓w_Range, ↓w_rgF, ↓w_SeqI, ↓w_sqT, ↓w_Zip, ↓w_zpT, ↓w_Comp, ↓kCo_ok, ↓w_of, ↓kF_rt, ↓kF_nx, ↓kF_exc, ↓w_add, ↓w_sub, ↓w_pow10, ↓w_neg, ↓w_lt, ↓w_le, ↓w_gt, ↓w_ge, ↓w_ix0, ↓w_ix1, ↓w_ix2, ↓w_ix3, ↓w_eqI, ↓w_eqS, ↓w_eqT2, ↓w_abs, ↓w_lenT, ↓w_lenS, ↓w_max, ↓w_min, ↓w_intT, ↓w_intF, ↓w_isBool, ↓w_isTup, ↓w_tupT, ↓w_listT, ↓w_cutT, ↓brw_t, ↓brw_f, ↓brz_t, ↓brz_f, List.getElem?_cons_zero, List.getElem?_cons_succ, List.set_cons_zero, List.set_cons_succ, List.length_cons, List.length_nil, List.map_cons, List.map_nil, List.replicate, List.cons_append, List.nil_append, small, Nat.reduceAdd, Nat.reduceLeDiff, Nat.reduceEqDiff, Int.cast_ofNat_Int, Int.reduceBEq, BEq.rfl, ↓w_Yes, ↓w_bTru, ↓augF_ok, ↓z_Put, ↓putF_ok, ↓putG_ok, ↓w_isNn, ↓w_isNt, wipeF_nil, wipeF_cons, Int.reduceLE, Int.reduceLT, Int.reduceToNat, Int.reducePow, Int.reduceNeg, Int.reduceSub, Int.reduceAdd, Int.reduceMul, decide_true, decide_false, Bool.not_true, Bool.not_false, Bool.bne_false, Bool.bne_true, ↓w_aStar, ↓w_stT, ↓kSt_ok, ↓w_aDef, ↓kDf_ok, ↓w_Cnt, ↓w_Ext, ↓w_isBB, ↓w_isIB]
      exact id
    simp only [↓w_ok, ↓kB_ok, ↓kI_ok, ↓w_K, ↓w_V, ↓w_vR, ↓w_Op, ↓kO1_ok, ↓kO2_ok, ↓w_Un, ↓w_bOf, ↓w_isB, ↓kBl_ok, ↓kBl_exc, ↓kIf_ok, ↓kIf_exc, ↓w_okB, ↓w_okD, ↓w_bAnd, ↓w_bOr, ↓w_bNot, ↓kNot_ok, ↓kNot_exc, ↓w_eAnd, ↓w_eOr, ↓w_eNot, ↓kNotV_ok, ↓w_eIf, ↓w_aNil, ↓w_aCons, ↓kA1_ok, ↓kA2_ok, ↓kA1_exc, ↓kA2_exc, ↓w_Tup, ↓w_Lst, ↓w_mkT, ↓w_mkL, ↓w_Dct, ↓w_Call, ↓w_goS, ↓w_Bi, ↓w_Isi, ↓w_Cut, ↓kC1_ok, ↓kC2_ok, ↓kC3_ok, ↓w_oNone, ↓w_oSome, ↓w_vO, ↓w_Chain, ↓kCh1_ok, ↓kCh2_ok, ↓kCh3_ok, ↓w_chA, ↓w_App, ↓w_Ins, ↓w_insG, ↓z_nx, ↓z_End, ↓z_Seq, ↓kT_nx, ↓kT_rt, ↓kT_bk, ↓kT_ct, ↓kT_exc, ↓z_If, ↓kIfS_ok, ↓kIfS_exc, ↓z_Ret, ↓kRet_ok, ↓kRet_exc, ↓z_Expr, ↓kNx_ok, ↓kNx_exc, ↓z_Asg, ↓kAs_ok, ↓kAs_exc, ↓z_tgO, t_N, t_T, t_nil, t_cons, t_G, t_gnil, t_gcons, t_bind, ↓z_Par, ↓kPar_ok, ↓z_Raise, ↓z_Break, ↓z_Cont, ↓z_For, ↓kSrc_ok, ↓w_Range, ↓w_rgF, ↓w_SeqI, ↓w_sqT, ↓w_Zip, ↓w_zpT, ↓w_Comp, ↓kCo_ok, ↓w_of, ↓kF_rt, ↓kF_nx, ↓kF_exc, ↓w_add, ↓w_sub, ↓w_pow10, ↓w_neg, ↓w_lt, ↓w_le, ↓w_gt, ↓w_ge, ↓w_ix0, ↓w_ix1, ↓w_ix2, ↓w_ix3, ↓w_eqI, ↓w_eqS, ↓w_eqT2, ↓w_abs, ↓w_lenT, ↓w_lenS, ↓w_max, ↓w_min, ↓w_intT, ↓w_intF, ↓w_isBool, ↓w_isTup, ↓w_tupT, ↓w_listT, ↓w_cutT, ↓brw_t, ↓brw_f, ↓brz_t, ↓brz_f, List.getElem?_cons_zero, List.getElem?_cons_succ, List.set_cons_zero, List.set_cons_succ, List.length_cons, List.length_nil, List.map_cons, List.map_nil, List.replicate, List.cons_append, List.nil_append, small, Nat.reduceAdd, Nat.reduceLeDiff, Nat.reduceEqDiff, Int.cast_ofNat_Int, Int.reduceBEq, BEq.rfl, ↓w_Yes, ↓w_bTru, ↓augF_ok, ↓z_Put, ↓putF_ok, ↓putG_ok, ↓w_isNn, ↓w_isNt, wipeF_nil, wipeF_cons, Int.reduceLE, Int.reduceLT, Int.reduceToNat, Int.reducePow, Int.reduceNeg, Int.reduceSub, Int.reduceAdd, Int.reduceMul, decide_true, decide_false, Bool.not_true, Bool.not_false, Bool.bne_false, Bool.bne_true, ↓w_aStar, ↓w_stT, ↓kSt_ok, ↓w_aDef, ↓kDf_ok, ↓w_Cnt, ↓w_Ext, ↓w_isBB, ↓w_isIB, ixr _ _ l9]
    refine take_w P9 (by omega) (by decide) (by decide) fun y h10 y0 y1 P10 S10 => ?_
    have l10 := S10.lst nr l9
    have rp := fr.pos
    have q := rest ⟨r, y == 0, (1000000, 1), true⟩ h10 ⟨fr, ⟨(by decide : (1 : Int) ≤ 1), (by unfold gI; simp : gI 1000000 1 = 1), mil, one⟩, ⟨h0, (by omega : r.1 ≤ 1000000 * r.2)⟩, (by decide : mom (1000000, 1)), .inl (show r.1 * 1 < 1000000 * r.2 by omega)⟩ l10
    revert q
    simp only [↓w_ok, ↓kB_ok, ↓kI_ok, ↓w_K, ↓w_V, ↓w_vR, ↓w_Op, ↓kO1_ok, ↓kO2_ok, ↓w_Un, ↓w_bOf, ↓w_isB, ↓kBl_ok, ↓kBl_exc, ↓kIf_ok, ↓kIf_exc, ↓w_okB, ↓w_okD, ↓w_bAnd, ↓w_bOr, ↓w_bNot, ↓kNot_ok, ↓kNot_exc, ↓w_eAnd, ↓w_eOr, ↓w_eNot, ↓kNotV_ok, ↓w_eIf, ↓w_aNil, ↓w_aCons, ↓kA1_ok, ↓kA2_ok, ↓kA1_exc, ↓kA2_exc, ↓w_Tup, ↓w_Lst, ↓w_mkT, ↓w_mkL, ↓w_Dct, ↓w_Call, ↓w_goS, ↓w_Bi, ↓w_Isi, ↓w_Cut, ↓kC1_ok, ↓kC2_ok, ↓kC3_ok, ↓w_oNone, ↓w_oSome, ↓w_vO, ↓w_Chain, ↓kCh1_ok, ↓kCh2_ok, ↓kCh3_ok, ↓w_chA, ↓w_App, ↓w_Ins, ↓w_insG, ↓z_nx, ↓z_End, ↓z_Seq, ↓kT_nx, ↓kT_rt, ↓kT_bk, ↓kT_ct, ↓kT_exc, ↓z_If, ↓kIfS_ok, ↓kIfS_exc, ↓z_Ret, ↓kRet_ok, ↓kRet_exc, ↓z_Expr, ↓kNx_ok, ↓kNx_exc, ↓z_Asg, ↓kAs_ok, ↓kAs_exc, ↓z_tgO, t_N, t_T, t_nil, t_cons, t_G, t_gnil, t_gcons, t_bind, ↓z_Par, ↓kPar_ok, ↓z_Raise, ↓z_Break, ↓z_Cont, ↓z_For, ↓kSrc_ok, ↓w_Range, ↓w_rgF, ↓w_SeqI, ↓w_sqT, ↓w_Zip, ↓w_zpT, ↓w_Comp, ↓kCo_ok, ↓w_of, ↓kF_rt, ↓kF_nx, ↓kF_exc, ↓w_add, ↓w_sub, ↓w_pow10, ↓w_neg, ↓w_lt, ↓w_le, ↓w_gt, ↓w_ge, ↓w_ix0, ↓w_ix1, ↓w_ix2, ↓w_ix3, ↓w_eqI, ↓w_eqS, ↓w_eqT2, ↓w_abs, ↓w_lenT, ↓w_lenS, ↓w_max, ↓w_min, ↓w_intT, ↓w_intF, ↓w_isBool, ↓w_isTup, ↓w_tupT, ↓w_listT, ↓w_cutT, ↓brw_t, ↓brw_f, ↓brz_t, ↓brz_f, List.getElem?_cons_zero, List.getElem?_cons_succ, List.set_cons_zero, List.set_cons_succ, List.length_cons, List.length_nil, List.map_cons, List.map_nil, List.replicate, List.cons_append, List.nil_append, small, Nat.reduceAdd, Nat.reduceLeDiff, Nat.reduceEqDiff, Int.cast_ofNat_Int, Int.reduceBEq, BEq.rfl, ↓w_Yes, ↓w_bTru, ↓augF_ok, ↓z_Put, ↓putF_ok, ↓putG_ok, ↓w_isNn, ↓w_isNt, wipeF_nil, wipeF_cons, Int.reduceLE, Int.reduceLT, Int.reduceToNat, Int.reducePow, Int.reduceNeg, Int.reduceSub, Int.reduceAdd, Int.reduceMul, decide_true, decide_false, Bool.not_true, Bool.not_false, Bool.bne_false, Bool.bne_true, ↓w_aStar, ↓w_stT, ↓kSt_ok, ↓w_aDef, ↓kDf_ok, ↓w_Cnt, ↓w_Ext, ↓w_isBB, ↓w_isIB]
    exact id
theorem q_ok (o u : Int) (B : Nat) (hu : 1 ≤ u) (hg : gI o u = 1) (h1 : Bd B o) (h2 : Bd B u) : Fq B (o, u) := ⟨hu, hg, h1, h2⟩
theorem law_ok (ns : List Int) (hns : ns.length ≤ 63) : ∃ h', flaw [.scr ns] [] = .ok (.bl true) h' := by
  suffices hw : W (flaw [.scr ns] []) fun s => ∃ d h', s = .ok d h' ∧ d = .bl true by
    obtain ⟨d, h', e, rfl⟩ := hw
    exact ⟨h', e⟩
  unfold flaw blaw
  simp only [↓w_ok, ↓kB_ok, ↓kI_ok, ↓w_K, ↓w_V, ↓w_vR, ↓w_Op, ↓kO1_ok, ↓kO2_ok, ↓w_Un, ↓w_bOf, ↓w_isB, ↓kBl_ok, ↓kBl_exc, ↓kIf_ok, ↓kIf_exc, ↓w_okB, ↓w_okD, ↓w_bAnd, ↓w_bOr, ↓w_bNot, ↓kNot_ok, ↓kNot_exc, ↓w_eAnd, ↓w_eOr, ↓w_eNot, ↓kNotV_ok, ↓w_eIf, ↓w_aNil, ↓w_aCons, ↓kA1_ok, ↓kA2_ok, ↓kA1_exc, ↓kA2_exc, ↓w_Tup, ↓w_Lst, ↓w_mkT, ↓w_mkL, ↓w_Dct, ↓w_Call, ↓w_goS, ↓w_Bi, ↓w_Isi, ↓w_Cut, ↓kC1_ok, ↓kC2_ok, ↓kC3_ok, ↓w_oNone, ↓w_oSome, ↓w_vO, ↓w_Chain, ↓kCh1_ok, ↓kCh2_ok, ↓kCh3_ok, ↓w_chA, ↓w_App, ↓w_Ins, ↓w_insG, ↓z_nx, ↓z_End, ↓z_Seq, ↓kT_nx, ↓kT_rt, ↓kT_bk, ↓kT_ct, ↓kT_exc, ↓z_If, ↓kIfS_ok, ↓kIfS_exc, ↓z_Ret, ↓kRet_ok, ↓kRet_exc, ↓z_Expr, ↓kNx_ok, ↓kNx_exc, ↓z_Asg, ↓kAs_ok, ↓kAs_exc, ↓z_tgO, t_N, t_T, t_nil, t_cons, t_G, t_gnil, t_gcons, t_bind, ↓z_Par, ↓kPar_ok, ↓z_Raise, ↓z_Break, ↓z_Cont, ↓z_For, ↓kSrc_ok, ↓w_Range, ↓w_rgF, ↓w_SeqI, ↓w_sqT, ↓w_Zip, ↓w_zpT, ↓w_Comp, ↓kCo_ok, ↓w_of, ↓kF_rt, ↓kF_nx, ↓kF_exc, ↓w_add, ↓w_sub, ↓w_pow10, ↓w_neg, ↓w_lt, ↓w_le, ↓w_gt, ↓w_ge, ↓w_ix0, ↓w_ix1, ↓w_ix2, ↓w_ix3, ↓w_eqI, ↓w_eqS, ↓w_eqT2, ↓w_abs, ↓w_lenT, ↓w_lenS, ↓w_max, ↓w_min, ↓w_intT, ↓w_intF, ↓w_isBool, ↓w_isTup, ↓w_tupT, ↓w_listT, ↓w_cutT, ↓brw_t, ↓brw_f, ↓brz_t, ↓brz_f, List.getElem?_cons_zero, List.getElem?_cons_succ, List.set_cons_zero, List.set_cons_succ, List.length_cons, List.length_nil, List.map_cons, List.map_nil, List.replicate, List.cons_append, List.nil_append, small, Nat.reduceAdd, Nat.reduceLeDiff, Nat.reduceEqDiff, Int.cast_ofNat_Int, Int.reduceBEq, BEq.rfl, ↓w_Yes, ↓w_bTru, ↓augF_ok, ↓z_Put, ↓putF_ok, ↓putG_ok, ↓w_isNn, ↓w_isNt, wipeF_nil, wipeF_cons, Int.reduceLE, Int.reduceLT, Int.reduceToNat, Int.reducePow, Int.reduceNeg, Int.reduceSub, Int.reduceAdd, Int.reduceMul, decide_true, decide_false, Bool.not_true, Bool.not_false, Bool.bne_false, Bool.bne_true, ↓w_aStar, ↓w_stT, ↓kSt_ok, ↓w_aDef, ↓kDf_ok, ↓w_Cnt, ↓w_Ext, ↓w_isBB, ↓w_isIB]
  obtain ⟨m, hm, hm2⟩ := cells_n ns.length 63 (by decide) (by decide)
  have hm3 : m ≤ 63 := hm2
  rw [hm]
  rw [iR_ok (show m < 1000000 by omega), w_ok, kSrc_ok]
  refine range_t (I := fun i fr h => ∃ x1 x2 x3 x4 x5 x6 x7 x13, fr = [some (.scr ns), x1, x2, x3, x4, x5, x6, x7, none, none, none, none, none, x13]) ?_ ?_ ?_
  · exact ⟨_, _, _, _, _, _, _, _, rfl⟩
  · rintro i fr h hi ⟨x1, x2, x3, x4, x5, x6, x7, x13, rfl⟩
    simp only [↓w_ok, ↓kB_ok, ↓kI_ok, ↓w_K, ↓w_V, ↓w_vR, ↓w_Op, ↓kO1_ok, ↓kO2_ok, ↓w_Un, ↓w_bOf, ↓w_isB, ↓kBl_ok, ↓kBl_exc, ↓kIf_ok, ↓kIf_exc, ↓w_okB, ↓w_okD, ↓w_bAnd, ↓w_bOr, ↓w_bNot, ↓kNot_ok, ↓kNot_exc, ↓w_eAnd, ↓w_eOr, ↓w_eNot, ↓kNotV_ok, ↓w_eIf, ↓w_aNil, ↓w_aCons, ↓kA1_ok, ↓kA2_ok, ↓kA1_exc, ↓kA2_exc, ↓w_Tup, ↓w_Lst, ↓w_mkT, ↓w_mkL, ↓w_Dct, ↓w_Call, ↓w_goS, ↓w_Bi, ↓w_Isi, ↓w_Cut, ↓kC1_ok, ↓kC2_ok, ↓kC3_ok, ↓w_oNone, ↓w_oSome, ↓w_vO, ↓w_Chain, ↓kCh1_ok, ↓kCh2_ok, ↓kCh3_ok, ↓w_chA, ↓w_App, ↓w_Ins, ↓w_insG, ↓z_nx, ↓z_End, ↓z_Seq, ↓kT_nx, ↓kT_rt, ↓kT_bk, ↓kT_ct, ↓kT_exc, ↓z_If, ↓kIfS_ok, ↓kIfS_exc, ↓z_Ret, ↓kRet_ok, ↓kRet_exc, ↓z_Expr, ↓kNx_ok, ↓kNx_exc, ↓z_Asg, ↓kAs_ok, ↓kAs_exc, ↓z_tgO, t_N, t_T, t_nil, t_cons, t_G, t_gnil, t_gcons, t_bind, ↓z_Par, ↓kPar_ok, ↓z_Raise, ↓z_Break, ↓z_Cont, ↓z_For, ↓kSrc_ok, ↓w_Range, ↓w_rgF, ↓w_SeqI, ↓w_sqT, ↓w_Zip, ↓w_zpT, ↓w_Comp, ↓kCo_ok, ↓w_of, ↓kF_rt, ↓kF_nx, ↓kF_exc, ↓w_add, ↓w_sub, ↓w_pow10, ↓w_neg, ↓w_lt, ↓w_le, ↓w_gt, ↓w_ge, ↓w_ix0, ↓w_ix1, ↓w_ix2, ↓w_ix3, ↓w_eqI, ↓w_eqS, ↓w_eqT2, ↓w_abs, ↓w_lenT, ↓w_lenS, ↓w_max, ↓w_min, ↓w_intT, ↓w_intF, ↓w_isBool, ↓w_isTup, ↓w_tupT, ↓w_listT, ↓w_cutT, ↓brw_t, ↓brw_f, ↓brz_t, ↓brz_f, List.getElem?_cons_zero, List.getElem?_cons_succ, List.set_cons_zero, List.set_cons_succ, List.length_cons, List.length_nil, List.map_cons, List.map_nil, List.replicate, List.cons_append, List.nil_append, small, Nat.reduceAdd, Nat.reduceLeDiff, Nat.reduceEqDiff, Int.cast_ofNat_Int, Int.reduceBEq, BEq.rfl, ↓w_Yes, ↓w_bTru, ↓augF_ok, ↓z_Put, ↓putF_ok, ↓putG_ok, ↓w_isNn, ↓w_isNt, wipeF_nil, wipeF_cons, Int.reduceLE, Int.reduceLT, Int.reduceToNat, Int.reducePow, Int.reduceNeg, Int.reduceSub, Int.reduceAdd, Int.reduceMul, decide_true, decide_false, Bool.not_true, Bool.not_false, Bool.bne_false, Bool.bne_true, ↓w_aStar, ↓w_stT, ↓kSt_ok, ↓w_aDef, ↓kDf_ok, ↓w_Cnt, ↓w_Ext, ↓w_isBB, ↓w_isIB]
    exact turn_w (by omega) fun x2 x3 x4 x5 x6 x7 h1 => ⟨_, _, _, _, _, _, _, _, rfl⟩
  · rintro fr h ⟨x1, x2, x3, x4, x5, x6, x7, x13, rfl⟩
    have q01 : Fq 2 (0, 1) := q_ok 0 1 2 (by decide) (by unfold gI; simp) (Bd.of (by decide) (by decide)) (Bd.of (by decide) (by decide))
    have q11 : Fq 2 (1, 1) := q_ok 1 1 2 (by decide) (by unfold gI; simp) (Bd.of (by decide) (by decide)) (Bd.of (by decide) (by decide))
    have q21 : Fq 2 (2, 1) := q_ok 2 1 2 (by decide) (by unfold gI; simp) (Bd.of (by decide) (by decide)) (Bd.of (by decide) (by decide))
    have qm1 : Fq 2 (-1, 1) := q_ok (-1) 1 2 (by decide) (by unfold gI; simp) (Bd.of (by decide) (by decide)) (Bd.of (by decide) (by decide))
    have flat : LnOk 2 ⟨(0, 1), (0, 1)⟩ := ⟨q01, q01⟩
    have rise : LnOk 2 ⟨(-1, 1), (1, 1)⟩ := ⟨qm1, q11⟩
    have spo : SpOk 2 ⟨(1, 1), false, (2, 1), false⟩ := ⟨q11, q21, by decide, by decide, .inl (by decide)⟩
    have sps : SpOk 2 ⟨(1, 1), true, (2, 1), true⟩ := ⟨q11, q21, by decide, by decide, .inl (by decide)⟩
    have sp1 : SpOk 2 ⟨(0, 1), true, (1, 1), true⟩ := ⟨q01, q11, by decide, by decide, .inl (by decide)⟩
    have sp2 : SpOk 2 ⟨(0, 1), true, (1, 1), false⟩ := ⟨q01, q11, by decide, by decide, .inl (by decide)⟩
    have H : ∀ (l : Ln) (ab : Bool) (s : Spl) (v : Bool), LnOk 2 l → SpOk 2 s → thr l.x l.y ab s = v → ∀ (h : Hq) (Φ : Rs D → Prop), (∀ h1, Gr h h1 → Φ (.ok (.bl v) h1)) → W (S_holds_through [.tup [dln l, .bl ab], dsp s] h) Φ :=
      fun l ab s v k ks e h Φ kk => holds_w (c := (l, ab)) k ks (by decide) (by decide) fun h1 g => by rw [e]; exact kk h1 g
    have F : ∀ (l : Ln) (ab : Bool) (s : Spl) (v : Bool), LnOk 2 l → SpOk 2 s → thr (-l.x) (-l.y) (!ab) s = v → ∀ (h : Hq) (Φ : Rs D → Prop), (∀ h1, Gr h h1 → Φ (.ok (.bl v) h1)) → W (S_fails_through [.tup [dln l, .bl ab], dsp s] h) Φ :=
      fun l ab s v k ks e h Φ kk => fails_w (c := (l, ab)) k ks (by decide) (by decide) fun h1 g => by rw [e]; exact kk h1 g
    have sm : ∀ n, n ≤ 10 → small n = true := fun n h => decide_eq_true (by omega)
    simp only [↓w_ok, ↓kB_ok, ↓kI_ok, ↓w_K, ↓w_V, ↓w_vR, ↓w_Op, ↓kO1_ok, ↓kO2_ok, ↓w_Un, ↓w_bOf, ↓w_isB, ↓kBl_ok, ↓kBl_exc, ↓kIf_ok, ↓kIf_exc, ↓w_okB, ↓w_okD, ↓w_bAnd, ↓w_bOr, ↓w_bNot, ↓kNot_ok, ↓kNot_exc, ↓w_eAnd, ↓w_eOr, ↓w_eNot, ↓kNotV_ok, ↓w_eIf, ↓w_aNil, ↓w_aCons, ↓kA1_ok, ↓kA2_ok, ↓kA1_exc, ↓kA2_exc, ↓w_Tup, ↓w_Lst, ↓w_mkT, ↓w_mkL, ↓w_Dct, ↓w_Call, ↓w_goS, ↓w_Bi, ↓w_Isi, ↓w_Cut, ↓kC1_ok, ↓kC2_ok, ↓kC3_ok, ↓w_oNone, ↓w_oSome, ↓w_vO, ↓w_Chain, ↓kCh1_ok, ↓kCh2_ok, ↓kCh3_ok, ↓w_chA, ↓w_App, ↓w_Ins, ↓w_insG, ↓z_nx, ↓z_End, ↓z_Seq, ↓kT_nx, ↓kT_rt, ↓kT_bk, ↓kT_ct, ↓kT_exc, ↓z_If, ↓kIfS_ok, ↓kIfS_exc, ↓z_Ret, ↓kRet_ok, ↓kRet_exc, ↓z_Expr, ↓kNx_ok, ↓kNx_exc, ↓z_Asg, ↓kAs_ok, ↓kAs_exc, ↓z_tgO, t_N, t_T, t_nil, t_cons, t_G, t_gnil, t_gcons, t_bind, ↓z_Par, ↓kPar_ok, ↓z_Raise, ↓z_Break, ↓z_Cont, ↓z_For, ↓kSrc_ok, ↓w_Range, ↓w_rgF, ↓w_SeqI, ↓w_sqT, ↓w_Zip, ↓w_zpT, ↓w_Comp, ↓kCo_ok, ↓w_of, ↓kF_rt, ↓kF_nx, ↓kF_exc, ↓w_add, ↓w_sub, ↓w_pow10, ↓w_neg, ↓w_lt, ↓w_le, ↓w_gt, ↓w_ge, ↓w_ix0, ↓w_ix1, ↓w_ix2, ↓w_ix3, ↓w_eqI, ↓w_eqS, ↓w_eqT2, ↓w_abs, ↓w_lenT, ↓w_lenS, ↓w_max, ↓w_min, ↓w_intT, ↓w_intF, ↓w_isBool, ↓w_isTup, ↓w_tupT, ↓w_listT, ↓w_cutT, ↓brw_t, ↓brw_f, ↓brz_t, ↓brz_f, List.getElem?_cons_zero, List.getElem?_cons_succ, List.set_cons_zero, List.set_cons_succ, List.length_cons, List.length_nil, List.map_cons, List.map_nil, List.replicate, List.cons_append, List.nil_append, small, Nat.reduceAdd, Nat.reduceLeDiff, Nat.reduceEqDiff, Int.cast_ofNat_Int, Int.reduceBEq, BEq.rfl, ↓w_Yes, ↓w_bTru, ↓augF_ok, ↓z_Put, ↓putF_ok, ↓putG_ok, ↓w_isNn, ↓w_isNt, wipeF_nil, wipeF_cons, Int.reduceLE, Int.reduceLT, Int.reduceToNat, Int.reducePow, Int.reduceNeg, Int.reduceSub, Int.reduceAdd, Int.reduceMul, decide_true, decide_false, Bool.not_true, Bool.not_false, Bool.bne_false, Bool.bne_true, ↓w_aStar, ↓w_stT, ↓kSt_ok, ↓w_aDef, ↓kDf_ok, ↓w_Cnt, ↓w_Ext, ↓w_isBB, ↓w_isIB]
    refine H _ _ _ false flat spo (by decide) _ _ fun h1 g1 => ?_
    simp only [↓w_ok, ↓kB_ok, ↓kI_ok, ↓w_K, ↓w_V, ↓w_vR, ↓w_Op, ↓kO1_ok, ↓kO2_ok, ↓w_Un, ↓w_bOf, ↓w_isB, ↓kBl_ok, ↓kBl_exc, ↓kIf_ok, ↓kIf_exc, ↓w_okB, ↓w_okD, ↓w_bAnd, ↓w_bOr, ↓w_bNot, ↓kNot_ok, ↓kNot_exc, ↓w_eAnd, ↓w_eOr, ↓w_eNot, ↓kNotV_ok, ↓w_eIf, ↓w_aNil, ↓w_aCons, ↓kA1_ok, ↓kA2_ok, ↓kA1_exc, ↓kA2_exc, ↓w_Tup, ↓w_Lst, ↓w_mkT, ↓w_mkL, ↓w_Dct, ↓w_Call, ↓w_goS, ↓w_Bi, ↓w_Isi, ↓w_Cut, ↓kC1_ok, ↓kC2_ok, ↓kC3_ok, ↓w_oNone, ↓w_oSome, ↓w_vO, ↓w_Chain, ↓kCh1_ok, ↓kCh2_ok, ↓kCh3_ok, ↓w_chA, ↓w_App, ↓w_Ins, ↓w_insG, ↓z_nx, ↓z_End, ↓z_Seq, ↓kT_nx, ↓kT_rt, ↓kT_bk, ↓kT_ct, ↓kT_exc, ↓z_If, ↓kIfS_ok, ↓kIfS_exc, ↓z_Ret, ↓kRet_ok, ↓kRet_exc, ↓z_Expr, ↓kNx_ok, ↓kNx_exc, ↓z_Asg, ↓kAs_ok, ↓kAs_exc, ↓z_tgO, t_N, t_T, t_nil, t_cons, t_G, t_gnil, t_gcons, t_bind, ↓z_Par, ↓kPar_ok, ↓z_Raise, ↓z_Break, ↓z_Cont, ↓z_For, ↓kSrc_ok, ↓w_Range, ↓w_rgF, ↓w_SeqI, ↓w_sqT, ↓w_Zip, ↓w_zpT, ↓w_Comp, ↓kCo_ok, ↓w_of, ↓kF_rt, ↓kF_nx, ↓kF_exc, ↓w_add, ↓w_sub, ↓w_pow10, ↓w_neg, ↓w_lt, ↓w_le, ↓w_gt, ↓w_ge, ↓w_ix0, ↓w_ix1, ↓w_ix2, ↓w_ix3, ↓w_eqI, ↓w_eqS, ↓w_eqT2, ↓w_abs, ↓w_lenT, ↓w_lenS, ↓w_max, ↓w_min, ↓w_intT, ↓w_intF, ↓w_isBool, ↓w_isTup, ↓w_tupT, ↓w_listT, ↓w_cutT, ↓brw_t, ↓brw_f, ↓brz_t, ↓brz_f, List.getElem?_cons_zero, List.getElem?_cons_succ, List.set_cons_zero, List.set_cons_succ, List.length_cons, List.length_nil, List.map_cons, List.map_nil, List.replicate, List.cons_append, List.nil_append, small, Nat.reduceAdd, Nat.reduceLeDiff, Nat.reduceEqDiff, Int.cast_ofNat_Int, Int.reduceBEq, BEq.rfl, ↓w_Yes, ↓w_bTru, ↓augF_ok, ↓z_Put, ↓putF_ok, ↓putG_ok, ↓w_isNn, ↓w_isNt, wipeF_nil, wipeF_cons, Int.reduceLE, Int.reduceLT, Int.reduceToNat, Int.reducePow, Int.reduceNeg, Int.reduceSub, Int.reduceAdd, Int.reduceMul, decide_true, decide_false, Bool.not_true, Bool.not_false, Bool.bne_false, Bool.bne_true, ↓w_aStar, ↓w_stT, ↓kSt_ok, ↓w_aDef, ↓kDf_ok, ↓w_Cnt, ↓w_Ext, ↓w_isBB, ↓w_isIB]
    refine F _ _ _ true flat spo (by decide) _ _ fun h2 g2 => ?_
    simp only [↓w_ok, ↓kB_ok, ↓kI_ok, ↓w_K, ↓w_V, ↓w_vR, ↓w_Op, ↓kO1_ok, ↓kO2_ok, ↓w_Un, ↓w_bOf, ↓w_isB, ↓kBl_ok, ↓kBl_exc, ↓kIf_ok, ↓kIf_exc, ↓w_okB, ↓w_okD, ↓w_bAnd, ↓w_bOr, ↓w_bNot, ↓kNot_ok, ↓kNot_exc, ↓w_eAnd, ↓w_eOr, ↓w_eNot, ↓kNotV_ok, ↓w_eIf, ↓w_aNil, ↓w_aCons, ↓kA1_ok, ↓kA2_ok, ↓kA1_exc, ↓kA2_exc, ↓w_Tup, ↓w_Lst, ↓w_mkT, ↓w_mkL, ↓w_Dct, ↓w_Call, ↓w_goS, ↓w_Bi, ↓w_Isi, ↓w_Cut, ↓kC1_ok, ↓kC2_ok, ↓kC3_ok, ↓w_oNone, ↓w_oSome, ↓w_vO, ↓w_Chain, ↓kCh1_ok, ↓kCh2_ok, ↓kCh3_ok, ↓w_chA, ↓w_App, ↓w_Ins, ↓w_insG, ↓z_nx, ↓z_End, ↓z_Seq, ↓kT_nx, ↓kT_rt, ↓kT_bk, ↓kT_ct, ↓kT_exc, ↓z_If, ↓kIfS_ok, ↓kIfS_exc, ↓z_Ret, ↓kRet_ok, ↓kRet_exc, ↓z_Expr, ↓kNx_ok, ↓kNx_exc, ↓z_Asg, ↓kAs_ok, ↓kAs_exc, ↓z_tgO, t_N, t_T, t_nil, t_cons, t_G, t_gnil, t_gcons, t_bind, ↓z_Par, ↓kPar_ok, ↓z_Raise, ↓z_Break, ↓z_Cont, ↓z_For, ↓kSrc_ok, ↓w_Range, ↓w_rgF, ↓w_SeqI, ↓w_sqT, ↓w_Zip, ↓w_zpT, ↓w_Comp, ↓kCo_ok, ↓w_of, ↓kF_rt, ↓kF_nx, ↓kF_exc, ↓w_add, ↓w_sub, ↓w_pow10, ↓w_neg, ↓w_lt, ↓w_le, ↓w_gt, ↓w_ge, ↓w_ix0, ↓w_ix1, ↓w_ix2, ↓w_ix3, ↓w_eqI, ↓w_eqS, ↓w_eqT2, ↓w_abs, ↓w_lenT, ↓w_lenS, ↓w_max, ↓w_min, ↓w_intT, ↓w_intF, ↓w_isBool, ↓w_isTup, ↓w_tupT, ↓w_listT, ↓w_cutT, ↓brw_t, ↓brw_f, ↓brz_t, ↓brz_f, List.getElem?_cons_zero, List.getElem?_cons_succ, List.set_cons_zero, List.set_cons_succ, List.length_cons, List.length_nil, List.map_cons, List.map_nil, List.replicate, List.cons_append, List.nil_append, small, Nat.reduceAdd, Nat.reduceLeDiff, Nat.reduceEqDiff, Int.cast_ofNat_Int, Int.reduceBEq, BEq.rfl, ↓w_Yes, ↓w_bTru, ↓augF_ok, ↓z_Put, ↓putF_ok, ↓putG_ok, ↓w_isNn, ↓w_isNt, wipeF_nil, wipeF_cons, Int.reduceLE, Int.reduceLT, Int.reduceToNat, Int.reducePow, Int.reduceNeg, Int.reduceSub, Int.reduceAdd, Int.reduceMul, decide_true, decide_false, Bool.not_true, Bool.not_false, Bool.bne_false, Bool.bne_true, ↓w_aStar, ↓w_stT, ↓kSt_ok, ↓w_aDef, ↓kDf_ok, ↓w_Cnt, ↓w_Ext, ↓w_isBB, ↓w_isIB, w_apF (lst_new h2 _)]
    refine H _ _ _ true flat spo (by decide) _ _ fun h3 g3 => ?_
    have l3 := g3.lst (lst_new h2 [D.bl false, D.bl true])
    have z3 := lstAt_lt l3
    simp only [↓w_ok, ↓kB_ok, ↓kI_ok, ↓w_K, ↓w_V, ↓w_vR, ↓w_Op, ↓kO1_ok, ↓kO2_ok, ↓w_Un, ↓w_bOf, ↓w_isB, ↓kBl_ok, ↓kBl_exc, ↓kIf_ok, ↓kIf_exc, ↓w_okB, ↓w_okD, ↓w_bAnd, ↓w_bOr, ↓w_bNot, ↓kNot_ok, ↓kNot_exc, ↓w_eAnd, ↓w_eOr, ↓w_eNot, ↓kNotV_ok, ↓w_eIf, ↓w_aNil, ↓w_aCons, ↓kA1_ok, ↓kA2_ok, ↓kA1_exc, ↓kA2_exc, ↓w_Tup, ↓w_Lst, ↓w_mkT, ↓w_mkL, ↓w_Dct, ↓w_Call, ↓w_goS, ↓w_Bi, ↓w_Isi, ↓w_Cut, ↓kC1_ok, ↓kC2_ok, ↓kC3_ok, ↓w_oNone, ↓w_oSome, ↓w_vO, ↓w_Chain, ↓kCh1_ok, ↓kCh2_ok, ↓kCh3_ok, ↓w_chA, ↓w_App, ↓w_Ins, ↓w_insG, ↓z_nx, ↓z_End, ↓z_Seq, ↓kT_nx, ↓kT_rt, ↓kT_bk, ↓kT_ct, ↓kT_exc, ↓z_If, ↓kIfS_ok, ↓kIfS_exc, ↓z_Ret, ↓kRet_ok, ↓kRet_exc, ↓z_Expr, ↓kNx_ok, ↓kNx_exc, ↓z_Asg, ↓kAs_ok, ↓kAs_exc, ↓z_tgO, t_N, t_T, t_nil, t_cons, t_G, t_gnil, t_gcons, t_bind, ↓z_Par, ↓kPar_ok, ↓z_Raise, ↓z_Break, ↓z_Cont, ↓z_For, ↓kSrc_ok, ↓w_Range, ↓w_rgF, ↓w_SeqI, ↓w_sqT, ↓w_Zip, ↓w_zpT, ↓w_Comp, ↓kCo_ok, ↓w_of, ↓kF_rt, ↓kF_nx, ↓kF_exc, ↓w_add, ↓w_sub, ↓w_pow10, ↓w_neg, ↓w_lt, ↓w_le, ↓w_gt, ↓w_ge, ↓w_ix0, ↓w_ix1, ↓w_ix2, ↓w_ix3, ↓w_eqI, ↓w_eqS, ↓w_eqT2, ↓w_abs, ↓w_lenT, ↓w_lenS, ↓w_max, ↓w_min, ↓w_intT, ↓w_intF, ↓w_isBool, ↓w_isTup, ↓w_tupT, ↓w_listT, ↓w_cutT, ↓brw_t, ↓brw_f, ↓brz_t, ↓brz_f, List.getElem?_cons_zero, List.getElem?_cons_succ, List.set_cons_zero, List.set_cons_succ, List.length_cons, List.length_nil, List.map_cons, List.map_nil, List.replicate, List.cons_append, List.nil_append, small, Nat.reduceAdd, Nat.reduceLeDiff, Nat.reduceEqDiff, Int.cast_ofNat_Int, Int.reduceBEq, BEq.rfl, ↓w_Yes, ↓w_bTru, ↓augF_ok, ↓z_Put, ↓putF_ok, ↓putG_ok, ↓w_isNn, ↓w_isNt, wipeF_nil, wipeF_cons, Int.reduceLE, Int.reduceLT, Int.reduceToNat, Int.reducePow, Int.reduceNeg, Int.reduceSub, Int.reduceAdd, Int.reduceMul, decide_true, decide_false, Bool.not_true, Bool.not_false, Bool.bne_false, Bool.bne_true, ↓w_aStar, ↓w_stT, ↓kSt_ok, ↓w_aDef, ↓kDf_ok, ↓w_Cnt, ↓w_Ext, ↓w_isBB, ↓w_isIB, w_apG l3 (sm _ (by simp))]
    refine H _ _ _ true rise spo (by decide) _ _ fun h4 g4 => ?_
    simp only [↓w_ok, ↓kB_ok, ↓kI_ok, ↓w_K, ↓w_V, ↓w_vR, ↓w_Op, ↓kO1_ok, ↓kO2_ok, ↓w_Un, ↓w_bOf, ↓w_isB, ↓kBl_ok, ↓kBl_exc, ↓kIf_ok, ↓kIf_exc, ↓w_okB, ↓w_okD, ↓w_bAnd, ↓w_bOr, ↓w_bNot, ↓kNot_ok, ↓kNot_exc, ↓w_eAnd, ↓w_eOr, ↓w_eNot, ↓kNotV_ok, ↓w_eIf, ↓w_aNil, ↓w_aCons, ↓kA1_ok, ↓kA2_ok, ↓kA1_exc, ↓kA2_exc, ↓w_Tup, ↓w_Lst, ↓w_mkT, ↓w_mkL, ↓w_Dct, ↓w_Call, ↓w_goS, ↓w_Bi, ↓w_Isi, ↓w_Cut, ↓kC1_ok, ↓kC2_ok, ↓kC3_ok, ↓w_oNone, ↓w_oSome, ↓w_vO, ↓w_Chain, ↓kCh1_ok, ↓kCh2_ok, ↓kCh3_ok, ↓w_chA, ↓w_App, ↓w_Ins, ↓w_insG, ↓z_nx, ↓z_End, ↓z_Seq, ↓kT_nx, ↓kT_rt, ↓kT_bk, ↓kT_ct, ↓kT_exc, ↓z_If, ↓kIfS_ok, ↓kIfS_exc, ↓z_Ret, ↓kRet_ok, ↓kRet_exc, ↓z_Expr, ↓kNx_ok, ↓kNx_exc, ↓z_Asg, ↓kAs_ok, ↓kAs_exc, ↓z_tgO, t_N, t_T, t_nil, t_cons, t_G, t_gnil, t_gcons, t_bind, ↓z_Par, ↓kPar_ok, ↓z_Raise, ↓z_Break, ↓z_Cont, ↓z_For, ↓kSrc_ok, ↓w_Range, ↓w_rgF, ↓w_SeqI, ↓w_sqT, ↓w_Zip, ↓w_zpT, ↓w_Comp, ↓kCo_ok, ↓w_of, ↓kF_rt, ↓kF_nx, ↓kF_exc, ↓w_add, ↓w_sub, ↓w_pow10, ↓w_neg, ↓w_lt, ↓w_le, ↓w_gt, ↓w_ge, ↓w_ix0, ↓w_ix1, ↓w_ix2, ↓w_ix3, ↓w_eqI, ↓w_eqS, ↓w_eqT2, ↓w_abs, ↓w_lenT, ↓w_lenS, ↓w_max, ↓w_min, ↓w_intT, ↓w_intF, ↓w_isBool, ↓w_isTup, ↓w_tupT, ↓w_listT, ↓w_cutT, ↓brw_t, ↓brw_f, ↓brz_t, ↓brz_f, List.getElem?_cons_zero, List.getElem?_cons_succ, List.set_cons_zero, List.set_cons_succ, List.length_cons, List.length_nil, List.map_cons, List.map_nil, List.replicate, List.cons_append, List.nil_append, small, Nat.reduceAdd, Nat.reduceLeDiff, Nat.reduceEqDiff, Int.cast_ofNat_Int, Int.reduceBEq, BEq.rfl, ↓w_Yes, ↓w_bTru, ↓augF_ok, ↓z_Put, ↓putF_ok, ↓putG_ok, ↓w_isNn, ↓w_isNt, wipeF_nil, wipeF_cons, Int.reduceLE, Int.reduceLT, Int.reduceToNat, Int.reducePow, Int.reduceNeg, Int.reduceSub, Int.reduceAdd, Int.reduceMul, decide_true, decide_false, Bool.not_true, Bool.not_false, Bool.bne_false, Bool.bne_true, ↓w_aStar, ↓w_stT, ↓kSt_ok, ↓w_aDef, ↓kDf_ok, ↓w_Cnt, ↓w_Ext, ↓w_isBB, ↓w_isIB]
    refine H _ _ _ false rise sps (by decide) _ _ fun h5 g5 => ?_
    have l5 := (g4.trans g5).lst (lstAt_set z3 (l := [D.bl false, D.bl true] ++ [D.bl true]))
    simp only [↓w_ok, ↓kB_ok, ↓kI_ok, ↓w_K, ↓w_V, ↓w_vR, ↓w_Op, ↓kO1_ok, ↓kO2_ok, ↓w_Un, ↓w_bOf, ↓w_isB, ↓kBl_ok, ↓kBl_exc, ↓kIf_ok, ↓kIf_exc, ↓w_okB, ↓w_okD, ↓w_bAnd, ↓w_bOr, ↓w_bNot, ↓kNot_ok, ↓kNot_exc, ↓w_eAnd, ↓w_eOr, ↓w_eNot, ↓kNotV_ok, ↓w_eIf, ↓w_aNil, ↓w_aCons, ↓kA1_ok, ↓kA2_ok, ↓kA1_exc, ↓kA2_exc, ↓w_Tup, ↓w_Lst, ↓w_mkT, ↓w_mkL, ↓w_Dct, ↓w_Call, ↓w_goS, ↓w_Bi, ↓w_Isi, ↓w_Cut, ↓kC1_ok, ↓kC2_ok, ↓kC3_ok, ↓w_oNone, ↓w_oSome, ↓w_vO, ↓w_Chain, ↓kCh1_ok, ↓kCh2_ok, ↓kCh3_ok, ↓w_chA, ↓w_App, ↓w_Ins, ↓w_insG, ↓z_nx, ↓z_End, ↓z_Seq, ↓kT_nx, ↓kT_rt, ↓kT_bk, ↓kT_ct, ↓kT_exc, ↓z_If, ↓kIfS_ok, ↓kIfS_exc, ↓z_Ret, ↓kRet_ok, ↓kRet_exc, ↓z_Expr, ↓kNx_ok, ↓kNx_exc, ↓z_Asg, ↓kAs_ok, ↓kAs_exc, ↓z_tgO, t_N, t_T, t_nil, t_cons, t_G, t_gnil, t_gcons, t_bind, ↓z_Par, ↓kPar_ok, ↓z_Raise, ↓z_Break, ↓z_Cont, ↓z_For, ↓kSrc_ok, ↓w_Range, ↓w_rgF, ↓w_SeqI, ↓w_sqT, ↓w_Zip, ↓w_zpT, ↓w_Comp, ↓kCo_ok, ↓w_of, ↓kF_rt, ↓kF_nx, ↓kF_exc, ↓w_add, ↓w_sub, ↓w_pow10, ↓w_neg, ↓w_lt, ↓w_le, ↓w_gt, ↓w_ge, ↓w_ix0, ↓w_ix1, ↓w_ix2, ↓w_ix3, ↓w_eqI, ↓w_eqS, ↓w_eqT2, ↓w_abs, ↓w_lenT, ↓w_lenS, ↓w_max, ↓w_min, ↓w_intT, ↓w_intF, ↓w_isBool, ↓w_isTup, ↓w_tupT, ↓w_listT, ↓w_cutT, ↓brw_t, ↓brw_f, ↓brz_t, ↓brz_f, List.getElem?_cons_zero, List.getElem?_cons_succ, List.set_cons_zero, List.set_cons_succ, List.length_cons, List.length_nil, List.map_cons, List.map_nil, List.replicate, List.cons_append, List.nil_append, small, Nat.reduceAdd, Nat.reduceLeDiff, Nat.reduceEqDiff, Int.cast_ofNat_Int, Int.reduceBEq, BEq.rfl, ↓w_Yes, ↓w_bTru, ↓augF_ok, ↓z_Put, ↓putF_ok, ↓putG_ok, ↓w_isNn, ↓w_isNt, wipeF_nil, wipeF_cons, Int.reduceLE, Int.reduceLT, Int.reduceToNat, Int.reducePow, Int.reduceNeg, Int.reduceSub, Int.reduceAdd, Int.reduceMul, decide_true, decide_false, Bool.not_true, Bool.not_false, Bool.bne_false, Bool.bne_true, ↓w_aStar, ↓w_stT, ↓kSt_ok, ↓w_aDef, ↓kDf_ok, ↓w_Cnt, ↓w_Ext, ↓w_isBB, ↓w_isIB, w_addL (lstAt_app l5 [.lst [D.bl true, D.bl false]]) (lst_new h5 _) (sm _ (by simp))]
    generalize h5 ++ [Cell.lst [D.bl true, D.bl false]] = h6 at *
    have l6 := lst_new h6 ([D.bl false, D.bl true] ++ [D.bl true] ++ [D.bl true, D.bl false])
    simp only [List.cons_append, List.nil_append] at l6
    simp only [↓w_ok, ↓kB_ok, ↓kI_ok, ↓w_K, ↓w_V, ↓w_vR, ↓w_Op, ↓kO1_ok, ↓kO2_ok, ↓w_Un, ↓w_bOf, ↓w_isB, ↓kBl_ok, ↓kBl_exc, ↓kIf_ok, ↓kIf_exc, ↓w_okB, ↓w_okD, ↓w_bAnd, ↓w_bOr, ↓w_bNot, ↓kNot_ok, ↓kNot_exc, ↓w_eAnd, ↓w_eOr, ↓w_eNot, ↓kNotV_ok, ↓w_eIf, ↓w_aNil, ↓w_aCons, ↓kA1_ok, ↓kA2_ok, ↓kA1_exc, ↓kA2_exc, ↓w_Tup, ↓w_Lst, ↓w_mkT, ↓w_mkL, ↓w_Dct, ↓w_Call, ↓w_goS, ↓w_Bi, ↓w_Isi, ↓w_Cut, ↓kC1_ok, ↓kC2_ok, ↓kC3_ok, ↓w_oNone, ↓w_oSome, ↓w_vO, ↓w_Chain, ↓kCh1_ok, ↓kCh2_ok, ↓kCh3_ok, ↓w_chA, ↓w_App, ↓w_Ins, ↓w_insG, ↓z_nx, ↓z_End, ↓z_Seq, ↓kT_nx, ↓kT_rt, ↓kT_bk, ↓kT_ct, ↓kT_exc, ↓z_If, ↓kIfS_ok, ↓kIfS_exc, ↓z_Ret, ↓kRet_ok, ↓kRet_exc, ↓z_Expr, ↓kNx_ok, ↓kNx_exc, ↓z_Asg, ↓kAs_ok, ↓kAs_exc, ↓z_tgO, t_N, t_T, t_nil, t_cons, t_G, t_gnil, t_gcons, t_bind, ↓z_Par, ↓kPar_ok, ↓z_Raise, ↓z_Break, ↓z_Cont, ↓z_For, ↓kSrc_ok, ↓w_Range, ↓w_rgF, ↓w_SeqI, ↓w_sqT, ↓w_Zip, ↓w_zpT, ↓w_Comp, ↓kCo_ok, ↓w_of, ↓kF_rt, ↓kF_nx, ↓kF_exc, ↓w_add, ↓w_sub, ↓w_pow10, ↓w_neg, ↓w_lt, ↓w_le, ↓w_gt, ↓w_ge, ↓w_ix0, ↓w_ix1, ↓w_ix2, ↓w_ix3, ↓w_eqI, ↓w_eqS, ↓w_eqT2, ↓w_abs, ↓w_lenT, ↓w_lenS, ↓w_max, ↓w_min, ↓w_intT, ↓w_intF, ↓w_isBool, ↓w_isTup, ↓w_tupT, ↓w_listT, ↓w_cutT, ↓brw_t, ↓brw_f, ↓brz_t, ↓brz_f, List.getElem?_cons_zero, List.getElem?_cons_succ, List.set_cons_zero, List.set_cons_succ, List.length_cons, List.length_nil, List.map_cons, List.map_nil, List.replicate, List.cons_append, List.nil_append, small, Nat.reduceAdd, Nat.reduceLeDiff, Nat.reduceEqDiff, Int.cast_ofNat_Int, Int.reduceBEq, BEq.rfl, ↓w_Yes, ↓w_bTru, ↓augF_ok, ↓z_Put, ↓putF_ok, ↓putG_ok, ↓w_isNn, ↓w_isNt, wipeF_nil, wipeF_cons, Int.reduceLE, Int.reduceLT, Int.reduceToNat, Int.reducePow, Int.reduceNeg, Int.reduceSub, Int.reduceAdd, Int.reduceMul, decide_true, decide_false, Bool.not_true, Bool.not_false, Bool.bne_false, Bool.bne_true, ↓w_aStar, ↓w_stT, ↓kSt_ok, ↓w_aDef, ↓kDf_ok, ↓w_Cnt, ↓w_Ext, ↓w_isBB, ↓w_isIB, w_apF l6]
    refine F _ _ _ true rise sp1 (by decide) _ _ fun h7 g7 => ?_
    have l7 := g7.lst l6
    have z7 := lstAt_lt l7
    simp only [↓w_ok, ↓kB_ok, ↓kI_ok, ↓w_K, ↓w_V, ↓w_vR, ↓w_Op, ↓kO1_ok, ↓kO2_ok, ↓w_Un, ↓w_bOf, ↓w_isB, ↓kBl_ok, ↓kBl_exc, ↓kIf_ok, ↓kIf_exc, ↓w_okB, ↓w_okD, ↓w_bAnd, ↓w_bOr, ↓w_bNot, ↓kNot_ok, ↓kNot_exc, ↓w_eAnd, ↓w_eOr, ↓w_eNot, ↓kNotV_ok, ↓w_eIf, ↓w_aNil, ↓w_aCons, ↓kA1_ok, ↓kA2_ok, ↓kA1_exc, ↓kA2_exc, ↓w_Tup, ↓w_Lst, ↓w_mkT, ↓w_mkL, ↓w_Dct, ↓w_Call, ↓w_goS, ↓w_Bi, ↓w_Isi, ↓w_Cut, ↓kC1_ok, ↓kC2_ok, ↓kC3_ok, ↓w_oNone, ↓w_oSome, ↓w_vO, ↓w_Chain, ↓kCh1_ok, ↓kCh2_ok, ↓kCh3_ok, ↓w_chA, ↓w_App, ↓w_Ins, ↓w_insG, ↓z_nx, ↓z_End, ↓z_Seq, ↓kT_nx, ↓kT_rt, ↓kT_bk, ↓kT_ct, ↓kT_exc, ↓z_If, ↓kIfS_ok, ↓kIfS_exc, ↓z_Ret, ↓kRet_ok, ↓kRet_exc, ↓z_Expr, ↓kNx_ok, ↓kNx_exc, ↓z_Asg, ↓kAs_ok, ↓kAs_exc, ↓z_tgO, t_N, t_T, t_nil, t_cons, t_G, t_gnil, t_gcons, t_bind, ↓z_Par, ↓kPar_ok, ↓z_Raise, ↓z_Break, ↓z_Cont, ↓z_For, ↓kSrc_ok, ↓w_Range, ↓w_rgF, ↓w_SeqI, ↓w_sqT, ↓w_Zip, ↓w_zpT, ↓w_Comp, ↓kCo_ok, ↓w_of, ↓kF_rt, ↓kF_nx, ↓kF_exc, ↓w_add, ↓w_sub, ↓w_pow10, ↓w_neg, ↓w_lt, ↓w_le, ↓w_gt, ↓w_ge, ↓w_ix0, ↓w_ix1, ↓w_ix2, ↓w_ix3, ↓w_eqI, ↓w_eqS, ↓w_eqT2, ↓w_abs, ↓w_lenT, ↓w_lenS, ↓w_max, ↓w_min, ↓w_intT, ↓w_intF, ↓w_isBool, ↓w_isTup, ↓w_tupT, ↓w_listT, ↓w_cutT, ↓brw_t, ↓brw_f, ↓brz_t, ↓brz_f, List.getElem?_cons_zero, List.getElem?_cons_succ, List.set_cons_zero, List.set_cons_succ, List.length_cons, List.length_nil, List.map_cons, List.map_nil, List.replicate, List.cons_append, List.nil_append, small, Nat.reduceAdd, Nat.reduceLeDiff, Nat.reduceEqDiff, Int.cast_ofNat_Int, Int.reduceBEq, BEq.rfl, ↓w_Yes, ↓w_bTru, ↓augF_ok, ↓z_Put, ↓putF_ok, ↓putG_ok, ↓w_isNn, ↓w_isNt, wipeF_nil, wipeF_cons, Int.reduceLE, Int.reduceLT, Int.reduceToNat, Int.reducePow, Int.reduceNeg, Int.reduceSub, Int.reduceAdd, Int.reduceMul, decide_true, decide_false, Bool.not_true, Bool.not_false, Bool.bne_false, Bool.bne_true, ↓w_aStar, ↓w_stT, ↓kSt_ok, ↓w_aDef, ↓kDf_ok, ↓w_Cnt, ↓w_Ext, ↓w_isBB, ↓w_isIB, w_apG l7 (sm _ (by simp))]
    have m7 := lstAt_set z7 (l := [D.bl false, D.bl true, D.bl true, D.bl true, D.bl false] ++ [D.bl true])
    simp only [List.cons_append, List.nil_append] at m7
    simp only [↓w_ok, ↓kB_ok, ↓kI_ok, ↓w_K, ↓w_V, ↓w_vR, ↓w_Op, ↓kO1_ok, ↓kO2_ok, ↓w_Un, ↓w_bOf, ↓w_isB, ↓kBl_ok, ↓kBl_exc, ↓kIf_ok, ↓kIf_exc, ↓w_okB, ↓w_okD, ↓w_bAnd, ↓w_bOr, ↓w_bNot, ↓kNot_ok, ↓kNot_exc, ↓w_eAnd, ↓w_eOr, ↓w_eNot, ↓kNotV_ok, ↓w_eIf, ↓w_aNil, ↓w_aCons, ↓kA1_ok, ↓kA2_ok, ↓kA1_exc, ↓kA2_exc, ↓w_Tup, ↓w_Lst, ↓w_mkT, ↓w_mkL, ↓w_Dct, ↓w_Call, ↓w_goS, ↓w_Bi, ↓w_Isi, ↓w_Cut, ↓kC1_ok, ↓kC2_ok, ↓kC3_ok, ↓w_oNone, ↓w_oSome, ↓w_vO, ↓w_Chain, ↓kCh1_ok, ↓kCh2_ok, ↓kCh3_ok, ↓w_chA, ↓w_App, ↓w_Ins, ↓w_insG, ↓z_nx, ↓z_End, ↓z_Seq, ↓kT_nx, ↓kT_rt, ↓kT_bk, ↓kT_ct, ↓kT_exc, ↓z_If, ↓kIfS_ok, ↓kIfS_exc, ↓z_Ret, ↓kRet_ok, ↓kRet_exc, ↓z_Expr, ↓kNx_ok, ↓kNx_exc, ↓z_Asg, ↓kAs_ok, ↓kAs_exc, ↓z_tgO, t_N, t_T, t_nil, t_cons, t_G, t_gnil, t_gcons, t_bind, ↓z_Par, ↓kPar_ok, ↓z_Raise, ↓z_Break, ↓z_Cont, ↓z_For, ↓kSrc_ok, ↓w_Range, ↓w_rgF, ↓w_SeqI, ↓w_sqT, ↓w_Zip, ↓w_zpT, ↓w_Comp, ↓kCo_ok, ↓w_of, ↓kF_rt, ↓kF_nx, ↓kF_exc, ↓w_add, ↓w_sub, ↓w_pow10, ↓w_neg, ↓w_lt, ↓w_le, ↓w_gt, ↓w_ge, ↓w_ix0, ↓w_ix1, ↓w_ix2, ↓w_ix3, ↓w_eqI, ↓w_eqS, ↓w_eqT2, ↓w_abs, ↓w_lenT, ↓w_lenS, ↓w_max, ↓w_min, ↓w_intT, ↓w_intF, ↓w_isBool, ↓w_isTup, ↓w_tupT, ↓w_listT, ↓w_cutT, ↓brw_t, ↓brw_f, ↓brz_t, ↓brz_f, List.getElem?_cons_zero, List.getElem?_cons_succ, List.set_cons_zero, List.set_cons_succ, List.length_cons, List.length_nil, List.map_cons, List.map_nil, List.replicate, List.cons_append, List.nil_append, small, Nat.reduceAdd, Nat.reduceLeDiff, Nat.reduceEqDiff, Int.cast_ofNat_Int, Int.reduceBEq, BEq.rfl, ↓w_Yes, ↓w_bTru, ↓augF_ok, ↓z_Put, ↓putF_ok, ↓putG_ok, ↓w_isNn, ↓w_isNt, wipeF_nil, wipeF_cons, Int.reduceLE, Int.reduceLT, Int.reduceToNat, Int.reducePow, Int.reduceNeg, Int.reduceSub, Int.reduceAdd, Int.reduceMul, decide_true, decide_false, Bool.not_true, Bool.not_false, Bool.bne_false, Bool.bne_true, ↓w_aStar, ↓w_stT, ↓kSt_ok, ↓w_aDef, ↓kDf_ok, ↓w_Cnt, ↓w_Ext, ↓w_isBB, ↓w_isIB, w_apF m7]
    refine F _ _ _ true rise sp2 (by decide) _ _ fun h8 g8 => ?_
    have l8 := g8.lst m7
    have z8 := lstAt_lt l8
    simp only [↓w_ok, ↓kB_ok, ↓kI_ok, ↓w_K, ↓w_V, ↓w_vR, ↓w_Op, ↓kO1_ok, ↓kO2_ok, ↓w_Un, ↓w_bOf, ↓w_isB, ↓kBl_ok, ↓kBl_exc, ↓kIf_ok, ↓kIf_exc, ↓w_okB, ↓w_okD, ↓w_bAnd, ↓w_bOr, ↓w_bNot, ↓kNot_ok, ↓kNot_exc, ↓w_eAnd, ↓w_eOr, ↓w_eNot, ↓kNotV_ok, ↓w_eIf, ↓w_aNil, ↓w_aCons, ↓kA1_ok, ↓kA2_ok, ↓kA1_exc, ↓kA2_exc, ↓w_Tup, ↓w_Lst, ↓w_mkT, ↓w_mkL, ↓w_Dct, ↓w_Call, ↓w_goS, ↓w_Bi, ↓w_Isi, ↓w_Cut, ↓kC1_ok, ↓kC2_ok, ↓kC3_ok, ↓w_oNone, ↓w_oSome, ↓w_vO, ↓w_Chain, ↓kCh1_ok, ↓kCh2_ok, ↓kCh3_ok, ↓w_chA, ↓w_App, ↓w_Ins, ↓w_insG, ↓z_nx, ↓z_End, ↓z_Seq, ↓kT_nx, ↓kT_rt, ↓kT_bk, ↓kT_ct, ↓kT_exc, ↓z_If, ↓kIfS_ok, ↓kIfS_exc, ↓z_Ret, ↓kRet_ok, ↓kRet_exc, ↓z_Expr, ↓kNx_ok, ↓kNx_exc, ↓z_Asg, ↓kAs_ok, ↓kAs_exc, ↓z_tgO, t_N, t_T, t_nil, t_cons, t_G, t_gnil, t_gcons, t_bind, ↓z_Par, ↓kPar_ok, ↓z_Raise, ↓z_Break, ↓z_Cont, ↓z_For, ↓kSrc_ok, ↓w_Range, ↓w_rgF, ↓w_SeqI, ↓w_sqT, ↓w_Zip, ↓w_zpT, ↓w_Comp, ↓kCo_ok, ↓w_of, ↓kF_rt, ↓kF_nx, ↓kF_exc, ↓w_add, ↓w_sub, ↓w_pow10, ↓w_neg, ↓w_lt, ↓w_le, ↓w_gt, ↓w_ge, ↓w_ix0, ↓w_ix1, ↓w_ix2, ↓w_ix3, ↓w_eqI, ↓w_eqS, ↓w_eqT2, ↓w_abs, ↓w_lenT, ↓w_lenS, ↓w_max, ↓w_min, ↓w_intT, ↓w_intF, ↓w_isBool, ↓w_isTup, ↓w_tupT, ↓w_listT, ↓w_cutT, ↓brw_t, ↓brw_f, ↓brz_t, ↓brz_f, List.getElem?_cons_zero, List.getElem?_cons_succ, List.set_cons_zero, List.set_cons_succ, List.length_cons, List.length_nil, List.map_cons, List.map_nil, List.replicate, List.cons_append, List.nil_append, small, Nat.reduceAdd, Nat.reduceLeDiff, Nat.reduceEqDiff, Int.cast_ofNat_Int, Int.reduceBEq, BEq.rfl, ↓w_Yes, ↓w_bTru, ↓augF_ok, ↓z_Put, ↓putF_ok, ↓putG_ok, ↓w_isNn, ↓w_isNt, wipeF_nil, wipeF_cons, Int.reduceLE, Int.reduceLT, Int.reduceToNat, Int.reducePow, Int.reduceNeg, Int.reduceSub, Int.reduceAdd, Int.reduceMul, decide_true, decide_false, Bool.not_true, Bool.not_false, Bool.bne_false, Bool.bne_true, ↓w_aStar, ↓w_stT, ↓kSt_ok, ↓w_aDef, ↓kDf_ok, ↓w_Cnt, ↓w_Ext, ↓w_isBB, ↓w_isIB, w_apG l8 (sm _ (by simp))]
    have m8 := lstAt_set z8 (l := [D.bl false, D.bl true, D.bl true, D.bl true, D.bl false, D.bl true] ++ [D.bl true])
    simp only [List.cons_append, List.nil_append] at m8
    simp only [↓w_ok, ↓kB_ok, ↓kI_ok, ↓w_K, ↓w_V, ↓w_vR, ↓w_Op, ↓kO1_ok, ↓kO2_ok, ↓w_Un, ↓w_bOf, ↓w_isB, ↓kBl_ok, ↓kBl_exc, ↓kIf_ok, ↓kIf_exc, ↓w_okB, ↓w_okD, ↓w_bAnd, ↓w_bOr, ↓w_bNot, ↓kNot_ok, ↓kNot_exc, ↓w_eAnd, ↓w_eOr, ↓w_eNot, ↓kNotV_ok, ↓w_eIf, ↓w_aNil, ↓w_aCons, ↓kA1_ok, ↓kA2_ok, ↓kA1_exc, ↓kA2_exc, ↓w_Tup, ↓w_Lst, ↓w_mkT, ↓w_mkL, ↓w_Dct, ↓w_Call, ↓w_goS, ↓w_Bi, ↓w_Isi, ↓w_Cut, ↓kC1_ok, ↓kC2_ok, ↓kC3_ok, ↓w_oNone, ↓w_oSome, ↓w_vO, ↓w_Chain, ↓kCh1_ok, ↓kCh2_ok, ↓kCh3_ok, ↓w_chA, ↓w_App, ↓w_Ins, ↓w_insG, ↓z_nx, ↓z_End, ↓z_Seq, ↓kT_nx, ↓kT_rt, ↓kT_bk, ↓kT_ct, ↓kT_exc, ↓z_If, ↓kIfS_ok, ↓kIfS_exc, ↓z_Ret, ↓kRet_ok, ↓kRet_exc, ↓z_Expr, ↓kNx_ok, ↓kNx_exc, ↓z_Asg, ↓kAs_ok, ↓kAs_exc, ↓z_tgO, t_N, t_T, t_nil, t_cons, t_G, t_gnil, t_gcons, t_bind, ↓z_Par, ↓kPar_ok, ↓z_Raise, ↓z_Break, ↓z_Cont, ↓z_For, ↓kSrc_ok, ↓w_Range, ↓w_rgF, ↓w_SeqI, ↓w_sqT, ↓w_Zip, ↓w_zpT, ↓w_Comp, ↓kCo_ok, ↓w_of, ↓kF_rt, ↓kF_nx, ↓kF_exc, ↓w_add, ↓w_sub, ↓w_pow10, ↓w_neg, ↓w_lt, ↓w_le, ↓w_gt, ↓w_ge, ↓w_ix0, ↓w_ix1, ↓w_ix2, ↓w_ix3, ↓w_eqI, ↓w_eqS, ↓w_eqT2, ↓w_abs, ↓w_lenT, ↓w_lenS, ↓w_max, ↓w_min, ↓w_intT, ↓w_intF, ↓w_isBool, ↓w_isTup, ↓w_tupT, ↓w_listT, ↓w_cutT, ↓brw_t, ↓brw_f, ↓brz_t, ↓brz_f, List.getElem?_cons_zero, List.getElem?_cons_succ, List.set_cons_zero, List.set_cons_succ, List.length_cons, List.length_nil, List.map_cons, List.map_nil, List.replicate, List.cons_append, List.nil_append, small, Nat.reduceAdd, Nat.reduceLeDiff, Nat.reduceEqDiff, Int.cast_ofNat_Int, Int.reduceBEq, BEq.rfl, ↓w_Yes, ↓w_bTru, ↓augF_ok, ↓z_Put, ↓putF_ok, ↓putG_ok, ↓w_isNn, ↓w_isNt, wipeF_nil, wipeF_cons, Int.reduceLE, Int.reduceLT, Int.reduceToNat, Int.reducePow, Int.reduceNeg, Int.reduceSub, Int.reduceAdd, Int.reduceMul, decide_true, decide_false, Bool.not_true, Bool.not_false, Bool.bne_false, Bool.bne_true, ↓w_aStar, ↓w_stT, ↓kSt_ok, ↓w_aDef, ↓kDf_ok, ↓w_Cnt, ↓w_Ext, ↓w_isBB, ↓w_isIB, w_apF m8]
    refine F _ _ _ false rise sp1 (by decide) _ _ fun h9 g9 => ?_
    have l9 := g9.lst m8
    have z9 := lstAt_lt l9
    simp only [↓w_ok, ↓kB_ok, ↓kI_ok, ↓w_K, ↓w_V, ↓w_vR, ↓w_Op, ↓kO1_ok, ↓kO2_ok, ↓w_Un, ↓w_bOf, ↓w_isB, ↓kBl_ok, ↓kBl_exc, ↓kIf_ok, ↓kIf_exc, ↓w_okB, ↓w_okD, ↓w_bAnd, ↓w_bOr, ↓w_bNot, ↓kNot_ok, ↓kNot_exc, ↓w_eAnd, ↓w_eOr, ↓w_eNot, ↓kNotV_ok, ↓w_eIf, ↓w_aNil, ↓w_aCons, ↓kA1_ok, ↓kA2_ok, ↓kA1_exc, ↓kA2_exc, ↓w_Tup, ↓w_Lst, ↓w_mkT, ↓w_mkL, ↓w_Dct, ↓w_Call, ↓w_goS, ↓w_Bi, ↓w_Isi, ↓w_Cut, ↓kC1_ok, ↓kC2_ok, ↓kC3_ok, ↓w_oNone, ↓w_oSome, ↓w_vO, ↓w_Chain, ↓kCh1_ok, ↓kCh2_ok, ↓kCh3_ok, ↓w_chA, ↓w_App, ↓w_Ins, ↓w_insG, ↓z_nx, ↓z_End, ↓z_Seq, ↓kT_nx, ↓kT_rt, ↓kT_bk, ↓kT_ct, ↓kT_exc, ↓z_If, ↓kIfS_ok, ↓kIfS_exc, ↓z_Ret, ↓kRet_ok, ↓kRet_exc, ↓z_Expr, ↓kNx_ok, ↓kNx_exc, ↓z_Asg, ↓kAs_ok, ↓kAs_exc, ↓z_tgO, t_N, t_T, t_nil, t_cons, t_G, t_gnil, t_gcons, t_bind, ↓z_Par, ↓kPar_ok, ↓z_Raise, ↓z_Break, ↓z_Cont, ↓z_For, ↓kSrc_ok, ↓w_Range, ↓w_rgF, ↓w_SeqI, ↓w_sqT, ↓w_Zip, ↓w_zpT, ↓w_Comp, ↓kCo_ok, ↓w_of, ↓kF_rt, ↓kF_nx, ↓kF_exc, ↓w_add, ↓w_sub, ↓w_pow10, ↓w_neg, ↓w_lt, ↓w_le, ↓w_gt, ↓w_ge, ↓w_ix0, ↓w_ix1, ↓w_ix2, ↓w_ix3, ↓w_eqI, ↓w_eqS, ↓w_eqT2, ↓w_abs, ↓w_lenT, ↓w_lenS, ↓w_max, ↓w_min, ↓w_intT, ↓w_intF, ↓w_isBool, ↓w_isTup, ↓w_tupT, ↓w_listT, ↓w_cutT, ↓brw_t, ↓brw_f, ↓brz_t, ↓brz_f, List.getElem?_cons_zero, List.getElem?_cons_succ, List.set_cons_zero, List.set_cons_succ, List.length_cons, List.length_nil, List.map_cons, List.map_nil, List.replicate, List.cons_append, List.nil_append, small, Nat.reduceAdd, Nat.reduceLeDiff, Nat.reduceEqDiff, Int.cast_ofNat_Int, Int.reduceBEq, BEq.rfl, ↓w_Yes, ↓w_bTru, ↓augF_ok, ↓z_Put, ↓putF_ok, ↓putG_ok, ↓w_isNn, ↓w_isNt, wipeF_nil, wipeF_cons, Int.reduceLE, Int.reduceLT, Int.reduceToNat, Int.reducePow, Int.reduceNeg, Int.reduceSub, Int.reduceAdd, Int.reduceMul, decide_true, decide_false, Bool.not_true, Bool.not_false, Bool.bne_false, Bool.bne_true, ↓w_aStar, ↓w_stT, ↓kSt_ok, ↓w_aDef, ↓kDf_ok, ↓w_Cnt, ↓w_Ext, ↓w_isBB, ↓w_isIB, w_apG l9 (sm _ (by simp))]
    have m9 := lstAt_set z9 (l := [D.bl false, D.bl true, D.bl true, D.bl true, D.bl false, D.bl true, D.bl true] ++ [D.bl false])
    simp only [List.cons_append, List.nil_append] at m9
    generalize h9.set h6.length _ = h10 at *
    have e1 : lstAt (h10 ++ [.lst [D.bl false, D.bl true, D.bl true, D.bl true, D.bl false, D.bl true, D.bl true, D.bl false]]) h6.length = some ([false, true, true, true, false, true, true, false].map D.bl) := lstAt_app m9 _
    have e2 : lstAt (h10 ++ [.lst [D.bl false, D.bl true, D.bl true, D.bl true, D.bl false, D.bl true, D.bl true, D.bl false]]) h10.length = some ([false, true, true, true, false, true, true, false].map D.bl) := lst_new h10 _
    simp only [↓w_ok, ↓kB_ok, ↓kI_ok, ↓w_K, ↓w_V, ↓w_vR, ↓w_Op, ↓kO1_ok, ↓kO2_ok, ↓w_Un, ↓w_bOf, ↓w_isB, ↓kBl_ok, ↓kBl_exc, ↓kIf_ok, ↓kIf_exc, ↓w_okB, ↓w_okD, ↓w_bAnd, ↓w_bOr, ↓w_bNot, ↓kNot_ok, ↓kNot_exc, ↓w_eAnd, ↓w_eOr, ↓w_eNot, ↓kNotV_ok, ↓w_eIf, ↓w_aNil, ↓w_aCons, ↓kA1_ok, ↓kA2_ok, ↓kA1_exc, ↓kA2_exc, ↓w_Tup, ↓w_Lst, ↓w_mkT, ↓w_mkL, ↓w_Dct, ↓w_Call, ↓w_goS, ↓w_Bi, ↓w_Isi, ↓w_Cut, ↓kC1_ok, ↓kC2_ok, ↓kC3_ok, ↓w_oNone, ↓w_oSome, ↓w_vO, ↓w_Chain, ↓kCh1_ok, ↓kCh2_ok, ↓kCh3_ok, ↓w_chA, ↓w_App, ↓w_Ins, ↓w_insG, ↓z_nx, ↓z_End, ↓z_Seq, ↓kT_nx, ↓kT_rt, ↓kT_bk, ↓kT_ct, ↓kT_exc, ↓z_If, ↓kIfS_ok, ↓kIfS_exc, ↓z_Ret, ↓kRet_ok, ↓kRet_exc, ↓z_Expr, ↓kNx_ok, ↓kNx_exc, ↓z_Asg, ↓kAs_ok, ↓kAs_exc, ↓z_tgO, t_N, t_T, t_nil, t_cons, t_G, t_gnil, t_gcons, t_bind, ↓z_Par, ↓kPar_ok, ↓z_Raise, ↓z_Break, ↓z_Cont, ↓z_For, ↓kSrc_ok, ↓w_Range, ↓w_rgF, ↓w_SeqI, ↓w_sqT, ↓w_Zip, ↓w_zpT, ↓w_Comp, ↓kCo_ok, ↓w_of, ↓kF_rt, ↓kF_nx, ↓kF_exc, ↓w_add, ↓w_sub, ↓w_pow10, ↓w_neg, ↓w_lt, ↓w_le, ↓w_gt, ↓w_ge, ↓w_ix0, ↓w_ix1, ↓w_ix2, ↓w_ix3, ↓w_eqI, ↓w_eqS, ↓w_eqT2, ↓w_abs, ↓w_lenT, ↓w_lenS, ↓w_max, ↓w_min, ↓w_intT, ↓w_intF, ↓w_isBool, ↓w_isTup, ↓w_tupT, ↓w_listT, ↓w_cutT, ↓brw_t, ↓brw_f, ↓brz_t, ↓brz_f, List.getElem?_cons_zero, List.getElem?_cons_succ, List.set_cons_zero, List.set_cons_succ, List.length_cons, List.length_nil, List.map_cons, List.map_nil, List.replicate, List.cons_append, List.nil_append, small, Nat.reduceAdd, Nat.reduceLeDiff, Nat.reduceEqDiff, Int.cast_ofNat_Int, Int.reduceBEq, BEq.rfl, ↓w_Yes, ↓w_bTru, ↓augF_ok, ↓z_Put, ↓putF_ok, ↓putG_ok, ↓w_isNn, ↓w_isNt, wipeF_nil, wipeF_cons, Int.reduceLE, Int.reduceLT, Int.reduceToNat, Int.reducePow, Int.reduceNeg, Int.reduceSub, Int.reduceAdd, Int.reduceMul, decide_true, decide_false, Bool.not_true, Bool.not_false, Bool.bne_false, Bool.bne_true, ↓w_aStar, ↓w_stT, ↓kSt_ok, ↓w_aDef, ↓kDf_ok, ↓w_Cnt, ↓w_Ext, ↓w_isBB, ↓w_isIB, eq_bls e1 e2]
    exact ⟨_, _, rfl, rfl⟩
end K16
end

section
set_option Elab.async false
set_option linter.all false
set_option autoImplicit false
set_option maxRecDepth 100000
set_option maxHeartbeats 4000000
namespace K16
open PySem PySem.Spec PyProof.Rows L2 MI
theorem done {P : Program} {w : World} {K : PySem.W.Frag} {h : Heap} {mg : Str → Option Value} {f : Addr} (X : K.In h) (G : h.Ns mainGlobals mg) (hfa : mg ("law" : Str) = some (.ref f)) (c : He.SaysD fa fn K) (m : ex K = true) :
    ∃ fd : FuncData, (∀ (s : Shared) (v : Value), BindsTo s fd ⟨[v], []⟩ [("script", v)]) ∧ ∀ base : Heap, K.In base → base.Ns mainGlobals mg → FnG P w K mg base 7 f fd ["script"] flaw := by
  have T := txt_of X G c m
  have e := hfa.symm.trans T.g_law
  cases e
  obtain ⟨fd, F⟩ := T.F_law
  have b := FunD.bindsA (ps := ["script"]) F fun _ _ _ _ _ _ us hl => match us, hl with | [_], _ => rfl
  exact ⟨fd, fun s v => b s [v] rfl, fun base _ _ => glaw T F⟩
end K16
open PySem PySem.W PyProof.Rows
set_option maxHeartbeats 0 in
theorem PySem.Challenge.cw_wherewhen_k16_lines_and_conditions_holds : PySem.Challenge.rw_wherewhen_k16_lines_and_conditions.Holds := by
  w_on; o_law; k_head; (case hw => w_witness2)
  k_fill
  refine MI.walkG (l := PySem.Challenge.rw_wherewhen_k16_lines_and_conditions) (n := 63) (k := 7) (x := "script") (sem := K16.flaw) rfl (by decide) rfl ⟨rfl, by decide, by decide⟩ (fun w h Y => PySem.W.kIn_of Y) ?F (fun ns hn => K16.law_ok ns hn)
  case F =>
    intro w mg fa h KX G hmg
    refine K16.done KX G hmg ?c ?m
    case c => show He.obsD _ _ _ = He.valD _; kernel_rfl
    case m => kernel_rfl
end
