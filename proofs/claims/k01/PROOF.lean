import PyProof.Rows.All
import Wide.All
import OpenK.AllK
import Wide.FinOn
import HandS.ForMost
import HandS.Exc
import HandS.ExcOwn
import HandS.TryOnly
import HandS.IsInst
import HandS.Wide
import HandS.Gcd
import HandS.TupAny
import HandS.RaiseMore
import HandS.CallSlots
import HandS.WordsExc
import PyProof.ReprRoads
import HandS.HeadHook1
import HandS.List
import PyProof.EqKinds
import PyProof.FactsAll.subtypes_3
import PyProof.FactsAll.subtypes_4
import PyProof.FactsAll.dict_1
import HandS.DictComp
import KE.KEqDict
import HandS.Defaults
import PyProof.RowDictHeap
import HandS.ExcIs
import HandS.Deep
import HandS.Zip
import HandS.More
import KE.DataFind
import HandS.Star
import HandS.Iter
import PyProof.EnumMake
import HandS.TupSets
import PyProof.MaxThree
import PyProof.SeqI3
import KE.GoesEnum
import KE.KDictItemsList
import KE.KDictZip
import HandS.SortRule
import PyProof.ReprLen
import PyProof.Rows.RegStrFacts
import HandS.TryMany
import KE.KTryMore
import HandS.ExcField
import HandS.Flow
import HandS.TupMul
import KE.KExcInit
import HandS.ExcInit
import HandS.ExcValue
import PyProof.StrOps2
import HandS.Words
import HandS.HeadHook2
import PySem.Challenge.RW_wherewhen_k01_refusals_stand_alone
section
set_option Elab.async false
set_option linter.all false
set_option autoImplicit false
set_option maxRecDepth 100000
namespace MI
open PySem L2
/-- a plain value: a tuple is its items, a list is the number of its cell, the script its ints -/
inductive D where
  | non | bl (b : Bool) | int (i : Int) | str (x : Str) | tup (l : List D) | ref (n : Nat) | scr (l : List Int) | opq | adr (a : Addr) | ty (n : String)
/-- a cell -/
inductive Cell where
  | lst (l : List D)
  | dct (l : List (L2.Key × D))
  | exn (c : Str) (v : Option (Str × D))
abbrev Hq := List Cell
/-- what is raised: the class by its name, what it keeps -/
structure Xn where
  cls : Str
  val : Option (Str × D) := none
inductive Rs (α : Type) where
  | ok (a : α) (h : Hq)
  | exc (x : Xn) (h : Hq)
  | no
namespace Rs
variable {α β γ : Type}
def bind (r : Rs α) (f : α → Hq → Rs β) : Rs β := match r with
  | ok a h => f a h
  | exc x h => exc x h
  | no => no
@[simp] theorem bind_ok (a : α) (h : Hq) (f : α → Hq → Rs β) : (ok a h).bind f = f a h := rfl
@[simp] theorem bind_exc (x : Xn) (h : Hq) (f : α → Hq → Rs β) : (exc x h : Rs α).bind f = exc x h := rfl
@[simp] theorem bind_no (f : α → Hq → Rs β) : (no : Rs α).bind f = no := rfl
end Rs
abbrev Fr := List (Option D)
/-- an expression's, a test's, an argument list's worth -/
abbrev Sx := Fr → Hq → Rs D
abbrev Sb := Fr → Hq → Rs Bool
abbrev Sa := Fr → Hq → Rs (List D)
/-- a def's -/
abbrev Sf := List D → Hq → Rs D
/-- the script's list, which nothing changes -/
def Scr (K : PySem.W.Frag) (H : Hp) (a : Addr) (l : List Int) : Prop :=
  (∃ o, H a = some (.frz o (.lst (l.map V.int)))) ∨
    ∃ (o : Obj) (its : Array Value) (n : Nat), K.lookup a = some o ∧ o.cls = .type "list" ∧ o.dict = none ∧ o.data = .seq its n ∧ its.size ≤ sizeLine ∧ Vals (l.map V.int) its.toList
theorem Scr.sq {K : PySem.W.Frag} {H : Hp} {a : Addr} {l : List Int} (h : Scr K H a l) : SqL K H a (l.map V.int) := by
  rcases h with ⟨o, h⟩ | h
  · exact .inl (.inr ⟨o, h⟩)
  · exact .inr h
/-- a tuple: new, or of the program's own -/
abbrev Tp (K : PySem.W.Frag) (H : Hp) (a : Addr) (vs : List V) : Prop := SqT K H a vs
theorem Tp.sq {K : PySem.W.Frag} {H : Hp} {a : Addr} {vs : List V} (h : Tp K H a vs) : SqT K H a vs := h
mutual
inductive VR (K : PySem.W.Frag) (ι : List Addr) (H : Hp) : V → D → Prop
  | non : VR K ι H .non .non
  | bl (b : Bool) : VR K ι H (.bl b) (.bl b)
  | int (i : Int) : VR K ι H (.int i) (.int i)
  | str (x : Str) : VR K ι H (.str x) (.str x)
  | tup {a : Addr} {vs : List V} {l : List D} : Tp K H a vs → VRs K ι H vs l → VR K ι H (.ref a) (.tup l)
  | ref {a : Addr} {n : Nat} : ι[n]? = some a → VR K ι H (.ref a) (.ref n)
  | scr {a : Addr} {l : List Int} : Scr K H a l → VR K ι H (.ref a) (.scr l)
  | opq (v : V) : VR K ι H v .opq
  | adr (a : Addr) : VR K ι H (.ref a) (.adr a)
  | ty (n : String) : VR K ι H (.ty n) (.ty n)
inductive VRs (K : PySem.W.Frag) (ι : List Addr) (H : Hp) : List V → List D → Prop
  | nil : VRs K ι H [] []
  | cons {v : V} {vs : List V} {d : D} {l : List D} : VR K ι H v d → VRs K ι H vs l → VRs K ι H (v :: vs) (d :: l)
end
/-- what grows: cells are added, what was tracked beside the cells stays -/
structure Ext (ι : List Addr) (H : Hp) (ι' : List Addr) (H' : Hp) : Prop where
  pre : ∃ t, ι' = ι ++ t ∧ ∀ a ∈ t, H a = none
  tups : ∀ a xs, H a = some (.tup xs) → H' a = some (.tup xs)
  frzs : ∀ a o u, H a = some (.frz o u) → H' a = some (.frz o u)
  keep : ∀ a o, H a = some o → a ∉ ι → H' a = some o
  live : ∀ a, H a ≠ none → H' a ≠ none
theorem Ext.refl (ι : List Addr) (H : Hp) : Ext ι H ι H := ⟨⟨[], by simp, fun a h => (nomatch h)⟩, fun _ _ h => h, fun _ _ _ h => h, fun _ _ h _ => h, fun _ h => h⟩
theorem Ext.get {ι ι' : List Addr} {H H' : Hp} (e : Ext ι H ι' H') {n : Nat} {a : Addr} (h : ι[n]? = some a) : ι'[n]? = some a := by
  obtain ⟨t, rfl, _⟩ := e.pre
  rw [List.getElem?_append_left (List.getElem?_eq_some_iff.mp h).1]
  exact h
theorem Ext.trans {ι ι1 ι2 : List Addr} {H H1 H2 : Hp} (e : Ext ι H ι1 H1) (f : Ext ι1 H1 ι2 H2) : Ext ι H ι2 H2 := by
  obtain ⟨t, rfl, ht⟩ := e.pre
  obtain ⟨u, rfl, hu⟩ := f.pre
  refine ⟨⟨t ++ u, by rw [List.append_assoc], fun a ha => ?_⟩, fun a xs h => f.tups a xs (e.tups a xs h), fun a o x h => f.frzs a o x (e.frzs a o x h), fun a o h n => ?_, fun a h => f.live a (e.live a h)⟩
  · rcases List.mem_append.mp ha with ha | ha
    · exact ht a ha
    · cases q : H a with
      | none => rfl
      | some o => exact absurd (hu a ha) (e.live a (by rw [q]; exact Option.some_ne_none o))
  · refine f.keep a o (e.keep a o h n) fun hm => ?_
    rcases List.mem_append.mp hm with hm | hm
    · exact n hm
    · rw [ht a hm] at h; cases h
theorem Tp.ext {K : PySem.W.Frag} {ι ι' : List Addr} {H H' : Hp} {a : Addr} {vs : List V} (h : Tp K H a vs) (e : Ext ι H ι' H') : Tp K H' a vs := by
  rcases h with (h | ⟨o, h⟩) | h
  · exact .inl (.inl (e.tups _ _ h))
  · exact .inl (.inr ⟨o, e.frzs _ _ _ h⟩)
  · exact .inr h
theorem Scr.ext {K : PySem.W.Frag} {ι ι' : List Addr} {H H' : Hp} {a : Addr} {l : List Int} (h : Scr K H a l) (e : Ext ι H ι' H') : Scr K H' a l := by
  rcases h with ⟨o, h⟩ | h
  · exact .inl ⟨o, e.frzs _ _ _ h⟩
  · exact .inr h
mutual
theorem VR.ext {K : PySem.W.Frag} {ι ι' : List Addr} {H H' : Hp} (e : Ext ι H ι' H') : ∀ {v : V} {d : D}, VR K ι H v d → VR K ι' H' v d
  | _, _, .non => .non
  | _, _, .bl b => .bl b
  | _, _, .int i => .int i
  | _, _, .str x => .str x
  | _, _, .tup h r => .tup (Tp.ext h e) (VRs.ext e r)
  | _, _, .ref h => .ref (e.get h)
  | _, _, .scr h => .scr (h.ext e)
  | _, _, .opq v => .opq v
  | _, _, .adr a => .adr a
  | _, _, .ty n => .ty n
theorem VRs.ext {K : PySem.W.Frag} {ι ι' : List Addr} {H H' : Hp} (e : Ext ι H ι' H') : ∀ {vs : List V} {l : List D}, VRs K ι H vs l → VRs K ι' H' vs l
  | _, _, .nil => .nil
  | _, _, .cons r t => .cons (VR.ext e r) (VRs.ext e t)
end
section
variable {K : PySem.W.Frag} {ι : List Addr} {H : Hp}
theorem VRs.length : ∀ {vs : List V} {l : List D}, VRs K ι H vs l → vs.length = l.length
  | _, _, .nil => rfl
  | _, _, .cons _ t => by rw [List.length_cons, List.length_cons, VRs.length t]
theorem VRs.append : ∀ {vs ws : List V} {l m : List D}, VRs K ι H vs l → VRs K ι H ws m → VRs K ι H (vs ++ ws) (l ++ m)
  | _, _, _, _, .nil, s => s
  | _, _, _, _, .cons r t, s => .cons r (VRs.append t s)
theorem VRs.get : ∀ {vs : List V} {l : List D} {i : Nat} {d : D}, VRs K ι H vs l → l[i]? = some d → ∃ v, vs[i]? = some v ∧ VR K ι H v d
  | _, _, _, _, .nil, e => by simp at e
  | _, _, 0, _, .cons r _, e => by simp at e; subst e; exact ⟨_, rfl, r⟩
  | _, _, i + 1, d, .cons _ t, e => by
    obtain ⟨v, h1, h2⟩ := VRs.get (i := i) (d := d) t (by simpa using e)
    exact ⟨v, by simpa using h1, h2⟩
theorem VRs.set {v : V} {d : D} (r : VR K ι H v d) : ∀ {vs : List V} {l : List D} (i : Nat), VRs K ι H vs l → VRs K ι H (vs.set i v) (l.set i d)
  | _, _, _, .nil => .nil
  | _, _, 0, .cons _ t => .cons r t
  | _, _, i + 1, .cons q t => .cons q (VRs.set r i t)
theorem VRs.take : ∀ {vs : List V} {l : List D} (n : Nat), VRs K ι H vs l → VRs K ι H (vs.take n) (l.take n)
  | _, _, 0, _ => .nil
  | _, _, _ + 1, .nil => .nil
  | _, _, n + 1, .cons r t => .cons r (VRs.take n t)
theorem VRs.drop : ∀ {vs : List V} {l : List D} (n : Nat), VRs K ι H vs l → VRs K ι H (vs.drop n) (l.drop n)
  | _, _, 0, r => r
  | _, _, _ + 1, .nil => .nil
  | _, _, n + 1, .cons _ t => VRs.drop n t
theorem VRs.one {vs : List V} {d : D} (r : VRs K ι H vs [d]) : ∃ v, vs = [v] ∧ VR K ι H v d := by
  cases r with
  | cons a b => cases b; exact ⟨_, rfl, a⟩
theorem VRs.two {vs : List V} {d e : D} (r : VRs K ι H vs [d, e]) : ∃ v w, vs = [v, w] ∧ VR K ι H v d ∧ VR K ι H w e := by
  cases r with
  | cons a b => obtain ⟨w, rfl, q⟩ := b.one; exact ⟨_, _, rfl, a, q⟩
end
theorem ixA {l : List Addr} (hN : l.Nodup) {i j : Nat} {x : Addr} (a : l[i]? = some x) (b : l[j]? = some x) : i = j := by
  obtain ⟨h1, e1⟩ := List.getElem?_eq_some_iff.mp a
  obtain ⟨h2, e2⟩ := List.getElem?_eq_some_iff.mp b
  exact (List.getElem_inj hN).mp (e1.trans e2.symm)
/-- a cell as it lies -/
def CR (K : PySem.W.Frag) (ι : List Addr) (H : Hp) (a : Addr) : Cell → Prop
  | .lst l => ∃ vs, H a = some (.lst vs) ∧ VRs K ι H vs l
  | .dct l => ∃ kvs, H a = some (.dK kvs) ∧ kvs.map (·.1) = l.map (·.1) ∧ VRs K ι H (kvs.map (·.2)) (l.map (·.2))
  | .exn c v => ∃ (φ : Heap → Prop) (d : Option Addr), H a = some (.ext φ) ∧ (∀ h, φ h → ∃ (oe : Obj) (us : Array Value), h.get? a = some oe ∧ oe.cls = .ref (He.ga K c) ∧ oe.dict = d ∧ oe.data = .fields us) ∧
    match v with
    | none => d = none
    | some (f, w) => ∃ b u, d = some b ∧ b ∉ ι ∧ H b = some (.xd [(f, u)]) ∧ VR K ι H u w
structure HR (K : PySem.W.Frag) (ι : List Addr) (h : Hq) (H : Hp) : Prop where
  len : ι.length = h.length
  nd : ι.Nodup
  cells : ∀ (n : Nat) (c : Cell) (a : Addr), h[n]? = some c → ι[n]? = some a → CR K ι H a c
theorem CR.tracked {K : PySem.W.Frag} {ι : List Addr} {H : Hp} {a : Addr} {c : Cell} (r : CR K ι H a c) : ∃ o, H a = some o ∧ (∀ xs, o ≠ .tup xs) ∧ ∀ b u, o ≠ .frz b u := by
  cases c with
  | lst l => obtain ⟨vs, h, _⟩ := r; exact ⟨_, h, fun _ z => (nomatch z), fun _ _ z => (nomatch z)⟩
  | dct l => obtain ⟨kvs, h, _⟩ := r; exact ⟨_, h, fun _ z => (nomatch z), fun _ _ z => (nomatch z)⟩
  | exn c v => obtain ⟨φ, d, h, _⟩ := r; exact ⟨_, h, fun _ z => (nomatch z), fun _ _ z => (nomatch z)⟩
theorem Ext.notin {ι ι' : List Addr} {H H' : Hp} (e : Ext ι H ι' H') {b : Addr} {o : HO} (hb : H b = some o) (n : b ∉ ι) : b ∉ ι' := fun m => by
  obtain ⟨t, rfl, ht⟩ := e.pre
  rcases List.mem_append.mp m with m | m
  · exact n m
  · rw [ht b m] at hb; cases hb
section
variable {K : PySem.W.Frag} {ι ι' : List Addr} {h h' : Hq} {H H' : Hp}
theorem HR.addr (r : HR K ι h H) {n : Nat} {c : Cell} (e : h[n]? = some c) : ∃ a, ι[n]? = some a ∧ CR K ι H a c := by
  have hn : n < ι.length := by rw [r.len]; exact (List.getElem?_eq_some_iff.mp e).1
  exact ⟨ι[n], List.getElem?_eq_getElem hn, r.cells n c _ e (List.getElem?_eq_getElem hn)⟩
theorem HR.mem (r : HR K ι h H) {a : Addr} (m : a ∈ ι) : ∃ o, H a = some o ∧ (∀ xs, o ≠ .tup xs) ∧ ∀ b u, o ≠ .frz b u := by
  obtain ⟨n, hn, rfl⟩ := List.getElem_of_mem m
  have hh : n < h.length := by rw [← r.len]; exact hn
  exact (r.cells n h[n] _ (List.getElem?_eq_getElem hh) (List.getElem?_eq_getElem hn)).tracked
theorem CR.ext (e : Ext ι H ι' H') {a : Addr} {c : Cell} (r : CR K ι H a c) (s : H' a = H a) : CR K ι' H' a c := by
  cases c with
  | lst l => obtain ⟨vs, q, t⟩ := r; exact ⟨vs, s.trans q, t.ext e⟩
  | dct l => obtain ⟨kvs, q, k, t⟩ := r; exact ⟨kvs, s.trans q, k, t.ext e⟩
  | exn c v =>
    obtain ⟨φ, d, q, p, t⟩ := r
    refine ⟨φ, d, s.trans q, p, ?_⟩
    cases v with
    | none => exact t
    | some x =>
      obtain ⟨f, w⟩ := x
      obtain ⟨b, u, e1, nb, hb, r1⟩ := t
      exact ⟨b, u, e1, e.notin hb nb, e.keep b _ hb nb, r1.ext e⟩
/-- a new tuple -/
theorem HR.tup (r : HR K ι h H) {p : Addr} (np : H p = none) (vs : List V) : Ext ι H ι (upd H p (.tup vs)) ∧ HR K ι h (upd H p (.tup vs)) := by
  have ne : ∀ a o, H a = some o → a ≠ p := fun a o q => ne_of_none q np
  have e : Ext ι H ι (upd H p (.tup vs)) := ⟨⟨[], by simp, fun a z => (nomatch z)⟩, fun a xs q => by rw [upd_ne (ne a _ q)]; exact q, fun a o u q => by rw [upd_ne (ne a _ q)]; exact q,
    fun a o q _ => by rw [upd_ne (ne a _ q)]; exact q, fun a q => by
      by_cases hp : a = p
      · subst hp; exact absurd np q
      · rw [upd_ne hp]; exact q⟩
  refine ⟨e, r.len, r.nd, fun n c a h1 h2 => (r.cells n c a h1 h2).ext e ?_⟩
  obtain ⟨o, q, _⟩ := r.mem (List.mem_of_getElem? h2)
  rw [upd_ne (ne a o q)]
/-- a new cell -/
theorem HR.new (r : HR K ι h H) {p : Addr} (np : H p = none) {o : HO} {c : Cell} (hc : ∀ ι' H', Ext ι H ι' H' → H' p = some o → CR K ι' H' p c) :
    Ext ι H (ι ++ [p]) (upd H p o) ∧ HR K (ι ++ [p]) (h ++ [c]) (upd H p o) := by
  have ne : ∀ a u, H a = some u → a ≠ p := fun a u q => ne_of_none q np
  have e : Ext ι H (ι ++ [p]) (upd H p o) := ⟨⟨[p], rfl, fun a z => by rw [List.mem_singleton.mp z]; exact np⟩, fun a xs q => by rw [upd_ne (ne a _ q)]; exact q, fun a b u q => by rw [upd_ne (ne a _ q)]; exact q,
    fun a u q _ => by rw [upd_ne (ne a _ q)]; exact q, fun a q => by
      by_cases hp : a = p
      · subst hp; exact absurd np q
      · rw [upd_ne hp]; exact q⟩
  have hp : p ∉ ι := fun m => by
    obtain ⟨u, q, _⟩ := r.mem m
    rw [np] at q; cases q
  refine ⟨e, by simp [r.len], List.nodup_append.mpr ⟨r.nd, by simp, fun a ha b hb => by
    rw [List.mem_singleton.mp hb]; rintro rfl; exact hp ha⟩, fun n d a h1 h2 => ?_⟩
  by_cases hn : n < h.length
  · rw [List.getElem?_append_left hn] at h1
    rw [List.getElem?_append_left (by rw [r.len]; exact hn)] at h2
    refine (r.cells n d a h1 h2).ext e ?_
    obtain ⟨u, q, _⟩ := r.mem (List.mem_of_getElem? h2)
    rw [upd_ne (ne a u q)]
  · have hl : n = h.length := by
      have := (List.getElem?_eq_some_iff.mp h1).1
      simp at this; omega
    subst hl
    rw [List.getElem?_append_right (Nat.le_refl _)] at h1
    rw [List.getElem?_append_right (by rw [r.len]; exact Nat.le_refl _)] at h2
    have hz : h.length - ι.length = 0 := by rw [r.len]; omega
    rw [hz] at h2
    have e1 : c = d := by simpa using h1
    have e2 : p = a := by simpa using h2
    subst e1 e2
    exact hc _ _ e upd_same
/-- a cell written -/
theorem HR.put (r : HR K ι h H) {n : Nat} {a : Addr} {c0 : Cell} (h0 : h[n]? = some c0) (ha : ι[n]? = some a) {o : HO} {c : Cell} (hc : ∀ H', Ext ι H ι H' → H' a = some o → CR K ι H' a c) :
    Ext ι H ι (upd H a o) ∧ HR K ι (h.set n c) (upd H a o) := by
  obtain ⟨u0, q0, nt, nf⟩ := r.mem (List.mem_of_getElem? ha)
  have e : Ext ι H ι (upd H a o) := ⟨⟨[], by simp, fun b z => (nomatch z)⟩, fun b xs q => by
      rw [upd_ne (fun z => by subst z; rw [q0] at q; exact nt _ (Option.some.inj q))]; exact q, fun b y u q => by
      rw [upd_ne (fun z => by subst z; rw [q0] at q; exact nf _ _ (Option.some.inj q))]; exact q, fun b u q m => by
      rw [upd_ne (fun z => by subst z; exact m (List.mem_of_getElem? ha))]; exact q, fun b q => by
      by_cases hb : b = a
      · subst hb; rw [upd_same]; exact Option.some_ne_none _
      · rw [upd_ne hb]; exact q⟩
  refine ⟨e, by simp [r.len], r.nd, fun m d b h1 h2 => ?_⟩
  by_cases hm : m = n
  · subst hm
    rw [ha] at h2; cases h2
    rw [List.getElem?_set_self (List.getElem?_eq_some_iff.mp h0).1] at h1
    cases h1
    exact hc _ e upd_same
  · rw [List.getElem?_set_ne (Ne.symm hm)] at h1
    refine (r.cells m d b h1 h2).ext e ?_
    rw [upd_ne fun z => ?_]
    subst z
    exact hm (ixA r.nd h2 ha)
end
/-- slots -/
structure FR (K : PySem.W.Frag) (ι : List Addr) (H : Hp) (σ : L2.St) (fr : Fr) : Prop where
  len : σ.length = fr.length
  val : ∀ (i : Nat) (d : D), fr[i]? = some (some d) → ∃ v, σ[i]? = some (some v) ∧ VR K ι H v d
section
variable {K : PySem.W.Frag} {ι ι' : List Addr} {H H' : Hp} {σ : L2.St} {fr : Fr}
theorem FR.ext (e : Ext ι H ι' H') (r : FR K ι H σ fr) : FR K ι' H' σ fr := ⟨r.len, fun i d q => let ⟨v, a, b⟩ := r.val i d q; ⟨v, a, b.ext e⟩⟩
theorem FR.set (r : FR K ι H σ fr) {i : Nat} {v : V} {d : D} (q : VR K ι H v d) : FR K ι H (σ.set i (some v)) (fr.set i (some d)) := by
  refine ⟨by simp [r.len], fun j e h => ?_⟩
  by_cases hj : j = i
  · subst hj
    have hl : j < fr.length := by
      have := (List.getElem?_eq_some_iff.mp h).1
      simpa using this
    rw [List.getElem?_set_self hl] at h
    cases h
    exact ⟨v, List.getElem?_set_self (by rw [r.len]; exact hl), q⟩
  · rw [List.getElem?_set_ne (Ne.symm hj)] at h ⊢
    exact r.val j e h
theorem FR.wipe (r : FR K ι H σ fr) (i : Nat) : FR K ι H (σ.set i none) (fr.set i none) := by
  refine ⟨by simp [r.len], fun j e h => ?_⟩
  by_cases hj : j = i
  · subst hj
    have hl : j < fr.length := by
      have := (List.getElem?_eq_some_iff.mp h).1
      simpa using this
    rw [List.getElem?_set_self hl] at h
    cases h
  · rw [List.getElem?_set_ne (Ne.symm hj)] at h ⊢
    exact r.val j e h
end
/-- what lies of an exception -/
def XR (K : PySem.W.Frag) (mg : Str → Option Value) (ι : List Addr) (H : Hp) (x : Xn) (cls : Value) (d : Option Addr) : Prop :=
  ∃ C : Addr, mg x.cls = some (.ref C) ∧ cls = .ref C ∧ match x.val with
    | none => d = none
    | some (f, w) => ∃ a v, d = some a ∧ H a = some (.xd [(f, v)]) ∧ VR K ι H v w
/-- what is wanted of a worth: of each way that things may lie behind it -/
def Po (K : PySem.W.Frag) (mg : Str → Option Value) {α β : Type} (R : List Addr → Hp → β → α → Prop) (ι : List Addr) (H : Hp) (Q : β → Hp → Prop) (E : XK) : Rs α → Prop
  | .ok a h' => ∀ ι' H' v, Ext ι H ι' H' → HR K ι' h' H' → R ι' H' v a → Q v H'
  | .exc x h' => ∀ ι' H' cls d, Ext ι H ι' H' → HR K ι' h' H' → XR K mg ι' H' x cls d → E cls d H'
  | .no => False
abbrev PoV (K : PySem.W.Frag) (mg : Str → Option Value) (ι : List Addr) (H : Hp) (Q : VK) (E : XK) : Rs D → Prop := Po K mg (VR K) ι H Q E
abbrev PoB (K : PySem.W.Frag) (mg : Str → Option Value) (ι : List Addr) (H : Hp) (Q : Bool → Hp → Prop) (E : XK) : Rs Bool → Prop := Po K mg (fun _ _ (b c : Bool) => b = c) ι H Q E
abbrev PoA (K : PySem.W.Frag) (mg : Str → Option Value) (ι : List Addr) (H : Hp) (Q : List V → Hp → Prop) (E : XK) : Rs (List D) → Prop := Po K mg (VRs K) ι H Q E
section
variable {K : PySem.W.Frag} {mg : Str → Option Value} {ι ι' : List Addr} {H H' : Hp} {E : XK}
theorem Po.ext {α β : Type} {R : List Addr → Hp → β → α → Prop} {Q : β → Hp → Prop} (e : Ext ι H ι' H') : ∀ {r : Rs α}, Po K mg R ι H Q E r → Po K mg R ι' H' Q E r
  | .ok _ _, h => fun i2 H2 v e2 => h i2 H2 v (e.trans e2)
  | .exc _ _, h => fun i2 H2 c d e2 => h i2 H2 c d (e.trans e2)
  | .no, h => h
/-- the first of two: what it is worth, and behind it what is wanted of the rest -/
theorem Po.bind {α β γ δ : Type} {R : List Addr → Hp → β → α → Prop} {S : List Addr → Hp → δ → γ → Prop} {Q : δ → Hp → Prop} {f : α → Hq → Rs γ} : ∀ {r : Rs α}, Po K mg S ι H Q E (r.bind f) →
    Po K mg R ι H (fun v H1 => ∃ ι1 h1 a, Ext ι H ι1 H1 ∧ HR K ι1 h1 H1 ∧ R ι1 H1 v a ∧ Po K mg S ι1 H1 Q E (f a h1)) E r
  | .ok a h1, h => fun i1 H1 v e1 r1 q => ⟨i1, h1, a, e1, r1, q, Po.ext e1 h⟩
  | .exc _ _, h => h
  | .no, h => h
end
end MI
end
section
set_option Elab.async false
set_option linter.all false
set_option autoImplicit false
set_option maxRecDepth 100000
set_option maxHeartbeats 4000000
namespace MI
open PySem L2
theorem line_eq : (sizeLine : Nat) = 16777216 := PySem.sizeLine_eq
section
variable {K : PySem.W.Frag} {mg : Str → Option Value} {ι ι' : List Addr} {H H' : Hp} {E : XK}
theorem Po.mono {α β : Type} {R : List Addr → Hp → β → α → Prop} {Q Q' : β → Hp → Prop} (m : ∀ v H1, Q v H1 → Q' v H1) : ∀ {r : Rs α}, Po K mg R ι H Q E r → Po K mg R ι H Q' E r
  | .ok _ _, h => fun i1 H1 v e1 r1 q => m _ _ (h i1 H1 v e1 r1 q)
  | .exc _ _, h => h
  | .no, h => h
end
/-- where one stands -/
def tM (K : PySem.W.Frag) (mg : Str → Option Value) (E : XK) (f : Sx) : TE := fun σ H Q => ∃ ι h fr, HR K ι h H ∧ FR K ι H σ fr ∧ PoV K mg ι H Q E (f fr h)
def tMb (K : PySem.W.Frag) (mg : Str → Option Value) (E : XK) (f : Sb) : TT := fun σ H Q => ∃ ι h fr, HR K ι h H ∧ FR K ι H σ fr ∧ PoB K mg ι H Q E (f fr h)
def tMa (K : PySem.W.Frag) (mg : Str → Option Value) (E : XK) (f : Sa) : TA := fun σ H Q => ∃ ι h fr, HR K ι h H ∧ FR K ι H σ fr ∧ PoA K mg ι H Q E (f fr h)
abbrev PM (X : Cx) (E : XK) (e : Expr) (f : Sx) : Prop := PE X e (tM X.K X.mg E f)
abbrev PMb (X : Cx) (E : XK) (e : Expr) (f : Sb) : Prop := PT X e (tMb X.K X.mg E f)
abbrev PMw (X : Cx) (E : XK) (e : Expr) (f : Sb) : Prop := PW X e (tMb X.K X.mg E f)
abbrev PMa (X : Cx) (E : XK) (es : List Expr) (f : Sa) : Prop := PA X es (tMa X.K X.mg E f)
section
variable {X : Cx} {e : Expr} {es : List Expr}
theorem pe_imp {t t' : TE} (h : PE X e t) (m : ∀ σ H Q, t' σ H Q → t σ H Q) : PE X e t' := ⟨fun pins s σ H Q I q => h.run pins s σ H Q I (m σ H Q q)⟩
theorem pt_imp {t t' : TT} (h : PT X e t) (m : ∀ σ H Q, t' σ H Q → t σ H Q) : PT X e t' := ⟨fun pins s σ H Q I q => h.run pins s σ H Q I (m σ H Q q)⟩
theorem pw_imp {t t' : TT} (h : PW X e t) (m : ∀ σ H Q, t' σ H Q → t σ H Q) : PW X e t' := ⟨fun wh pins s σ H Q I q => h.run wh pins s σ H Q I (m σ H Q q)⟩
theorem pa_imp {t t' : TA} (h : PA X es t) (m : ∀ σ H Q, t' σ H Q → t σ H Q) : PA X es t' := ⟨fun pos pins s σ H Q I q => h.run pos pins s σ H Q I (m σ H Q q)⟩
end
def eK (d : D) : Sx := fun _ h => .ok d h
def eV (i : Nat) : Sx := fun fr h => match fr[i]? with
  | some (some d) => .ok d h
  | _ => .no
section
variable {X : Cx} {E : XK}
theorem m_int {i : Int} {j : Nat} {pos : Pos} : PM X E (.Constant (.int i) j pos) (eK (.int i)) := pe_imp pe_int fun σ H Q ⟨ι, h, fr, R, F, P⟩ => P ι H _ (Ext.refl _ _) R (.int i)
theorem m_bl {b : Bool} {j : Nat} {pos : Pos} : PM X E (.Constant (.bool b) j pos) (eK (.bl b)) := pe_imp pe_bl fun σ H Q ⟨ι, h, fr, R, F, P⟩ => P ι H _ (Ext.refl _ _) R (.bl b)
theorem m_non {j : Nat} {pos : Pos} : PM X E (.Constant .none j pos) (eK .non) := pe_imp pe_non fun σ H Q ⟨ι, h, fr, R, F, P⟩ => P ι H _ (Ext.refl _ _) R .non
theorem m_str {x : Str} {j : Nat} {pos : Pos} : PM X E (.Constant (.str x) j pos) (eK (.str x)) := pe_imp pe_str fun σ H Q ⟨ι, h, fr, R, F, P⟩ => P ι H _ (Ext.refl _ _) R (.str x)
theorem m_var (i : Nat) {x : Str} {pos : Pos} (hN : X.N[i]? = some x := by rfl) (hv : Vis X.env.scope x := by first | exact Or.inl rfl | exact Or.inr (Or.inl rfl) | exact Or.inr (Or.inr rfl)) (hd : (x == ("__debug__" : Str)) = false := by decide)
    (hcd : (x == ("__classdict__" : Str)) = false := by decide) : PM X E (.Name x pos) (eV i) := pe_imp (pe_var hN hv hd hcd) fun σ H Q ⟨ι, h, fr, R, F, P⟩ => by
  unfold eV at P
  split at P
  · rename_i d q
    obtain ⟨v, e, r⟩ := F.val i d q
    exact ⟨v, e, P ι H v (Ext.refl _ _) R r⟩
  · exact P.elim
end
def eOp (g : D → D → Hq → Rs D) (a b : Sx) : Sx := fun fr h => (a fr h).bind fun x h1 => (b fr h1).bind fun y h2 => g x y h2
def OpS (K : PySem.W.Frag) (mg : Str → Option Value) (E : XK) (g : D → D → Hq → Rs D) (r : R2) : Prop :=
  ∀ (ι : List Addr) (h : Hq) (H : Hp) (x y : D) (v w : V) (Q : VK), HR K ι h H → VR K ι H v x → VR K ι H w y → PoV K mg ι H Q E (g x y h) → r v w H Q
theorem op_in {K : PySem.W.Frag} {mg : Str → Option Value} {E : XK} {g : D → D → Hq → Rs D} {r : R2} (hs : OpS K mg E g r) {fa fb : Sx} {σ : L2.St} {H : Hp} {Q : VK} (q : tM K mg E (eOp g fa fb) σ H Q) :
    tOp r (tM K mg E fa) (tM K mg E fb) σ H Q := by
  obtain ⟨ι, h, fr, R, F, P⟩ := q
  refine ⟨ι, h, fr, R, F, Po.mono ?_ (Po.bind P)⟩
  rintro v H1 ⟨ι1, h1, x, e1, R1, r1, P1⟩
  refine ⟨ι1, h1, fr, R1, F.ext e1, Po.mono ?_ (Po.bind P1)⟩
  rintro w H2 ⟨ι2, h2, y, e2, R2, r2, P2⟩
  exact hs ι2 h2 H2 x y v w Q R2 (r1.ext e2) r2 P2
section
variable {X : Cx} {E : XK} {a b : Expr} {fa fb : Sx} {pos : Pos}
theorem m_bin {op : Operator} {g : D → D → Hq → Rs D} {r : R2} (ho : OpR X (binaryOp op) r) (hs : OpS X.K X.mg E g r) (ha : PM X E a fa) (hb : PM X E b fb) : PM X E (.BinOp a op b pos) (eOp g fa fb) :=
  pe_imp (pe_op ho ha hb) fun _ _ _ q => op_in hs q
theorem m_cmpV {op : CmpOp} {g : D → D → Hq → Rs D} {r : R2} (ho : OpR X (compareOp op) r) (hs : OpS X.K X.mg E g r) (ha : PM X E a fa) (hb : PM X E b fb) (hm : behindInMarks op b = false := by first | rfl | decide) :
    PM X E (.Compare a [op] [b] pos) (eOp g fa fb) := pe_imp (pe_cmpR ho ha hb hm) fun _ _ _ q => op_in hs q
end
/-- a worth that is a truth -/
def isB (r : Rs D) : Rs Bool := r.bind fun x h => match x with
  | .bl b => .ok b h
  | _ => .no
def bOf (f : Sx) : Sb := fun fr h => isB (f fr h)
theorem test_in {K : PySem.W.Frag} {mg : Str → Option Value} {E : XK} {f : Sx} {σ : L2.St} {H : Hp} {Q : Bool → Hp → Prop} (q : tMb K mg E (bOf f) σ H Q) :
    tM K mg E f σ H fun x H1 => ∃ c, x = .bl c ∧ Q c H1 := by
  obtain ⟨ι, h, fr, R, F, P⟩ := q
  refine ⟨ι, h, fr, R, F, Po.mono ?_ (Po.bind P)⟩
  rintro v H1 ⟨ι1, h1, x, e1, R1, r1, P1⟩
  cases x with
  | bl b =>
    cases r1
    exact ⟨b, rfl, P1 ι1 H1 b (Ext.refl _ _) R1 rfl⟩
  | _ => exact P1.elim
section
variable {X : Cx} {E : XK} {a b c : Expr} {fa fb : Sx} {pos : Pos}
theorem m_cmp {op : CmpOp} {g : D → D → Hq → Rs D} {r : R2} (ho : OpR X (compareOp op) r) (hs : OpS X.K X.mg E g r) (ha : PM X E a fa) (hb : PM X E b fb) (hm : behindInMarks op b = false := by first | rfl | decide) :
    PMb X E (.Compare a [op] [b] pos) (bOf (eOp g fa fb)) := pt_imp (pt_cmpR ho ha hb hm) fun σ H Q q => op_in hs (test_in q)
end
def bAnd (f g : Sb) : Sb := fun fr h => (f fr h).bind fun c h1 => if c = true then g fr h1 else .ok false h1
def bOr (f g : Sb) : Sb := fun fr h => (f fr h).bind fun c h1 => if c = true then .ok true h1 else g fr h1
def bNot (f : Sb) : Sb := fun fr h => (f fr h).bind fun c h1 => .ok (!c) h1
section
variable {X : Cx} {E : XK} {a b : Expr} {fa fb : Sb} {rest : List Expr} {pos : Pos}
theorem m_or1 (ha : PMb X E a fa) : PMw X E (.BoolOp .Or [a] pos) fa := pw_or1 ha
theorem m_or (ha : PMb X E a fa) (hb : PMw X E (.BoolOp .Or (b :: rest) pos) fb) : PMw X E (.BoolOp .Or (a :: b :: rest) pos) (bOr fa fb) := pw_imp (pw_or ha hb) fun σ H Q ⟨ι, h, fr, R, F, P⟩ => by
  refine ⟨ι, h, fr, R, F, Po.mono ?_ (Po.bind P)⟩
  rintro c H1 ⟨ι1, h1, d, e1, R1, r1, P1⟩
  subst r1
  cases c with
  | false => exact ⟨ι1, h1, fr, R1, F.ext e1, P1⟩
  | true => exact P1 ι1 H1 true (Ext.refl _ _) R1 rfl
theorem m_w (h : PMw X E a fa) : PMb X E a fa := h.pt
end
/-- .. as values -/
def eAnd (f g : Sx) : Sx := fun fr h => (isB (f fr h)).bind fun c h1 => if c = true then g fr h1 else .ok (.bl false) h1
def eOr (f g : Sx) : Sx := fun fr h => (isB (f fr h)).bind fun c h1 => if c = true then .ok (.bl true) h1 else g fr h1
def eNot (f : Sx) : Sx := fun fr h => (isB (f fr h)).bind fun c h1 => .ok (.bl (!c)) h1
theorem isB_in {K : PySem.W.Frag} {mg : Str → Option Value} {ι : List Addr} {H : Hp} {E : XK} {δ γ : Type} {S : List Addr → Hp → δ → γ → Prop} {Q : δ → Hp → Prop} {k : Bool → Hq → Rs γ} {r : Rs D} (P : Po K mg S ι H Q E ((isB r).bind k)) :
    PoV K mg ι H (fun v H1 => ∃ c, v = .bl c ∧ ∃ ι1 h1, Ext ι H ι1 H1 ∧ HR K ι1 h1 H1 ∧ Po K mg S ι1 H1 Q E (k c h1)) E r := by
  have P' : Po K mg S ι H Q E (r.bind fun x h => (match x with | .bl b => (.ok b h : Rs Bool) | _ => .no).bind k) := by
    cases r with
    | ok a h => exact P
    | exc x h => exact P
    | no => exact P
  refine Po.mono ?_ (Po.bind P')
  rintro v H1 ⟨ι1, h1, d, e1, R1, r1, P1⟩
  cases d with
  | bl b => cases r1; exact ⟨b, rfl, ι1, h1, e1, R1, P1⟩
  | _ => exact P1.elim
section
variable {X : Cx} {E : XK} {a b : Expr} {fa fb : Sx} {rest : List Expr} {pos : Pos}
theorem m_one {op : BoolOp} (ha : PM X E a fa) : PM X E (.BoolOp op [a] pos) fa := pe_one ha
theorem m_andV (ha : PM X E a fa) (hb : PM X E (.BoolOp .And (b :: rest) pos) fb) : PM X E (.BoolOp .And (a :: b :: rest) pos) (eAnd fa fb) := pe_imp (pe_and ha hb) fun σ H Q ⟨ι, h, fr, R, F, P⟩ => by
  refine ⟨ι, h, fr, R, F, Po.mono ?_ (isB_in P)⟩
  rintro v H1 ⟨c, rfl, ι1, h1, e1, R1, P1⟩
  refine ⟨c, rfl, ?_⟩
  cases c with
  | true => exact ⟨ι1, h1, fr, R1, F.ext e1, P1⟩
  | false => exact P1 ι1 H1 _ (Ext.refl _ _) R1 (.bl false)
theorem m_notV (ha : PM X E a fa) : PM X E (.UnaryOp .Not a pos) (eNot fa) := pe_imp (pe_not ha) fun σ H Q ⟨ι, h, fr, R, F, P⟩ => by
  refine ⟨ι, h, fr, R, F, Po.mono ?_ (isB_in P)⟩
  rintro v H1 ⟨c, rfl, ι1, h1, e1, R1, P1⟩
  exact ⟨c, rfl, P1 ι1 H1 _ (Ext.refl _ _) R1 (.bl _)⟩
def eIf (t : Sb) (f g : Sx) : Sx := fun fr h => (t fr h).bind fun c h1 => if c = true then f fr h1 else g fr h1
end
def aNil : Sa := fun _ h => .ok [] h
def aCons (f : Sx) (g : Sa) : Sa := fun fr h => (f fr h).bind fun x h1 => (g fr h1).bind fun xs h2 => .ok (x :: xs) h2
section
variable {X : Cx} {E : XK} {a : Expr} {as : List Expr} {fa : Sx} {fs : Sa} {pos : Pos}
theorem m_nil : PMa X E [] aNil := pa_imp pa_nil fun σ H Q ⟨ι, h, fr, R, F, P⟩ => P ι H [] (Ext.refl _ _) R .nil
theorem m_cons (ha : PM X E a fa) (hr : PMa X E as fs) (hs : starEach (a :: as) X.env = (false, eval a X.env) :: starEach as X.env := by rfl) : PMa X E (a :: as) (aCons fa fs) := pa_imp (pa_cons ha hr hs) fun σ H Q ⟨ι, h, fr, R, F, P⟩ => by
  refine ⟨ι, h, fr, R, F, Po.mono ?_ (Po.bind P)⟩
  rintro v H1 ⟨ι1, h1, x, e1, R1, r1, P1⟩
  refine ⟨ι1, h1, fr, R1, F.ext e1, Po.mono ?_ (Po.bind P1)⟩
  rintro vs H2 ⟨ι2, h2, xs, e2, R2, r2, P2⟩
  exact P2 ι2 H2 _ (Ext.refl _ _) R2 (.cons (r1.ext e2) r2)
def small (n : Nat) : Bool := decide (n ≤ 16777216)
def eTup (f : Sa) : Sx := fun fr h => (f fr h).bind fun xs h1 => if small xs.length = true then .ok (.tup xs) h1 else .no
def eLst (f : Sa) : Sx := fun fr h => (f fr h).bind fun xs h1 => if small xs.length = true then .ok (.ref h1.length) (h1 ++ [.lst xs]) else .no
theorem small_le {n : Nat} (h : small n = true) : n ≤ sizeLine := by rw [line_eq]; exact of_decide_eq_true h
theorem m_tup {k : Nat} (h : PMa X E as fs) : PM X E (.Tuple as k pos) (eTup fs) := pe_imp (pe_tup h) fun σ H Q ⟨ι, h, fr, R, F, P⟩ => by
  refine ⟨ι, h, fr, R, F, Po.mono ?_ (Po.bind P)⟩
  rintro vs H1 ⟨ι1, h1, xs, e1, R1, r1, P1⟩
  split at P1
  · rename_i hz
    refine ⟨by rw [r1.length]; exact small_le hz, fun p np => ?_⟩
    obtain ⟨e2, R2⟩ := R1.tup np vs
    exact P1 ι1 _ _ e2 R2 (.tup (.of upd_same) (r1.ext e2))
  · exact P1.elim
theorem ref_new {ι : List Addr} {h : Hq} {H : Hp} {K : PySem.W.Frag} (R : HR K ι h H) (p : Addr) : (ι ++ [p])[h.length]? = some p := by
  rw [← R.len, List.getElem?_append_right (Nat.le_refl _), Nat.sub_self]; rfl
theorem m_lst (h : PMa X E as fs) : PM X E (.List as pos) (eLst fs) := pe_imp (pe_lst h) fun σ H Q ⟨ι, h, fr, R, F, P⟩ => by
  refine ⟨ι, h, fr, R, F, Po.mono ?_ (Po.bind P)⟩
  rintro vs H1 ⟨ι1, h1, xs, e1, R1, r1, P1⟩
  split at P1
  · rename_i hz
    refine ⟨by rw [r1.length]; exact small_le hz, fun p np => ?_⟩
    obtain ⟨e2, R2⟩ := R1.new np (o := .lst vs) (c := .lst xs) fun ι' H' e q => ⟨vs, q, r1.ext e⟩
    exact P1 _ _ _ e2 R2 (.ref (ref_new R1 p))
  · exact P1.elim
/-- {} -/
def eDct0 : Sx := fun _ h => .ok (.ref h.length) (h ++ [.dct []])
/-- {"a": 2, "b": 0} -/
def eDct2 (a b : Str) (i j : Int) : Sx := fun _ h => .ok (.ref h.length) (h ++ [.dct [(.inr a, .int i), (.inr b, .int j)]])
theorem upd_upd {H : Hp} {p : Addr} {x y : HO} : upd (upd H p x) p y = upd H p y := by
  funext q
  unfold upd
  split <;> rfl
end
end MI
end
section
set_option Elab.async false
set_option linter.all false
set_option maxRecDepth 100000
set_option maxHeartbeats 4000000
namespace PySem.MiDs
open PySem PySem.Spec PyProof.Rows PySem.SeqAt
theorem no1 (z : Str) (u : Tok) (l : Addr) (dt : Array DictEntry) (n : Nat) (dd : Option Addr) (sl : Array (Option Value)) :
    Meets (Builtin.«dict.__eq__» ⟨[.ref l, .str z u], []⟩) (fun _ R s => s.heap.get? l = some ⟨.type "dict", dd, .dict dt n, sl⟩ ∧ R (.ok (.ret .notImplemented)) s) := by
  refine .of_wp fun prog w A R s q => ?_
  obtain ⟨hp, g, d, tk, os⟩ := s
  obtain ⟨hl, q2⟩ := q
  have f1 := F.sub_str_dict
  wp_walk using wpAny_loadPart' hl
  exact ⟨_, rfl, q2⟩
theorem no2 (z : Str) (u : Tok) (l : Addr) (c : Value) (dt : Array DictEntry) (n : Nat) (dd : Option Addr) (sl : Array (Option Value)) :
    Meets (Builtin.«str.__eq__» ⟨[.str z u, .ref l], []⟩) (fun _ R s => s.heap.get? l = some ⟨c, dd, .dict dt n, sl⟩ ∧ R (.ok (.ret .notImplemented)) s) := by
  refine .of_wp fun prog w A R s q => ?_
  obtain ⟨hp, g, d, tk, os⟩ := s
  obtain ⟨hl, q2⟩ := q
  wp_walk using wpAny_loadPart' hl, wpAny_load hl
  exact ⟨_, rfl, q2⟩
theorem eqDS {prog : Program} {w : World} {A : Around} {E : Value → Shared → Prop} {s : Shared} {l : Addr} {o : Obj} {dt : Array DictEntry} {n : Nat} {z : Str} {u : Tok} {Q : Value → Shared → Prop} (ho : s.heap.get? l = some o) (hc : o.cls = .type "dict") (hd : o.data = .dict dt n) (hu : A.units < cLine)
    (q : Q (.bool false) s) : wpAny (model prog w) A (compareOp .Eq (.ref l) (.str z u)) Q E s := by
  obtain ⟨c, dd, dat, sl⟩ := o
  dsimp only at hc hd
  subst hc hd
  show wpAny (model prog w) A (richCompare .Eq (.ref l) (.str z u)) Q E s
  refine rc_eq_decline_or (k := false) ⟨_, ho, rfl⟩ (typeIs_str s z u) (by decide) F.sub_str_dict F.slot_dict_eq F.slot_str_eq_refl (fun Q' q' => ?_) (fun Q' q' => ?_) (fun Q' q' => ?_) (.inr hu) q
  · exact call_meets F.slot_dict_eq ⟨_, ho, rfl⟩ F.entry_dict_eq (F.args_dict_eq_2 _ _) (no1 z u l dt n dd sl) ⟨ho, q'⟩
  · exact call_meets F.slot_str_eq_refl (typeIs_str s z u) F.entry_str_eq (F.args_str_eq_2 _ _) (no2 z u l (.type "dict") dt n dd sl) ⟨ho, q'⟩
  · exact wpAny_of_eq (rfl : isSame (.ref l) (.str z u) = pure false) q'
end PySem.MiDs
namespace L2
open PySem PySem.Spec PyProof.Rows
def rEqDS : R2 := fun x y H Q => ∃ (a : Addr) (kvs : List (L2.Key × V)) (z : Str), x = .ref a ∧ y = .str z ∧ H a = some (.dK kvs) ∧ Q (.bl false) H
theorem op_eqDS {X : Cx} (hu : X.A.units + 64 < cLine) : OpR X (compareOp .Eq) rEqDS := by
  intro pins s σ H x y v u Q I rx ry h
  obtain ⟨a, kvs, z, rfl, rfl, hx, q⟩ := h
  cases rx
  obtain ⟨t, rfl⟩ := ry
  obtain ⟨_, _, vs, _, hd⟩ : kvs.length ≤ sizeLine ∧ (a == sysModules) = false ∧ ∃ vs, KV kvs vs ∧ s.heap.DictOf (mixKind X.prog X.w) a vs := I.hok a _ hx
  obtain ⟨o, es, ep, g1, g2, g3, _⟩ := hd
  exact PySem.MiDs.eqDS g1 g2.1 g3 (by omega) ⟨.bl false, H, I, rfl, q⟩
end L2
end
section
set_option Elab.async false
set_option linter.all false
set_option maxRecDepth 100000
set_option maxHeartbeats 4000000
namespace PySem.MiDs
open PySem PySem.Spec PyProof.Rows PySem.SeqAt
section
variable (l b : Addr) (dt : Array DictEntry) (n n2 : Nat) (dd dd2 : Option Addr) (sl sl2 : Array (Option Value)) (items : Array Value)
theorem d_non : Meets (Builtin.«dict.__eq__» ⟨[.ref l, .none], []⟩) (fun _ R s => s.heap.get? l = some ⟨.type "dict", dd, .dict dt n, sl⟩ ∧ R (.ok (.ret .notImplemented)) s) := by
  refine .of_wp fun prog w A R s q => ?_
  obtain ⟨hp, g, d, tk, os⟩ := s
  obtain ⟨hl, q2⟩ := q
  have f1 : isSubtype (.type "NoneType") (.type "dict") = pure false := by rw [isSubtype_type]; kernel_rfl
  wp_walk using wpAny_loadPart' hl
  exact ⟨_, rfl, q2⟩
theorem d_int (i : Int) (u : Tok) : Meets (Builtin.«dict.__eq__» ⟨[.ref l, .int i u], []⟩) (fun _ R s => s.heap.get? l = some ⟨.type "dict", dd, .dict dt n, sl⟩ ∧ R (.ok (.ret .notImplemented)) s) := by
  refine .of_wp fun prog w A R s q => ?_
  obtain ⟨hp, g, d, tk, os⟩ := s
  obtain ⟨hl, q2⟩ := q
  have f1 : isSubtype (.type "int") (.type "dict") = pure false := by rw [isSubtype_type]; kernel_rfl
  wp_walk using wpAny_loadPart' hl
  exact ⟨_, rfl, q2⟩
theorem d_bool (c : Bool) : Meets (Builtin.«dict.__eq__» ⟨[.ref l, .bool c], []⟩) (fun _ R s => s.heap.get? l = some ⟨.type "dict", dd, .dict dt n, sl⟩ ∧ R (.ok (.ret .notImplemented)) s) := by
  refine .of_wp fun prog w A R s q => ?_
  obtain ⟨hp, g, d, tk, os⟩ := s
  obtain ⟨hl, q2⟩ := q
  have f1 : isSubtype (.type "bool") (.type "dict") = pure false := by rw [isSubtype_type]; kernel_rfl
  wp_walk using wpAny_loadPart' hl
  exact ⟨_, rfl, q2⟩
theorem d_seq (T : String) (hT : isSubtype (.type T) (.type "dict") = pure false) : Meets (Builtin.«dict.__eq__» ⟨[.ref l, .ref b], []⟩) (fun _ R s => s.heap.get? l = some ⟨.type "dict", dd, .dict dt n, sl⟩ ∧ s.heap.get? b = some ⟨.type T, dd2, .seq items n2, sl2⟩ ∧ R (.ok (.ret .notImplemented)) s) := by
  refine .of_wp fun prog w A R s q => ?_
  obtain ⟨hp, g, d, tk, os⟩ := s
  obtain ⟨hl, hb, q2⟩ := q
  have f1 := hT
  wp_walk using wpAny_loadPart' hl, wpAny_loadPart' hb
  exact ⟨_, rfl, q2⟩
theorem int_d (i : Int) (u : Tok) : Meets (Builtin.«int.__eq__» ⟨[.int i u, .ref l], []⟩) (fun _ R s => s.heap.get? l = some ⟨.type "dict", dd, .dict dt n, sl⟩ ∧ R (.ok (.ret .notImplemented)) s) := by
  refine .of_wp fun prog w A R s q => ?_
  obtain ⟨hp, g, d, tk, os⟩ := s
  obtain ⟨hl, q2⟩ := q
  wp_walk using wpAny_loadPart' hl, wpAny_load hl
  exact ⟨_, rfl, q2⟩
theorem bool_d (c : Bool) : Meets (Builtin.«int.__eq__» ⟨[.bool c, .ref l], []⟩) (fun _ R s => s.heap.get? l = some ⟨.type "dict", dd, .dict dt n, sl⟩ ∧ R (.ok (.ret .notImplemented)) s) := by
  refine .of_wp fun prog w A R s q => ?_
  obtain ⟨hp, g, d, tk, os⟩ := s
  obtain ⟨hl, q2⟩ := q
  wp_walk using wpAny_loadPart' hl, wpAny_load hl
  exact ⟨_, rfl, q2⟩
theorem none_d : Meets (Builtin.«NoneType.__eq__» ⟨[.none, .ref l], []⟩) (fun _ R s => s.heap.get? l = some ⟨.type "dict", dd, .dict dt n, sl⟩ ∧ R (.ok (.ret .notImplemented)) s) := by
  refine .of_wp fun prog w A R s q => ?_
  obtain ⟨hp, g, d, tk, os⟩ := s
  obtain ⟨hl, q2⟩ := q
  wp_walk
  exact ⟨_, rfl, q2⟩
theorem list_d : Meets (Builtin.«list.__eq__» ⟨[.ref b, .ref l], []⟩) (fun _ R s => s.heap.get? b = some ⟨.type "list", dd2, .seq items n2, sl2⟩ ∧ s.heap.get? l = some ⟨.type "dict", dd, .dict dt n, sl⟩ ∧ R (.ok (.ret .notImplemented)) s) := by
  refine .of_wp fun prog w A R s q => ?_
  obtain ⟨hp, g, d, tk, os⟩ := s
  obtain ⟨hb, hl, q2⟩ := q
  have f1 : isSubtype (.type "dict") (.type "list") = pure false := by rw [isSubtype_type]; kernel_rfl
  wp_walk using wpAny_loadPart' hb, wpAny_loadPart' hl
  exact ⟨_, rfl, q2⟩
theorem tuple_d : Meets (Builtin.«tuple.__eq__» ⟨[.ref b, .ref l], []⟩) (fun _ R s => s.heap.get? b = some ⟨.type "tuple", dd2, .seq items n2, sl2⟩ ∧ s.heap.get? l = some ⟨.type "dict", dd, .dict dt n, sl⟩ ∧ R (.ok (.ret .notImplemented)) s) := by
  refine .of_wp fun prog w A R s q => ?_
  obtain ⟨hp, g, d, tk, os⟩ := s
  obtain ⟨hb, hl, q2⟩ := q
  have f1 : isSubtype (.type "dict") (.type "tuple") = pure false := by rw [isSubtype_type]; kernel_rfl
  wp_walk using wpAny_loadPart' hb, wpAny_loadPart' hl
  exact ⟨_, rfl, q2⟩
end
/-- what is no dict -/
inductive NoD (s : Shared) : Value → Prop
  | none : NoD s .none
  | bool (c : Bool) : NoD s (.bool c)
  | int (i : Int) (u : Tok) : NoD s (.int i u)
  | str (z : Str) (u : Tok) : NoD s (.str z u)
  | list {b : Addr} {o : Obj} {its : Array Value} {n : Nat} : s.heap.get? b = some o → o.cls = .type "list" → o.data = .seq its n → NoD s (.ref b)
  | tuple {b : Addr} {o : Obj} {its : Array Value} {n : Nat} : s.heap.get? b = some o → o.cls = .type "tuple" → o.data = .seq its n → NoD s (.ref b)
section
variable {prog : Program} {w : World} {A : Around} {E : Value → Shared → Prop} {s : Shared} {l : Addr} {o : Obj} {dt : Array DictEntry} {n : Nat} {u : Value} {Q : Value → Shared → Prop}
theorem eqDX (ho : s.heap.get? l = some o) (hc : o.cls = .type "dict") (hd : o.data = .dict dt n) (hn : NoD s u) (hu : A.units < cLine) (q : Q (.bool false) s) : wpAny (model prog w) A (compareOp .Eq (.ref l) u) Q E s := by
  obtain ⟨c, dd, dat, sl⟩ := o
  dsimp only at hc hd
  subst hc hd
  show wpAny (model prog w) A (richCompare .Eq (.ref l) u) Q E s
  cases hn with
  | none =>
    exact rc_eq_decline_or (k := false) ⟨_, ho, rfl⟩ rfl (by decide) (by rw [isSubtype_type]; kernel_rfl) F.slot_dict_eq F.slot_NoneType_eq_refl
      (fun _ q' => call_meets F.slot_dict_eq ⟨_, ho, rfl⟩ F.entry_dict_eq (F.args_dict_eq_2 _ _) (d_non l dt n dd sl) ⟨ho, q'⟩)
      (fun _ q' => call_meets F.slot_NoneType_eq_refl rfl F.entry_NoneType_eq (F.args_NoneType_eq_2 _ _) (none_d l dt n dd sl) ⟨ho, q'⟩)
      (fun _ q' => wpAny_of_eq (rfl : isSame (.ref l) .none = pure false) q') (.inr hu) q
  | bool c =>
    exact rc_eq_decline_or (k := false) ⟨_, ho, rfl⟩ rfl (by decide) (by rw [isSubtype_type]; kernel_rfl) F.slot_dict_eq F.slot_bool_eq_refl
      (fun _ q' => call_meets F.slot_dict_eq ⟨_, ho, rfl⟩ F.entry_dict_eq (F.args_dict_eq_2 _ _) (d_bool l dt n dd sl c) ⟨ho, q'⟩)
      (fun _ q' => call_meets F.slot_bool_eq_refl rfl F.entry_int_eq (F.args_int_eq_2 _ _) (bool_d l dt n dd sl c) ⟨ho, q'⟩)
      (fun _ q' => wpAny_of_eq (rfl : isSame (.ref l) (.bool c) = pure false) q') (.inr hu) q
  | int i t =>
    exact rc_eq_decline_or (k := false) ⟨_, ho, rfl⟩ (typeIs_int s i t) (by decide) (by rw [isSubtype_type]; kernel_rfl) F.slot_dict_eq F.slot_int_eq_refl
      (fun _ q' => call_meets F.slot_dict_eq ⟨_, ho, rfl⟩ F.entry_dict_eq (F.args_dict_eq_2 _ _) (d_int l dt n dd sl i t) ⟨ho, q'⟩)
      (fun _ q' => call_meets F.slot_int_eq_refl (typeIs_int s i t) F.entry_int_eq (F.args_int_eq_2 _ _) (int_d l dt n dd sl i t) ⟨ho, q'⟩)
      (fun _ q' => wpAny_of_eq (rfl : isSame (.ref l) (.int i t) = pure false) q') (.inr hu) q
  | str z t => exact eqDS ho rfl rfl hu q
  | list hb hc2 hd2 =>
    rename_i b o2 its n2
    obtain ⟨c2, dd2, dat2, sl2⟩ := o2
    dsimp only at hc2 hd2
    subst hc2 hd2
    have hne : l ≠ b := fun e => by subst e; rw [ho] at hb; simp at hb
    exact rc_eq_decline_or (k := false) ⟨_, ho, rfl⟩ ⟨_, hb, rfl⟩ (by decide) (by rw [isSubtype_type]; kernel_rfl) F.slot_dict_eq F.slot_list_eq_refl
      (fun _ q' => call_meets F.slot_dict_eq ⟨_, ho, rfl⟩ F.entry_dict_eq (F.args_dict_eq_2 _ _) (d_seq l b dt n n2 dd dd2 sl sl2 its "list" (by rw [isSubtype_type]; kernel_rfl)) ⟨ho, hb, q'⟩)
      (fun _ q' => call_meets F.slot_list_eq_refl ⟨_, hb, rfl⟩ F.entry_list_eq (F.args_list_eq_2 _ _) (list_d l b dt n n2 dd dd2 sl sl2 its) ⟨hb, ho, q'⟩)
      (fun _ q' => wpAny_isSame_ref_other hne ho hb (by simp) q') (.inr hu) q
  | tuple hb hc2 hd2 =>
    rename_i b o2 its n2
    obtain ⟨c2, dd2, dat2, sl2⟩ := o2
    dsimp only at hc2 hd2
    subst hc2 hd2
    have hne : l ≠ b := fun e => by subst e; rw [ho] at hb; simp at hb
    exact rc_eq_decline_or (k := false) ⟨_, ho, rfl⟩ ⟨_, hb, rfl⟩ (by decide) (by rw [isSubtype_type]; kernel_rfl) F.slot_dict_eq F.slot_tuple_eq_refl
      (fun _ q' => call_meets F.slot_dict_eq ⟨_, ho, rfl⟩ F.entry_dict_eq (F.args_dict_eq_2 _ _) (d_seq l b dt n n2 dd dd2 sl sl2 its "tuple" (by rw [isSubtype_type]; kernel_rfl)) ⟨ho, hb, q'⟩)
      (fun _ q' => call_meets F.slot_tuple_eq_refl ⟨_, hb, rfl⟩ F.entry_tuple_eq (F.args_tuple_eq_2 _ _) (tuple_d l b dt n n2 dd dd2 sl sl2 its) ⟨hb, ho, q'⟩)
      (fun _ q' => wpAny_isSame_ref_other hne ho hb (by simp) q') (.inr hu) q
theorem eqXD (ho : s.heap.get? l = some o) (hc : o.cls = .type "dict") (hd : o.data = .dict dt n) (hn : NoD s u) (hu : A.units < cLine) (q : Q (.bool false) s) : wpAny (model prog w) A (compareOp .Eq u (.ref l)) Q E s := by
  obtain ⟨c, dd, dat, sl⟩ := o
  dsimp only at hc hd
  subst hc hd
  show wpAny (model prog w) A (richCompare .Eq u (.ref l)) Q E s
  cases hn with
  | none =>
    exact rc_eq_decline_or (k := false) rfl ⟨_, ho, rfl⟩ (by decide) (by rw [isSubtype_type]; kernel_rfl) F.slot_NoneType_eq F.slot_dict_eq_refl
      (fun _ q' => call_meets F.slot_NoneType_eq rfl F.entry_NoneType_eq (F.args_NoneType_eq_2 _ _) (none_d l dt n dd sl) ⟨ho, q'⟩)
      (fun _ q' => call_meets F.slot_dict_eq_refl ⟨_, ho, rfl⟩ F.entry_dict_eq (F.args_dict_eq_2 _ _) (d_non l dt n dd sl) ⟨ho, q'⟩)
      (fun _ q' => wpAny_of_eq (rfl : isSame .none (.ref l) = pure false) q') (.inr hu) q
  | bool c =>
    exact rc_eq_decline_or (k := false) rfl ⟨_, ho, rfl⟩ (by decide) (by rw [isSubtype_type]; kernel_rfl) F.slot_bool_eq F.slot_dict_eq_refl
      (fun _ q' => call_meets F.slot_bool_eq rfl F.entry_int_eq (F.args_int_eq_2 _ _) (bool_d l dt n dd sl c) ⟨ho, q'⟩)
      (fun _ q' => call_meets F.slot_dict_eq_refl ⟨_, ho, rfl⟩ F.entry_dict_eq (F.args_dict_eq_2 _ _) (d_bool l dt n dd sl c) ⟨ho, q'⟩)
      (fun _ q' => wpAny_of_eq (rfl : isSame (.bool c) (.ref l) = pure false) q') (.inr hu) q
  | int i t =>
    exact rc_eq_decline_or (k := false) (typeIs_int s i t) ⟨_, ho, rfl⟩ (by decide) (by rw [isSubtype_type]; kernel_rfl) F.slot_int_eq F.slot_dict_eq_refl
      (fun _ q' => call_meets F.slot_int_eq (typeIs_int s i t) F.entry_int_eq (F.args_int_eq_2 _ _) (int_d l dt n dd sl i t) ⟨ho, q'⟩)
      (fun _ q' => call_meets F.slot_dict_eq_refl ⟨_, ho, rfl⟩ F.entry_dict_eq (F.args_dict_eq_2 _ _) (d_int l dt n dd sl i t) ⟨ho, q'⟩)
      (fun _ q' => wpAny_of_eq (rfl : isSame (.int i t) (.ref l) = pure false) q') (.inr hu) q
  | str z t =>
    exact rc_eq_decline_or (k := false) (typeIs_str s z t) ⟨_, ho, rfl⟩ (by decide) (by rw [isSubtype_type]; kernel_rfl) F.slot_str_eq F.slot_dict_eq_refl
      (fun _ q' => call_meets F.slot_str_eq (typeIs_str s z t) F.entry_str_eq (F.args_str_eq_2 _ _) (no2 z t l (.type "dict") dt n dd sl) ⟨ho, q'⟩)
      (fun _ q' => call_meets F.slot_dict_eq_refl ⟨_, ho, rfl⟩ F.entry_dict_eq (F.args_dict_eq_2 _ _) (no1 z t l dt n dd sl) ⟨ho, q'⟩)
      (fun _ q' => wpAny_of_eq (rfl : isSame (.str z t) (.ref l) = pure false) q') (.inr hu) q
  | list hb hc2 hd2 =>
    rename_i b o2 its n2
    obtain ⟨c2, dd2, dat2, sl2⟩ := o2
    dsimp only at hc2 hd2
    subst hc2 hd2
    have hne : b ≠ l := fun e => by subst e; rw [ho] at hb; simp at hb
    exact rc_eq_decline_or (k := false) ⟨_, hb, rfl⟩ ⟨_, ho, rfl⟩ (by decide) (by rw [isSubtype_type]; kernel_rfl) F.slot_list_eq F.slot_dict_eq_refl
      (fun _ q' => call_meets F.slot_list_eq ⟨_, hb, rfl⟩ F.entry_list_eq (F.args_list_eq_2 _ _) (list_d l b dt n n2 dd dd2 sl sl2 its) ⟨hb, ho, q'⟩)
      (fun _ q' => call_meets F.slot_dict_eq_refl ⟨_, ho, rfl⟩ F.entry_dict_eq (F.args_dict_eq_2 _ _) (d_seq l b dt n n2 dd dd2 sl sl2 its "list" (by rw [isSubtype_type]; kernel_rfl)) ⟨ho, hb, q'⟩)
      (fun _ q' => wpAny_isSame_ref_other hne hb ho (by simp) q') (.inr hu) q
  | tuple hb hc2 hd2 =>
    rename_i b o2 its n2
    obtain ⟨c2, dd2, dat2, sl2⟩ := o2
    dsimp only at hc2 hd2
    subst hc2 hd2
    have hne : b ≠ l := fun e => by subst e; rw [ho] at hb; simp at hb
    exact rc_eq_decline_or (k := false) ⟨_, hb, rfl⟩ ⟨_, ho, rfl⟩ (by decide) (by rw [isSubtype_type]; kernel_rfl) F.slot_tuple_eq F.slot_dict_eq_refl
      (fun _ q' => call_meets F.slot_tuple_eq ⟨_, hb, rfl⟩ F.entry_tuple_eq (F.args_tuple_eq_2 _ _) (tuple_d l b dt n n2 dd dd2 sl sl2 its) ⟨hb, ho, q'⟩)
      (fun _ q' => call_meets F.slot_dict_eq_refl ⟨_, ho, rfl⟩ F.entry_dict_eq (F.args_dict_eq_2 _ _) (d_seq l b dt n n2 dd dd2 sl sl2 its "tuple" (by rw [isSubtype_type]; kernel_rfl)) ⟨ho, hb, q'⟩)
      (fun _ q' => wpAny_isSame_ref_other' hne hb ho (by simp) q') (.inr hu) q
end
end PySem.MiDs
namespace L2
open PySem PySem.Spec PyProof.Rows
/-- a thing that is no dict -/
def NoDV (K : PySem.W.Frag) (H : Hp) (y : V) : Prop := y = .non ∨ (∃ b, y = .bl b) ∨ (∃ i, y = .int i) ∨ (∃ z, y = .str z) ∨ (∃ a xs, y = .ref a ∧ SqL K H a xs) ∨ ∃ a xs, y = .ref a ∧ SqT K H a xs
theorem nod_of {X : Cx} {pins : List (Addr × Obj)} {σ : L2.St} {H : Hp} {s : Shared} (I : Inv X pins σ H s) {y : V} {u : Value} (h : NoDV X.K H y) (r : RelV y u) : PySem.MiDs.NoD s u := by
  rcases h with rfl | ⟨b, rfl⟩ | ⟨i, rfl⟩ | ⟨z, rfl⟩ | ⟨a, xs, rfl, q⟩ | ⟨a, xs, rfl, q⟩
  · cases r; exact .none
  · cases r; exact .bool b
  · obtain ⟨t, rfl⟩ := r; exact .int i t
  · obtain ⟨t, rfl⟩ := r; exact .str z t
  · cases r
    obtain ⟨its, _, ⟨o, n, g1, g2, _, g4⟩, _⟩ := I.list q
    exact .list g1 g2 g4
  · cases r
    obtain ⟨its, _, ⟨o, g1, g2, n, g4⟩, _⟩ := I.tuple q
    exact .tuple g1 g2 g4
def rEqDX (K : PySem.W.Frag) : R2 := fun x y H Q => (∃ (a : Addr) (kvs : List (L2.Key × V)), H a = some (.dK kvs) ∧ ((x = .ref a ∧ NoDV K H y) ∨ (y = .ref a ∧ NoDV K H x))) ∧ Q (.bl false) H
theorem op_eqDX {X : Cx} (hu : X.A.units + 64 < cLine) : OpR X (compareOp .Eq) (rEqDX X.K) := by
  intro pins s σ H x y v u Q I rx ry h
  obtain ⟨⟨a, kvs, hx, h⟩, q⟩ := h
  obtain ⟨_, _, vs, _, hd⟩ : kvs.length ≤ sizeLine ∧ (a == sysModules) = false ∧ ∃ vs, KV kvs vs ∧ s.heap.DictOf (mixKind X.prog X.w) a vs := I.hok a _ hx
  obtain ⟨o, es, ep, g1, g2, g3, _⟩ := hd
  rcases h with ⟨rfl, n⟩ | ⟨rfl, n⟩
  · cases rx
    exact PySem.MiDs.eqDX g1 g2.1 g3 (nod_of I n ry) (by omega) ⟨.bl false, H, I, rfl, q⟩
  · cases ry
    exact PySem.MiDs.eqXD g1 g2.1 g3 (nod_of I n rx) (by omega) ⟨.bl false, H, I, rfl, q⟩
/-- two dicts of unlike length -/
def rEqDL : R2 := fun x y H Q => ∃ a b ks ls, x = .ref a ∧ y = .ref b ∧ H a = some (.dK ks) ∧ H b = some (.dK ls) ∧ ks.length ≠ ls.length ∧ Q (.bl false) H
theorem op_eqDL {X : Cx} (hu : X.A.units + 64 < cLine) : OpR X (compareOp .Eq) rEqDL := by
  intro pins s σ H x y v u Q I rx ry h
  obtain ⟨a, b, ks, ls, rfl, rfl, ea, eb, hlen, q⟩ := h
  obtain rfl : v = Value.ref a := rx
  obtain rfl : u = Value.ref b := ry
  obtain ⟨_, ya, va, ra, da⟩ := (show ObjOk X.prog X.w H s.heap a (.dK ks) from I.hok a _ ea)
  obtain ⟨_, yb, vb, rb, db⟩ := (show ObjOk X.prog X.w H s.heap b (.dK ls) from I.hok b _ eb)
  have hl : ¬ va.length = vb.length := by rw [← ra.length, ← rb.length]; exact hlen
  exact PySem.W.keq_eq (knd := mixKind X.prog X.w) (r := true) ya yb da db (by omega) (fun e => absurd e hl) ⟨.bl false, H, I, by rw [beq_eq_false_iff_ne.mpr hl]; rfl, q⟩
/-- two lists of unlike length -/
def rLL (b : Bool) : R2 := fun x y H Q => ∃ a c xs ys, x = .ref a ∧ y = .ref c ∧ H a = some (.lst xs) ∧ H c = some (.lst ys) ∧ xs.length ≠ ys.length ∧ Q (.bl b) H
theorem op_eqLL {X : Cx} (hu : X.A.units + 64 < cLine) : OpR X (compareOp .Eq) (rLL false) := by
  intro pins s σ H x y v u Q I rx ry h
  obtain ⟨a, c, xs, ys, rfl, rfl, ea, eb, hlen, q⟩ := h
  obtain rfl : v = Value.ref a := rx
  obtain rfl : u = Value.ref c := ry
  obtain ⟨us, r1, p1, _⟩ := I.list (.of ea)
  obtain ⟨ws, r2, p2, _⟩ := I.list (.of eb)
  have l1 := r1.length
  have l2 := r2.length
  exact SeqAt.eq_list_lengthsAt p1.isList p2.isList (by simp; omega) (by omega) ⟨.bl false, H, I, rfl, q⟩
theorem op_neLL {X : Cx} (hu : X.A.units + 64 < cLine) : OpR X (compareOp .NotEq) (rLL true) := by
  intro pins s σ H x y v u Q I rx ry h
  obtain ⟨a, c, xs, ys, rfl, rfl, ea, eb, hlen, q⟩ := h
  obtain rfl : v = Value.ref a := rx
  obtain rfl : u = Value.ref c := ry
  obtain ⟨us, r1, p1, _⟩ := I.list (.of ea)
  obtain ⟨ws, r2, p2, _⟩ := I.list (.of eb)
  have l1 := r1.length
  have l2 := r2.length
  exact SeqAt.RcNeAt.lists_lengths p1.isList p2.isList (by simp; omega) (by omega) _ _ _ _ ⟨.bl true, H, I, rfl, q⟩
end L2
end
section
set_option Elab.async false
set_option linter.all false
set_option autoImplicit false
set_option maxRecDepth 100000
set_option maxHeartbeats 4000000
namespace MI
open PySem L2
def lstAt (h : Hq) (n : Nat) : Option (List D) := match h[n]? with
  | some (.lst l) => some l
  | _ => none
theorem lstAt_some {h : Hq} {n : Nat} {l : List D} (e : lstAt h n = some l) : h[n]? = some (.lst l) := by
  unfold lstAt at e
  split at e
  · rename_i l' q; cases e; exact q
  · cases e
theorem HR.lst {K : PySem.W.Frag} {ι : List Addr} {h : Hq} {H : Hp} (R : HR K ι h H) {n : Nat} {a : Addr} {l : List D} (ha : ι[n]? = some a) (e : lstAt h n = some l) : ∃ vs, H a = some (.lst vs) ∧ VRs K ι H vs l :=
  R.cells n _ a (lstAt_some e) ha
def dAdd (x y : D) (h : Hq) : Rs D := match x, y with
  | .int i, .int j => .ok (.int (i + j)) h
  | .str a, .str b => if small (a.length + b.length) = true then .ok (.str (a ++ b)) h else .no
  | .tup a, .tup b => if small (a.length + b.length) = true then .ok (.tup (a ++ b)) h else .no
  | .ref m, .ref n => match lstAt h m, lstAt h n with
    | some a, some b => if small (a.length + b.length) = true then .ok (.ref h.length) (h ++ [.lst (a ++ b)]) else .no
    | _, _ => .no
  | _, _ => .no
def rAddA (K : PySem.W.Frag) : R2 := fun x y H Q => (∃ i j, x = .int i ∧ y = .int j ∧ Q (.int (i + j)) H) ∨ ((∃ i j, x = .str i ∧ y = .str j ∧ i.length + j.length ≤ sizeLine ∧ Q (.str (i ++ j)) H) ∨ (rCatA K x y H Q ∨ rCat x y H Q))
theorem nil_of {K : PySem.W.Frag} {ι : List Addr} {H : Hp} {vs : List V} {l : List D} (r : VRs K ι H vs l) : vs = [] ↔ l = [] := by
  cases r <;> simp
section
variable {K : PySem.W.Frag} {mg : Str → Option Value} {E : XK}
theorem s_add : OpS K mg E dAdd (rAddA K) := by
  intro ι h H x y v w Q R rx ry P
  unfold dAdd at P
  split at P
  · cases rx; cases ry
    exact .inl ⟨_, _, rfl, rfl, P ι H _ (Ext.refl _ _) R (.int _)⟩
  · split at P
    · rename_i a b hz
      cases rx; cases ry
      exact .inr (.inl ⟨_, _, rfl, rfl, small_le hz, P ι H _ (Ext.refl _ _) R (.str _)⟩)
    · exact P.elim
  · rename_i l m
    split at P
    · rename_i hz
      cases rx with
      | tup hx qx =>
        cases ry with
        | tup hy qy =>
          rename_i a vs b ws
          refine .inr (.inr (.inl ⟨a, b, vs, ws, rfl, rfl, hx.sq, hy.sq, ?_, fun e => ?_, fun _ e => ?_, fun _ _ p np => ?_⟩))
          · rw [qx.length, qy.length]; exact small_le hz
          · have : l = [] := (nil_of qx).mp e
            subst this
            exact P ι H _ (Ext.refl _ _) R (.tup hy qy)
          · have : m = [] := (nil_of qy).mp e
            subst this
            rw [List.append_nil] at P
            exact P ι H _ (Ext.refl _ _) R (.tup hx qx)
          · obtain ⟨e2, R2⟩ := R.tup np (vs ++ ws)
            exact P ι _ _ e2 R2 (.tup (.of upd_same) ((qx.append qy).ext e2))
    · exact P.elim
  · split at P
    · rename_i m n l1 l2 e1 e2
      split at P
      · rename_i hz
        cases rx with
        | ref hx =>
          cases ry with
          | ref hy =>
            rename_i a b
            obtain ⟨vs, c1, q1⟩ := R.lst hx e1
            obtain ⟨ws, c2, q2⟩ := R.lst hy e2
            refine .inr (.inr (.inr ⟨a, b, vs, ws, rfl, rfl, c1, c2, ?_, fun p np => ?_⟩))
            · rw [q1.length, q2.length]; exact small_le hz
            · obtain ⟨e3, R3⟩ := R.new np (o := .lst (vs ++ ws)) (c := .lst (l1 ++ l2)) fun ι' H' e q => ⟨_, q, (q1.append q2).ext e⟩
              exact P _ _ _ e3 R3 (.ref (ref_new R p))
      · exact P.elim
    · exact P.elim
  · exact P.elim
theorem o_add {X : Cx} : OpR X (binaryOp .Add) (rAddA X.K) := op_add.or (op_add_str.or (op_catA.or op_cat))
def dSub (x y : D) (h : Hq) : Rs D := match x, y with
  | .int i, .int j => .ok (.int (i - j)) h
  | _, _ => .no
def mulOk (i j : Int) : Bool := decide (i.natAbs.log2 + j.natAbs.log2 < 1000000)
def dMul (x y : D) (h : Hq) : Rs D := match x, y with
  | .int i, .int j => if mulOk i j = true then .ok (.int (i * j)) h else .no
  | .ref m, .int k => match lstAt h m with
    | some l => if 0 ≤ k ∧ k < 1000000 ∧ small (l.length * k.toNat) = true then .ok (.ref h.length) (h ++ [.lst (List.replicate k.toNat l).flatten]) else .no
    | none => .no
  | _, _ => .no
theorem VRs.rep {ι : List Addr} {H : Hp} {vs : List V} {l : List D} (r : VRs K ι H vs l) : ∀ n : Nat, VRs K ι H (List.replicate n vs).flatten (List.replicate n l).flatten
  | 0 => by simp only [List.replicate_zero, List.flatten_nil]; exact .nil
  | n + 1 => by simp only [List.replicate_succ, List.flatten_cons]; exact r.append (VRs.rep r n)
theorem s_mul : OpS K mg E dMul (fun x y H Q => rI CMulW (fun i j => .int (i * j)) x y H Q ∨ rRep x y H Q) := by
  intro ι h H x y v w Q R rx ry P
  unfold dMul at P
  split at P
  · split at P
    · rename_i i j hz
      cases rx; cases ry
      have hz' : CMulW i j := by unfold CMulW; exact of_decide_eq_true hz
      exact .inl ⟨_, _, rfl, rfl, hz', P ι H _ (Ext.refl _ _) R (.int _)⟩
    · exact P.elim
  · split at P
    · rename_i m k _ l e1
      split at P
      · rename_i hz
        cases rx with
        | ref hx =>
          cases ry
          rename_i a
          obtain ⟨vs, c1, q1⟩ := R.lst hx e1
          refine .inr ⟨a, k, vs, rfl, rfl, c1, by omega, by omega, ?_, fun p np => ?_⟩
          · rw [q1.length]; exact small_le hz.2.2
          · obtain ⟨e3, R3⟩ := R.new np (o := .lst (List.replicate k.toNat vs).flatten) (c := .lst (List.replicate k.toNat l).flatten) fun ι' H' e q => ⟨_, q, (q1.rep _).ext e⟩
            exact P _ _ _ e3 R3 (.ref (ref_new R p))
      · exact P.elim
    · exact P.elim
  · exact P.elim
theorem o_mul {X : Cx} : OpR X (binaryOp .Mult) (fun x y H Q => rI CMulW (fun i j => .int (i * j)) x y H Q ∨ rRep x y H Q) := op_mulW.or op_rep
def divOk (j : Int) : Bool := decide (0 < j) && decide (j.natAbs.log2 < 9000)
def dDiv (x y : D) (h : Hq) : Rs D := match x, y with
  | .int i, .int j => if divOk j = true then .ok (.int (i / j)) h else .no
  | _, _ => .no
theorem s_div : OpS K mg E dDiv (rI CDivW fun i j => .int (i / j)) := by
  intro ι h H x y v w Q R rx ry P
  unfold dDiv at P
  split at P
  · split at P
    · rename_i hz
      cases rx; cases ry
      have hz' := Bool.and_eq_true_iff.mp hz
      exact ⟨_, _, rfl, rfl, ⟨of_decide_eq_true hz'.1, of_decide_eq_true hz'.2⟩, P ι H _ (Ext.refl _ _) R (.int _)⟩
    · exact P.elim
  · exact P.elim
def dMod (x y : D) (h : Hq) : Rs D := match x, y with
  | .int i, .int j => if 0 < j then .ok (.int (i % j)) h else .no
  | _, _ => .no
theorem s_mod : OpS K mg E dMod (rI (fun _ j => 0 < j) fun i j => .int (i % j)) := by
  intro ι h H x y v w Q R rx ry P
  unfold dMod at P
  split at P
  · split at P
    · rename_i hz
      cases rx; cases ry
      exact ⟨_, _, rfl, rfl, hz, P ι H _ (Ext.refl _ _) R (.int _)⟩
    · exact P.elim
  · exact P.elim
def dPow (x y : D) (h : Hq) : Rs D := match x, y with
  | .int i, .int j => if 0 ≤ j ∧ j ≤ 1000 ∧ i.natAbs.log2 < 10000 then .ok (.int (i ^ j.toNat)) h else .no
  | _, _ => .no
def CPowL (i j : Int) : Prop := 0 ≤ j ∧ j ≤ 1000 ∧ i.natAbs.log2 < 10000
theorem o_pow {X : Cx} : OpR X (binaryOp .Pow) (rI CPowL fun i j => .int (i ^ j.toNat)) := opI fun i j _ _ _ _ _ hc q => PyProof.Rows.pow_int hc.1 (by
  obtain ⟨h0, h1, h2⟩ := hc
  have hb : Builtin.Int.intBits i ≤ 10000 := by
    unfold Builtin.Int.intBits
    split <;> omega
  have h3 : (Builtin.Int.intBits i : Int) * j ≤ 10000 * j := Int.mul_le_mul_of_nonneg_right (by omega) h0
  omega) q
theorem s_pow : OpS K mg E dPow (rI CPowL fun i j => .int (i ^ j.toNat)) := by
  intro ι h H x y v w Q R rx ry P
  unfold dPow at P
  split at P
  · split at P
    · rename_i hz
      cases rx; cases ry
      exact ⟨_, _, rfl, rfl, hz, P ι H _ (Ext.refl _ _) R (.int _)⟩
    · exact P.elim
  · exact P.elim
end
/-- one-place -/
def eUn (g : D → Hq → Rs D) (a : Sx) : Sx := fun fr h => (a fr h).bind g
def UnS (K : PySem.W.Frag) (mg : Str → Option Value) (E : XK) (g : D → Hq → Rs D) (r : V → Hp → VK → Prop) : Prop :=
  ∀ (ι : List Addr) (h : Hq) (H : Hp) (x : D) (v : V) (Q : VK), HR K ι h H → VR K ι H v x → PoV K mg ι H Q E (g x h) → r v H Q
section
variable {X : Cx} {E : XK} {a b c : Expr} {fa fb fc : Sx} {pos : Pos} {K : PySem.W.Frag} {mg : Str → Option Value}
theorem m_un {op : UnaryOp} {g : D → Hq → Rs D} {r : V → Hp → VK → Prop} (ho : UnR X (unaryOp op) r) (hs : UnS X.K X.mg E g r) (ha : PM X E a fa) : PM X E (.UnaryOp op a pos) (eUn g fa) := pe_imp (pe_un ho ha) fun σ H Q ⟨ι, h, fr, R, F, P⟩ => by
  refine ⟨ι, h, fr, R, F, Po.mono ?_ (Po.bind P)⟩
  rintro v H1 ⟨ι1, h1, x, e1, R1, r1, P1⟩
  exact hs ι1 h1 H1 x v Q R1 r1 P1
def dNeg (x : D) (h : Hq) : Rs D := match x with
  | .int i => .ok (.int (-i)) h
  | _ => .no
theorem s_neg : UnS K mg E dNeg (rU fun i => .int (-i)) := by
  intro ι h H x v Q R rx P
  unfold dNeg at P
  split at P
  · cases rx; exact ⟨_, rfl, P ι H _ (Ext.refl _ _) R (.int _)⟩
  · exact P.elim
theorem m_add (ha : PM X E a fa) (hb : PM X E b fb) : PM X E (.BinOp a .Add b pos) (eOp dAdd fa fb) := m_bin o_add s_add ha hb
theorem m_mul (ha : PM X E a fa) (hb : PM X E b fb) : PM X E (.BinOp a .Mult b pos) (eOp dMul fa fb) := m_bin o_mul s_mul ha hb
theorem m_fdiv (ha : PM X E a fa) (hb : PM X E b fb) : PM X E (.BinOp a .FloorDiv b pos) (eOp dDiv fa fb) := m_bin op_fdivW s_div ha hb
theorem m_mod (ha : PM X E a fa) (hb : PM X E b fb) : PM X E (.BinOp a .Mod b pos) (eOp dMod fa fb) := m_bin op_mod s_mod ha hb
theorem m_pow (ha : PM X E a fa) (hb : PM X E b fb) : PM X E (.BinOp a .Pow b pos) (eOp dPow fa fb) := m_bin o_pow s_pow ha hb
theorem m_neg (ha : PM X E a fa) : PM X E (.UnaryOp .USub a pos) (eUn dNeg fa) := m_un un_neg s_neg ha
def dRel (p : Int → Int → Bool) (x y : D) (h : Hq) : Rs D := match x, y with
  | .int i, .int j => .ok (.bl (p i j)) h
  | _, _ => .no
theorem s_rel (p : Int → Int → Bool) : OpS K mg E (dRel p) (rI0 fun i j => .bl (p i j)) := by
  intro ι h H x y v w Q R rx ry P
  unfold dRel at P
  split at P
  · cases rx; cases ry
    exact ⟨_, _, rfl, rfl, P ι H _ (Ext.refl _ _) R (.bl _)⟩
  · exact P.elim
abbrev dLt : D → D → Hq → Rs D := dRel fun i j => decide (i < j)
abbrev dLe : D → D → Hq → Rs D := dRel fun i j => decide (i ≤ j)
abbrev dGt : D → D → Hq → Rs D := dRel fun i j => decide (j < i)
abbrev dGe : D → D → Hq → Rs D := dRel fun i j => decide (j ≤ i)
theorem m_lt (ha : PM X E a fa) (hb : PM X E b fb) : PMb X E (.Compare a [.Lt] [b] pos) (bOf (eOp dLt fa fb)) := m_cmp op_lt (s_rel _) ha hb (nomark _)
theorem m_gt (ha : PM X E a fa) (hb : PM X E b fb) : PMb X E (.Compare a [.Gt] [b] pos) (bOf (eOp dGt fa fb)) := m_cmp op_gt (s_rel _) ha hb (nomark _)
theorem m_ltV (ha : PM X E a fa) (hb : PM X E b fb) : PM X E (.Compare a [.Lt] [b] pos) (eOp dLt fa fb) := m_cmpV op_lt (s_rel _) ha hb (nomark _)
theorem m_gtV (ha : PM X E a fa) (hb : PM X E b fb) : PM X E (.Compare a [.Gt] [b] pos) (eOp dGt fa fb) := m_cmpV op_gt (s_rel _) ha hb (nomark _)
theorem m_geV (ha : PM X E a fa) (hb : PM X E b fb) : PM X E (.Compare a [.GtE] [b] pos) (eOp dGe fa fb) := m_cmpV op_ge (s_rel _) ha hb (nomark _)
/-- a chain a op b op' c of ints -/
def eChain (p q : Int → Int → Bool) (fa fb fc : Sx) : Sx := fun fr h => (fa fr h).bind fun x h1 => (fb fr h1).bind fun y h2 => match x, y with
  | .int i, .int j => if p i j = true then (fc fr h2).bind fun z h3 => dRel q (.int j) z h3 else .ok (.bl false) h2
  | _, _ => .no
def dIsN (neg : Bool) (x y : D) (h : Hq) : Rs D := match x, y with
  | .opq, _ => .no
  | .adr _, _ => .no
  | .ty _, _ => .no
  | .non, .non => .ok (.bl (!neg)) h
  | _, .non => .ok (.bl neg) h
  | .bl a, .bl b => .ok (.bl ((a == b) != neg)) h
  | _, .bl _ => .ok (.bl neg) h
  | _, _ => .no
def opts {α β : Type} (f : α → Option β) : List α → Option (List β)
  | [] => some []
  | d :: l => match f d, opts f l with
    | some p, some q => some (p :: q)
    | _, _ => none
def toPy (h : Hq) : Nat → D → Option PyData
  | 0, _ => none
  | _ + 1, .non => some .none
  | _ + 1, .bl b => some (.bool b)
  | _ + 1, .int i => some (.int i)
  | _ + 1, .str x => some (.str x)
  | n + 1, .tup l => (opts (toPy h n) l).map .tuple
  | n + 1, .ref m => match lstAt h m with
    | some l => (opts (toPy h n) l).map .list
    | none => none
  | _ + 1, .scr l => some (.list (l.map .int))
  | _ + 1, .opq => none
  | _ + 1, .adr _ => none
  | _ + 1, .ty _ => none
theorem dp_ints {H : Hp} : ∀ l : List Int, DpAll K H (l.map V.int) (l.map PyData.int)
  | [] => .nil
  | i :: l => .cons (.int i) (dp_ints l)
theorem dp_all {ι : List Addr} {H : Hp} {f : D → Option PyData} (hf : ∀ d p v, f d = some p → VR K ι H v d → Dp K H v p) : ∀ {l : List D} {ps : List PyData} {vs : List V}, opts f l = some ps → VRs K ι H vs l → DpAll K H vs ps
  | [], ps, vs, e, r => by
    cases r
    cases e
    exact .nil
  | d :: l, ps, vs, e, r => by
    unfold opts at e
    split at e
    · rename_i p q h1 h2
      cases e
      cases r with
      | cons r1 r2 => exact .cons (hf _ _ _ h1 r1) (dp_all hf h2 r2)
    · cases e
theorem dp_of {ι : List Addr} {h : Hq} {H : Hp} (R : HR K ι h H) : ∀ (n : Nat) (d : D) (p : PyData) (v : V), toPy h n d = some p → VR K ι H v d → Dp K H v p
  | 0, _, _, _, e, _ => by cases e
  | n + 1, d, p, v, e, r => by
    cases r with
    | non => cases e; exact .non
    | bl b => cases e; exact .bl b
    | int i => cases e; exact .int i
    | str x => cases e; exact .str x
    | tup hx q =>
      rename_i a vs l
      have e' : (opts (toPy h n) l).map PyData.tuple = some p := e
      obtain ⟨ps, h1, h2⟩ := Option.map_eq_some_iff.mp e'
      subst h2
      exact .tup hx.sq (dp_all (fun d p v => dp_of R n d p v) h1 q)
    | ref hx =>
      rename_i a m
      have e' : (match lstAt h m with | some l => (opts (toPy h n) l).map PyData.list | none => none) = some p := e
      split at e'
      · rename_i l hl
        obtain ⟨ps, h1, h2⟩ := Option.map_eq_some_iff.mp e'
        subst h2
        obtain ⟨vs, c1, q1⟩ := R.lst hx hl
        exact .lst (.of c1) (dp_all (fun d p v => dp_of R n d p v) h1 q1)
      · cases e'
    | scr hx =>
      cases e
      exact .lst hx.sq (dp_ints _)
    | opq v => cases e
    | adr a => cases e
    | ty n => cases e
def eqQ (neg : Bool) (x y : D) (h : Hq) : Option Bool := match x, y with
  | .str a, .str b => some (decide (a = b) != neg)
  | .ref m, .str _ => match h[m]? with
    | some (.dct _) => if neg = true then none else some false
    | _ => none
  | _, _ => none
/-- dicts, beside one another and beside what is none -/
def dctOf (h : Hq) : D → Option (List (L2.Key × D))
  | .ref m => match h[m]? with
    | some (.dct l) => some l
    | _ => none
  | _ => none
def plainK (h : Hq) : D → Bool
  | .non => true
  | .bl _ => true
  | .int _ => true
  | .str _ => true
  | .tup _ => true
  | .scr _ => true
  | .ref m => (lstAt h m).isSome
  | _ => false
def valD (l : List (L2.Key × D)) (k : L2.Key) : Option D := (l.find? fun kv => decide (kv.1 = k)).map (·.2)
def sameI : Option D → D → Bool
  | some (.int i), .int j => decide (i = j)
  | _, _ => false
def dctEq (ks ls : List (L2.Key × D)) : Option Bool := if ks.length = ls.length then (if ks.all (fun p => sameI (valD ls p.1) p.2) = true then some true else none) else some false
def lenX (h : Hq) : D → D → Bool
  | .ref m, .ref k => match lstAt h m, lstAt h k with
    | some a, some b => !decide (a.length = b.length)
    | _, _ => false
  | _, _ => false
def eqX (neg : Bool) (x y : D) (h : Hq) : Option Bool := if lenX h x y = true then some neg else if neg = true then none else match dctOf h x, dctOf h y with
  | some ks, some ls => dctEq ks ls
  | some _, none => if plainK h y = true then some false else none
  | none, some _ => if plainK h x = true then some false else none
  | none, none => none
def eqO (o : Option Bool) (h : Hq) : Rs D := match o with
  | some b => .ok (.bl b) h
  | none => .no
def dEqP (neg : Bool) (x y : D) (h : Hq) : Rs D := match toPy h 60 x, toPy h 60 y with
  | some p, some q => if SeqAt.shaped p = true ∧ SeqAt.shaped q = true then .ok (.bl (PyData.eqv p q != neg)) h else eqO (eqX neg x y h) h
  | _, _ => eqO (eqX neg x y h) h
theorem eqO_in {ι : List Addr} {h : Hq} {H : Hp} {o : Option Bool} {Q : VK} (R : HR K ι h H) (P : PoV K mg ι H Q E (eqO o h)) : ∃ b, o = some b ∧ Q (.bl b) H := by
  cases o with
  | some b => exact ⟨b, rfl, P ι H _ (Ext.refl _ _) R (.bl _)⟩
  | none => exact P.elim
def dEqs (neg : Bool) (x y : D) (h : Hq) : Rs D := match eqQ neg x y h with
  | some b => .ok (.bl b) h
  | none => dEqP neg x y h
theorem dec_str {a b : Str} : decide (V.str a = V.str b) = decide (a = b) := by
  rw [Bool.eq_iff_iff]
  simp
theorem eqQ_in {ι : List Addr} {h : Hq} {H : Hp} {neg b : Bool} {x y : D} {v w : V} (R : HR K ι h H) (rx : VR K ι H v x) (ry : VR K ι H w y) (e : eqQ neg x y h = some b) :
    (∃ p q, v = .str p ∧ w = .str q ∧ b = (decide (p = q) != neg)) ∨ (neg = false ∧ b = false ∧ ∃ a kvs z, v = .ref a ∧ w = .str z ∧ H a = some (.dK kvs)) := by
  unfold eqQ at e
  split at e
  · cases rx; cases ry; cases e
    exact .inl ⟨_, _, rfl, rfl, rfl⟩
  · split at e
    · rename_i l hl
      split at e
      · cases e
      · rename_i hn
        cases e
        cases rx with
        | ref hx =>
          cases ry
          obtain ⟨kvs, c1, _⟩ := R.cells _ _ _ hl hx
          exact .inr ⟨by simpa using hn, rfl, _, kvs, _, rfl, rfl, c1⟩
    · cases e
  · cases e
theorem dctOf_in {ι : List Addr} {h : Hq} {H : Hp} (R : HR K ι h H) {x : D} {v : V} (rx : VR K ι H v x) {l : List (L2.Key × D)} (e : dctOf h x = some l) : ∃ a kvs, v = .ref a ∧ H a = some (.dK kvs) ∧ kvs.map (·.1) = l.map (·.1) ∧ VRs K ι H (kvs.map (·.2)) (l.map (·.2)) := by
  unfold dctOf at e
  split at e
  · split at e
    · rename_i hl
      cases e
      cases rx with
      | ref hx =>
        obtain ⟨kvs, c1, k1, q1⟩ := R.cells _ _ _ hl hx
        exact ⟨_, kvs, rfl, c1, k1, q1⟩
    · cases e
  · cases e
theorem plainK_in {ι : List Addr} {h : Hq} {H : Hp} (R : HR K ι h H) {x : D} {v : V} (rx : VR K ι H v x) (e : plainK h x = true) : NoDV K H v := by
  cases rx with
  | non => exact .inl rfl
  | bl b => exact .inr (.inl ⟨_, rfl⟩)
  | int i => exact .inr (.inr (.inl ⟨_, rfl⟩))
  | str z => exact .inr (.inr (.inr (.inl ⟨_, rfl⟩)))
  | tup hx q => exact .inr (.inr (.inr (.inr (.inr ⟨_, _, rfl, hx.sq⟩))))
  | scr hx => exact .inr (.inr (.inr (.inr (.inl ⟨_, _, rfl, hx.sq⟩))))
  | ref hx =>
    rename_i a m
    cases hl : lstAt h m with
    | none =>
      have e' : (lstAt h m).isSome = true := e
      rw [hl] at e'; cases e'
    | some l =>
      obtain ⟨vs, c1, _⟩ := R.lst hx hl
      exact .inr (.inr (.inr (.inr (.inl ⟨_, _, rfl, .of c1⟩))))
  | opq v => cases e
  | adr a => cases e
  | ty n => cases e
theorem valD_in {ι : List Addr} {H : Hp} : ∀ {kvs : List (L2.Key × V)} {l : List (L2.Key × D)} {k : L2.Key} {d : D}, kvs.map (·.1) = l.map (·.1) → VRs K ι H (kvs.map (·.2)) (l.map (·.2)) → valD l k = some d → ∃ v, valV kvs k = some v ∧ VR K ι H v d
  | [], [], _, _, _, _, e => by cases e
  | [], _ :: _, _, _, hk, _, _ => by cases hk
  | _ :: _, [], _, _, hk, _, _ => by cases hk
  | p :: kvs, q :: l, k, d, hk, r, e => by
    have h1 : p.1 = q.1 := (List.cons.inj hk).1
    cases r with
    | cons r1 r2 =>
      by_cases c : q.1 = k
      · rw [show valD (q :: l) k = some q.2 from by simp [valD, List.find?_cons, c]] at e
        cases e
        exact ⟨_, valV_pos (h1.trans c), r1⟩
      · rw [show valD (q :: l) k = valD l k from by simp [valD, List.find?_cons, c]] at e
        rw [valV_neg (fun z => c (h1.symm.trans z))]
        exact valD_in (List.cons.inj hk).2 r2 e
theorem dctEq_in {ι : List Addr} {H : Hp} {lvs : List (L2.Key × V)} {ls : List (L2.Key × D)} (k2 : lvs.map (·.1) = ls.map (·.1)) (q2 : VRs K ι H (lvs.map (·.2)) (ls.map (·.2))) :
    ∀ {kvs : List (L2.Key × V)} {ks : List (L2.Key × D)}, kvs.map (·.1) = ks.map (·.1) → VRs K ι H (kvs.map (·.2)) (ks.map (·.2)) → ks.all (fun p => sameI (valD ls p.1) p.2) = true → ∀ p ∈ kvs, valV lvs p.1 = some p.2 ∧ flatB p.2 = true
  | [], [], _, _, _, p, hp => by cases hp
  | [], _ :: _, hk, _, _, _, _ => by cases hk
  | _ :: _, [], hk, _, _, _, _ => by cases hk
  | p :: kvs, q :: ks, hk, r, e, z, hz => by
    rw [List.all_cons, Bool.and_eq_true] at e
    have h1 : p.1 = q.1 := (List.cons.inj hk).1
    cases r with
    | cons r1 r2 =>
      rcases List.mem_cons.mp hz with rfl | hz
      · have e1 := e.1
        unfold sameI at e1
        split at e1
        · rename_i i j hv hj
          obtain ⟨v, f1, f2⟩ := valD_in k2 q2 hv
          have r1 : VR K ι H z.2 q.2 := r1
          rw [hj] at r1
          rw [h1, f1]
          cases f2
          have hij : i = j := of_decide_eq_true e1
          subst hij
          have e4 : ∀ {v : V} {j : Int}, VR K ι H v (.int j) → v = .int j := fun r => by cases r; rfl
          have e3 : z.2 = V.int i := e4 r1
          rw [e3]
          exact ⟨rfl, rfl⟩
        · cases e1
      · exact dctEq_in k2 q2 (List.cons.inj hk).2 r2 e.2 z hz
theorem lenX_in {ι : List Addr} {h : Hq} {H : Hp} {x y : D} {v w : V} (R : HR K ι h H) (rx : VR K ι H v x) (ry : VR K ι H w y) (e : lenX h x y = true) : ∃ a c xs ys, v = .ref a ∧ w = .ref c ∧ H a = some (.lst xs) ∧ H c = some (.lst ys) ∧ xs.length ≠ ys.length := by
  unfold lenX at e
  split at e
  · split at e
    · rename_i m k _ _ l1 l2 e1 e2
      cases rx with
      | ref hx =>
        cases ry with
        | ref hy =>
          obtain ⟨vs, c1, q1⟩ := R.lst hx e1
          obtain ⟨ws, c2, q2⟩ := R.lst hy e2
          have n1 := q1.length
          have n2 := q2.length
          exact ⟨_, _, vs, ws, rfl, rfl, c1, c2, by simp at e; omega⟩
    · cases e
  · cases e
theorem eqX_in {ι : List Addr} {h : Hq} {H : Hp} {neg b : Bool} {x y : D} {v w : V} (R : HR K ι h H) (rx : VR K ι H v x) (ry : VR K ι H w y) (e : eqX neg x y h = some b) :
    (b = neg ∧ ∀ Q : VK, Q (.bl neg) H → rLL neg v w H Q) ∨ (neg = false ∧ ∀ Q : VK, Q (.bl b) H → rEqDX K v w H Q ∨ (rEqDL v w H Q ∨ rEqDA v w H Q)) := by
  unfold eqX at e
  split at e
  · rename_i hl
    cases e
    obtain ⟨a, c, xs, ys, h1, h2, h3, h4, h5⟩ := lenX_in R rx ry hl
    exact .inl ⟨rfl, fun Q q => ⟨a, c, xs, ys, h1, h2, h3, h4, h5, q⟩⟩
  split at e
  · cases e
  · rename_i hn
    refine .inr ⟨by simpa using hn, fun Q q => ?_⟩
    split at e
    · rename_i ks ls hx hy
      obtain ⟨a, kvs, rfl, c1, k1, q1⟩ := dctOf_in R rx hx
      obtain ⟨a2, lvs, rfl, c2, k2, q2⟩ := dctOf_in R ry hy
      have l1 := congrArg List.length k1
      have l2 := congrArg List.length k2
      simp only [List.length_map] at l1 l2
      unfold dctEq at e
      split at e
      · rename_i hl
        split at e
        · rename_i ha
          cases e
          exact .inr (.inr ⟨a, a2, kvs, lvs, rfl, rfl, c1, c2, by omega, dctEq_in k2 q2 k1 q1 ha, q⟩)
        · cases e
      · rename_i hl
        cases e
        exact .inr (.inl ⟨a, a2, kvs, lvs, rfl, rfl, c1, c2, by omega, q⟩)
    · rename_i hx hy
      split at e
      · rename_i hp
        cases e
        obtain ⟨a, kvs, rfl, c1, _⟩ := dctOf_in R rx hx
        exact .inl ⟨⟨a, kvs, c1, .inl ⟨rfl, plainK_in R ry hp⟩⟩, q⟩
      · cases e
    · rename_i hx hy
      split at e
      · rename_i hp
        cases e
        obtain ⟨a, kvs, rfl, c1, _⟩ := dctOf_in R ry hy
        exact .inl ⟨⟨a, kvs, c1, .inr ⟨rfl, plainK_in R rx hp⟩⟩, q⟩
      · cases e
    · cases e
theorem s_eq : OpS K mg E (dEqs false) (fun x y H Q => rEq x y H Q ∨ (rEqDS x y H Q ∨ (rEqD K x y H Q ∨ (rLL false x y H Q ∨ (rEqDX K x y H Q ∨ (rEqDL x y H Q ∨ rEqDA x y H Q)))))) := by
  intro ι h H x y v w Q R rx ry P
  have fx : PoV K mg ι H Q E (eqO (eqX false x y h) h) → rEq v w H Q ∨ (rEqDS v w H Q ∨ (rEqD K v w H Q ∨ (rLL false v w H Q ∨ (rEqDX K v w H Q ∨ (rEqDL v w H Q ∨ rEqDA v w H Q))))) := fun P => by
    obtain ⟨b, e, Pq⟩ := eqO_in R P
    rcases eqX_in R rx ry e with ⟨rfl, f⟩ | ⟨_, f⟩
    · exact .inr (.inr (.inr (.inl (f Q Pq))))
    · exact .inr (.inr (.inr (.inr (f Q Pq))))
  unfold dEqs at P
  split at P
  · rename_i b e
    have := P ι H _ (Ext.refl _ _) R (.bl _)
    rcases eqQ_in R rx ry e with ⟨p, q, rfl, rfl, rfl⟩ | ⟨_, rfl, a, kvs, z, rfl, rfl, hx⟩
    · refine .inl ⟨rfl, ?_⟩
      rw [dec_str]
      rw [Bool.bne_false] at this
      exact this
    · exact .inr (.inl ⟨a, kvs, z, rfl, rfl, hx, this⟩)
  · unfold dEqP at P
    split at P
    · rename_i p q e1 e2
      split at P
      · rename_i hs
        have := P ι H _ (Ext.refl _ _) R (.bl _)
        rw [Bool.bne_false] at this
        exact .inr (.inr (.inl ⟨p, q, dp_of R 60 x p v e1 rx, dp_of R 60 y q w e2 ry, hs.1, hs.2, this⟩))
      · exact fx P
    · exact fx P
theorem s_ne : OpS K mg E (dEqs true) (fun x y H Q => rNe x y H Q ∨ (rNeD K x y H Q ∨ rLL true x y H Q)) := by
  intro ι h H x y v w Q R rx ry P
  have fx : PoV K mg ι H Q E (eqO (eqX true x y h) h) → rNe v w H Q ∨ (rNeD K v w H Q ∨ rLL true v w H Q) := fun P => by
    obtain ⟨b, e, Pq⟩ := eqO_in R P
    rcases eqX_in R rx ry e with ⟨rfl, f⟩ | ⟨hn, _⟩
    · exact .inr (.inr (f Q Pq))
    · cases hn
  unfold dEqs at P
  split at P
  · rename_i b e
    have := P ι H _ (Ext.refl _ _) R (.bl _)
    rcases eqQ_in R rx ry e with ⟨p, q, rfl, rfl, rfl⟩ | ⟨hn, _⟩
    · refine .inl ⟨rfl, ?_⟩
      rw [dec_str]
      rw [Bool.bne_true] at this
      exact this
    · cases hn
  · unfold dEqP at P
    split at P
    · rename_i p q e1 e2
      split at P
      · rename_i hs
        have := P ι H _ (Ext.refl _ _) R (.bl _)
        rw [Bool.bne_true] at this
        exact .inr (.inl ⟨p, q, dp_of R 60 x p v e1 rx, dp_of R 60 y q w e2 ry, hs.1, hs.2, this⟩)
      · exact fx P
    · exact fx P
theorem m_ne (hu : X.A.units + 64 < cLine) (ha : PM X E a fa) (hb : PM X E b fb) : PMb X E (.Compare a [.NotEq] [b] pos) (bOf (eOp (dEqs true) fa fb)) := m_cmp (op_ne.or ((op_neD hu).or (op_neLL hu))) s_ne ha hb (nomark _)
theorem m_eqV (hu : X.A.units + 64 < cLine) (ha : PM X E a fa) (hb : PM X E b fb) : PM X E (.Compare a [.Eq] [b] pos) (eOp (dEqs false) fa fb) := m_cmpV (op_eq.or ((op_eqDS hu).or ((op_eqD hu).or ((op_eqLL hu).or ((op_eqDX hu).or ((op_eqDL hu).or (op_eq_dictA (by omega)))))))) s_eq ha hb (nomark _)
def dIx (x y : D) (h : Hq) : Rs D := match x, y with
  | .tup l, .int i => match atI l i with
    | some d => .ok d h
    | none => .no
  | .ref m, .int i => match lstAt h m with
    | some l => match atI l i with
      | some d => .ok d h
      | none => .no
    | none => .no
  | .scr l, .int i => match atI l i with
    | some k => .ok (.int k) h
    | none => .no
  | _, _ => .no
theorem atI_at {α β : Type} {xs : List α} {ys : List β} (hl : xs.length = ys.length) {i : Int} {y : β} (h : atI ys i = some y) : ∃ j : Nat, ys[j]? = some y ∧ ∀ x, xs[j]? = some x → atI xs i = some x := by
  unfold atI at h ⊢
  rw [hl]
  cases e : ixN ys.length i with
  | none => rw [e] at h; cases h
  | some j => rw [e] at h; exact ⟨j, h, fun x hx => hx⟩
theorem s_ix : OpS K mg E dIx (fun x y H Q => rIxL K x y H Q ∨ rIxT K x y H Q) := by
  intro ι h H x y v w Q R rx ry P
  unfold dIx at P
  split at P
  · split at P
    · rename_i l i _ d e
      cases rx with
      | tup hx q =>
        cases ry
        rename_i a vs
        obtain ⟨j, h1, h2⟩ := atI_at q.length e
        obtain ⟨u, g1, g2⟩ := q.get h1
        exact .inr ⟨a, vs, i, u, rfl, rfl, hx.sq, h2 u g1, P ι H u (Ext.refl _ _) R g2⟩
    · exact P.elim
  · split at P
    · split at P
      · rename_i m i _ l hl _ d e
        cases rx with
        | ref hx =>
          cases ry
          rename_i a
          obtain ⟨vs, c1, q⟩ := R.lst hx hl
          obtain ⟨j, h1, h2⟩ := atI_at q.length e
          obtain ⟨u, g1, g2⟩ := q.get h1
          exact .inl ⟨a, vs, i, u, rfl, rfl, .of c1, h2 u g1, P ι H u (Ext.refl _ _) R g2⟩
      · exact P.elim
    · exact P.elim
  · split at P
    · rename_i l i _ k e
      cases rx with
      | scr hx =>
        cases ry
        rename_i a
        obtain ⟨j, h1, h2⟩ := atI_at (xs := l.map V.int) (by simp) e
        exact .inl ⟨a, _, i, .int k, rfl, rfl, hx.sq, h2 _ (by rw [List.getElem?_map, h1]; rfl), P ι H _ (Ext.refl _ _) R (.int k)⟩
    · exact P.elim
  · exact P.elim
theorem m_ix (ha : PM X E a fa) (hb : PM X E b fb) (hs : PlainIx b := by exact fun _ _ => rfl) : PM X E (.Subscript a b pos) (eOp dIx fa fb) := pe_imp (pe_ix (ix_list.or ix_tup) ha hb hs) fun _ _ _ q => op_in s_ix q
end
/-- the parts of a slice -/
abbrev So := Fr → Hq → Rs (Option Int)
def oNone : So := fun _ h => .ok none h
def oSome (f : Sx) : So := fun fr h => (f fr h).bind fun x h1 => match x with
  | .int i => .ok (some i) h1
  | _ => .no
def cutD (xs : List D) (lo hi : Option Int) : List D := (xs.drop (HT.sIx xs.length 0 lo)).take (HT.sIx xs.length xs.length hi - HT.sIx xs.length 0 lo)
def dCut (x : D) (lo hi : Option Int) (h : Hq) : Rs D := match x with
  | .tup l => .ok (.tup (cutD l lo hi)) h
  | .ref m => match lstAt h m with
    | some l => .ok (.ref h.length) (h ++ [.lst (cutD l lo hi)])
    | none => .no
  | _ => .no
def eCut (f : Sx) (lo hi : So) : Sx := fun fr h => (f fr h).bind fun x h1 => (lo fr h1).bind fun l h2 => (hi fr h2).bind fun u h3 => dCut x l u h3
end MI
end
section
set_option Elab.async false
set_option linter.all false
set_option autoImplicit false
set_option maxRecDepth 100000
set_option maxHeartbeats 4000000
namespace MI
open PySem L2
/-- the def at f, called (below the guards' line) with plain things, is worth what sem tells -/
structure FnG (P : Program) (w : World) (K : PySem.W.Frag) (mg : Str → Option Value) (base : Heap) (k : Nat) (f : Addr) (fd : FuncData) (ps : List Str) (sem : Sf) : Prop where
  go : ∀ (A : Around) (outer : List Env) (s : Shared) (H : Hp) (args : Args) (us : List Value) (vs : List V) (ds : List D) (ι : List Addr) (h : Hq) (Q : VK) (E : XK),
    Room k A → A.guards = some [] → Env0 P w K mg base A outer s H → BindsTo s fd args (ps.zip us) → Vals vs us → HR K ι h H → VRs K ι H vs ds → ds.length = ps.length →
    PoV K mg ι H Q E (sem ds h) → codeAny (model P w) A (.call (.ref f) args) (L2.CR (L2.CX P w) outer P w H s Q E) s
theorem FnG.mono {P : Program} {w : World} {K : PySem.W.Frag} {mg : Str → Option Value} {base : Heap} {j k : Nat} {f : Addr} {fd : FuncData} {ps : List Str} {sem : Sf} (F : FnG P w K mg base j f fd ps sem) (hjk : j ≤ k) : FnG P w K mg base k f fd ps sem :=
  ⟨fun A outer s H args us vs ds ι h Q E hr => F.go A outer s H args us vs ds ι h Q E (hr.mono hjk)⟩
/-- where a def's body stands: what is raised is taken as E tells, the guards' line is free -/
structure Wh (X : Cx) (E : XK) : Prop where
  tk : Takes X (fun cls d _ H => E cls d H)
  po : PassesOwn (model X.prog X.w) X.A X.env X.xe
  gd : X.A.guards = some []
  calm : X.calm = true
  nd : X.N.Nodup
def eCall (n : Nat) (sem : Sf) (f : Sa) : Sx := fun fr h => (f fr h).bind fun ds h1 => if ds.length = n then sem ds h1 else .no
section
variable {X : Cx} {E : XK} {k : Nat} {f : Addr} {fd : FuncData} {ps : List Str} {sem : Sf} {x : Str} {p pos : Pos} {a : Expr} {as : List Expr} {fs : Sa}
theorem runG {pins : List (Addr × Obj)} {σ : L2.St} {H : Hp} {s : Shared} {Q : VK} {us : List Value} {vs : List V} {ds : List D} {ι : List Addr} {h : Hq} {args : Args} {us' : List Value} {vs' : List V} (F : FnG X.prog X.w X.K X.mg X.base k f fd ps sem) (wh : Wh X E) (hr : Room k X.A)
    (I : Inv X pins σ H s) (hb : BindsTo s fd args (ps.zip us')) (rv : Vals vs' us') (R : HR X.K ι h H) (r : VRs X.K ι H vs' ds) (hl : ds.length = ps.length) (P : PoV X.K X.mg ι H Q E (sem ds h)) :
    codeAny (model X.prog X.w) X.A (.call (.ref f) args) (fun r s' => match r with
      | .ok (.ret u) => EP X pins σ Q u s'
      | .ok _ => False
      | .error e => X.xe e s') s := by
  refine codeAny_mono (F.go X.A X.stack s H args us' vs' ds ι h Q E hr wh.gd I.env0 hb rv R r hl P) fun z s' q => ?_
  cases z with
  | error e => exact wh.tk e s' (XE.of_call (W := fun cls d _ H => E cls d H) I (fun _ _ _ z => z) q)
  | ok fl =>
    cases fl with
    | ret u => exact I.after q
    | next => exact q.elim
    | brk => exact q.elim
    | cont => exact q.elim
/-- f(e, ..): the written arguments, then the defaults -/
theorem m_callD {dds : List D} {dvs : List V} {dus : List Value} (F : FnG X.prog X.w X.K X.mg X.base k f fd ps sem) (wh : Wh X E) (hr : Room k X.A) (hm : X.mg x = some (.ref f)) (hk : PySem.W.keepIn X.K (.ref f) = true) (hb : Binds X.K fd ps dus)
    (hd : Vals dvs dus) (hdd : ∀ ι H, VRs X.K ι H dvs dds) (ha : PMa X E (a :: as) fs) (hg : Gl X x := by rfl) (hdb : (x == ("__debug__" : Str)) = false := by decide)
    (he : starEach (a :: as) X.env = (false, eval a X.env) :: starEach as X.env := by rfl) (hpl : (backTo pos (starEach as X.env)).any (·.1) = false := by rfl) :
    PM X E (.Call (.Name x p) (a :: as) [] pos) (eCall ps.length (fun ds => sem ds) (fun fr h => (fs fr h).bind fun ds h1 => .ok (ds ++ dds) h1)) := by
  constructor
  intro pins s σ H Q I q
  obtain ⟨ι, h, fr, R, F', P⟩ := q
  have P' : PoV X.K X.mg ι H Q E ((fs fr h).bind fun ds h1 => if (ds ++ dds).length = ps.length then sem (ds ++ dds) h1 else .no) := by
    have e : eCall ps.length (fun ds => sem ds) (fun fr h => (fs fr h).bind fun ds h1 => .ok (ds ++ dds) h1) fr h = (fs fr h).bind fun ds h1 => if (ds ++ dds).length = ps.length then sem (ds ++ dds) h1 else .no := by
      show ((fs fr h).bind fun ds h1 => Rs.ok (ds ++ dds) h1).bind _ = _
      cases fs fr h <;> rfl
    rw [← e]; exact P
  refine wpAny_Call_Name_kw (ld_glob I hg hm ?_ hdb)
  refine PySem.W.callWith_K (h₀ := X.base) I.ok.mod.kin hk (thn (ha.run pos pins s σ H _ I ⟨ι, h, fr, R, F', Po.bind P'⟩) ?_) he hpl
  rintro us s1 ⟨vs, H1, I1, rv, ι1, h1, ds, e1, R1, r1, P1⟩
  refine ⟨I1.kIn, ?_⟩
  split at P1
  · rename_i hl
    have rr : VRs X.K ι1 H1 (vs ++ dvs) (ds ++ dds) := r1.append (hdd ι1 H1)
    have ru : Vals (vs ++ dvs) (us ++ dus) := rv.append hd
    refine wpAny_call (codeAny_mono (runG (us := us) (vs := vs) F wh hr I1 (hb s1 us I1.kIn (by rw [← ru.length, rr.length]; exact hl)) ru R1 rr hl P1) ?_)
    intro z s' q
    cases z with
    | error e => exact q
    | ok fl =>
      cases fl with
      | ret u => exact q
      | next => exact q.elim
      | brk => exact q.elim
      | cont => exact q.elim
  · exact P1.elim
theorem m_call (F : FnG X.prog X.w X.K X.mg X.base k f fd ps sem) (wh : Wh X E) (hr : Room k X.A) (hm : X.mg x = some (.ref f)) (hk : PySem.W.keepIn X.K (.ref f) = true) (hb : Binds X.K fd ps [])
    (ha : PMa X E (a :: as) fs) (hg : Gl X x := by rfl) (hdb : (x == ("__debug__" : Str)) = false := by decide)
    (he : starEach (a :: as) X.env = (false, eval a X.env) :: starEach as X.env := by rfl) (hpl : (backTo pos (starEach as X.env)).any (·.1) = false := by rfl) :
    PM X E (.Call (.Name x p) (a :: as) [] pos) (eCall ps.length sem fs) := by
  have q := m_callD (dds := []) (dvs := []) F wh hr hm hk hb .nil (fun _ _ => .nil) ha hg hdb he hpl (p := p) (pos := pos)
  have e : (eCall ps.length (fun ds => sem ds) (fun fr h => (fs fr h).bind fun ds h1 => .ok (ds ++ []) h1)) = eCall ps.length sem fs := by
    funext fr h
    show ((fs fr h).bind fun ds h1 => Rs.ok (ds ++ []) h1).bind _ = (fs fr h).bind _
    cases fs fr h with
    | ok ds h1 => simp only [Rs.bind_ok, List.append_nil]
    | exc x h1 => rfl
    | no => rfl
  rw [e] at q
  exact q
end
def CaS (K : PySem.W.Frag) (mg : Str → Option Value) (E : XK) (g : List D → Hq → Rs D) (r : List V → Hp → VK → Prop) : Prop :=
  ∀ (ι : List Addr) (h : Hq) (H : Hp) (ds : List D) (vs : List V) (Q : VK), HR K ι h H → VRs K ι H vs ds → PoV K mg ι H Q E (g ds h) → r vs H Q
def eBi (g : List D → Hq → Rs D) (f : Sa) : Sx := fun fr h => (f fr h).bind g
theorem bi_in {K : PySem.W.Frag} {mg : Str → Option Value} {E : XK} {g : List D → Hq → Rs D} {r : List V → Hp → VK → Prop} (hs : CaS K mg E g r) {f : Sa} {σ : L2.St} {H : Hp} {Q : VK} (q : tM K mg E (eBi g f) σ H Q) : tCB r (tMa K mg E f) σ H Q := by
  obtain ⟨ι, h, fr, R, F, P⟩ := q
  refine ⟨ι, h, fr, R, F, Po.mono ?_ (Po.bind P)⟩
  rintro vs H1 ⟨ι1, h1, ds, e1, R1, r1, P1⟩
  exact hs ι1 h1 H1 ds vs Q R1 r1 P1
section
variable {X : Cx} {E : XK} {a : Expr} {as : List Expr} {fs : Sa} {x : Str} {p pos : Pos} {K : PySem.W.Frag} {mg : Str → Option Value}
theorem m_bi {id : String} {g : List D → Hq → Rs D} {r : List V → Hp → VK → Prop} (hc : CallR X (.builtin id) r) (hs : CaS X.K X.mg E g r) (hm : X.mg x = none) (hv : bootBuiltins x = some (.builtin id)) (ha : PMa X E (a :: as) fs) (hg : Gl X x := by rfl) (hn : x ≠ "__name__" := by decide)
    (hdb : (x == ("__debug__" : Str)) = false := by decide) (he : starEach (a :: as) X.env = (false, eval a X.env) :: starEach as X.env := by rfl) (hpl : (backTo pos (starEach as X.env)).any (·.1) = false := by rfl) : PM X E (.Call (.Name x p) (a :: as) [] pos) (eBi g fs) :=
  pe_imp (pe_callB hc hg hm hv ha hn hdb he hpl) fun _ _ _ q => bi_in hs q
theorem m_ty {T : String} {g : List D → Hq → Rs D} {r : List V → Hp → VK → Prop} (hc : CallR X (.type T) r) (hs : CaS X.K X.mg E g r) (hm : X.mg x = none) (hv : bootBuiltins x = some (.type T)) (ha : PMa X E (a :: as) fs) (hg : Gl X x := by rfl) (hn : x ≠ "__name__" := by decide)
    (hdb : (x == ("__debug__" : Str)) = false := by decide) (he : starEach (a :: as) X.env = (false, eval a X.env) :: starEach as X.env := by rfl) (hpl : (backTo pos (starEach as X.env)).any (·.1) = false := by rfl) : PM X E (.Call (.Name x p) (a :: as) [] pos) (eBi g fs) :=
  pe_imp (pe_callTy hc hg hm hv ha hn hdb he hpl) fun _ _ _ q => bi_in hs q
def gAbs (ds : List D) (h : Hq) : Rs D := match ds with
  | [.int i] => .ok (.int (if i < 0 then -i else i)) h
  | _ => .no
theorem s_abs : CaS K mg E gAbs (fun xs H Q => ∃ i, xs = [.int i] ∧ Q (.int (if i < 0 then -i else i)) H) := by
  intro ι h H ds vs Q R r P
  unfold gAbs at P
  split at P
  · obtain ⟨v, rfl, q⟩ := r.one
    cases q
    exact ⟨_, rfl, P ι H _ (Ext.refl _ _) R (.int _)⟩
  · exact P.elim
def gMax (ds : List D) (h : Hq) : Rs D := match ds with
  | [.int i, .int j] => .ok (.int (if j > i then j else i)) h
  | _ => .no
theorem s_max : CaS K mg E gMax (fun xs H Q => ∃ i j, xs = [.int i, .int j] ∧ Q (.int (if j > i then j else i)) H) := by
  intro ι h H ds vs Q R r P
  unfold gMax at P
  split at P
  · obtain ⟨v, w, rfl, q1, q2⟩ := r.two
    cases q1; cases q2
    exact ⟨_, _, rfl, P ι H _ (Ext.refl _ _) R (.int _)⟩
  · exact P.elim
def gMin (ds : List D) (h : Hq) : Rs D := match ds with
  | [.int i, .int j] => .ok (.int (if j < i then j else i)) h
  | _ => .no
theorem s_min : CaS K mg E gMin (fun xs H Q => ∃ i j, xs = [.int i, .int j] ∧ Q (.int (if j < i then j else i)) H) := by
  intro ι h H ds vs Q R r P
  unfold gMin at P
  split at P
  · obtain ⟨v, w, rfl, q1, q2⟩ := r.two
    cases q1; cases q2
    exact ⟨_, _, rfl, P ι H _ (Ext.refl _ _) R (.int _)⟩
  · exact P.elim
def gInt (ds : List D) (h : Hq) : Rs D := match ds with
  | [.int i] => .ok (.int i) h
  | [.bl b] => .ok (.int (if b then 1 else 0)) h
  | _ => .no
theorem s_int : CaS K mg E gInt (fun xs H Q => (∃ i, xs = [.int i] ∧ Q (.int i) H) ∨ ∃ k, xs = [.bl k] ∧ Q (.int (if k then 1 else 0)) H) := by
  intro ι h H ds vs Q R r P
  unfold gInt at P
  split at P
  · obtain ⟨v, rfl, q⟩ := r.one
    cases q
    exact .inl ⟨_, rfl, P ι H _ (Ext.refl _ _) R (.int _)⟩
  · obtain ⟨v, rfl, q⟩ := r.one
    cases q
    exact .inr ⟨_, rfl, P ι H _ (Ext.refl _ _) R (.int _)⟩
  · exact P.elim
def gLen (ds : List D) (h : Hq) : Rs D := match ds with
  | [.tup l] => .ok (.int l.length) h
  | [.scr l] => .ok (.int l.length) h
  | [.ref m] => match lstAt h m with
    | some l => .ok (.int l.length) h
    | none => .no
  | _ => .no
theorem s_len : CaS K mg E gLen (fun xs H Q => ∃ p ys, xs = [.ref p] ∧ (SqL K H p ys ∨ SqT K H p ys) ∧ Q (.int ys.length) H) := by
  intro ι h H ds vs Q R r P
  unfold gLen at P
  split at P
  · obtain ⟨v, rfl, q⟩ := r.one
    cases q with
    | tup hx q => exact ⟨_, _, rfl, .inr hx.sq, by rw [q.length]; exact P ι H _ (Ext.refl _ _) R (.int _)⟩
  · obtain ⟨v, rfl, q⟩ := r.one
    cases q with
    | scr hx => exact ⟨_, _, rfl, .inl hx.sq, by rw [List.length_map]; exact P ι H _ (Ext.refl _ _) R (.int _)⟩
  · split at P
    · rename_i hl
      obtain ⟨v, rfl, q⟩ := r.one
      cases q with
      | ref hx =>
        obtain ⟨ws, c1, q1⟩ := R.lst hx hl
        exact ⟨_, _, rfl, .inl (.of c1), by rw [q1.length]; exact P ι H _ (Ext.refl _ _) R (.int _)⟩
    · exact P.elim
  · exact P.elim
def gList (ds : List D) (h : Hq) : Rs D := match ds with
  | [.tup l] => .ok (.ref h.length) (h ++ [.lst l])
  | [.ref m] => match lstAt h m with
    | some l => .ok (.ref h.length) (h ++ [.lst l])
    | none => .no
  | _ => .no
def gTuple (ds : List D) (h : Hq) : Rs D := match ds with
  | [.tup l] => .ok (.tup l) h
  | [.ref m] => match lstAt h m with
    | some l => .ok (.tup l) h
    | none => .no
  | _ => .no
def gGcd (ds : List D) (h : Hq) : Rs D := match ds with
  | [.int i, .int j] => .ok (.int ((Nat.gcd i.natAbs j.natAbs : Nat) : Int)) h
  | _ => .no
theorem m_abs (hm : X.mg "abs" = none) (ha : PMa X E (a :: as) fs) (hg : Gl X "abs" := by rfl) (he : starEach (a :: as) X.env = (false, eval a X.env) :: starEach as X.env := by rfl) (hpl : (backTo pos (starEach as X.env)).any (·.1) = false := by rfl) :
    PM X E (.Call (.Name "abs" p) (a :: as) [] pos) (eBi gAbs fs) := m_bi call_abs s_abs hm (by decide +kernel) ha hg (he := he) (hpl := hpl)
theorem m_max (hc : X.calm = true) (hm : X.mg "max" = none) (ha : PMa X E (a :: as) fs) (hg : Gl X "max" := by rfl) (he : starEach (a :: as) X.env = (false, eval a X.env) :: starEach as X.env := by rfl) (hpl : (backTo pos (starEach as X.env)).any (·.1) = false := by rfl) :
    PM X E (.Call (.Name "max" p) (a :: as) [] pos) (eBi gMax fs) := m_bi (call_max2 hc) s_max hm (by decide +kernel) ha hg (he := he) (hpl := hpl)
theorem m_min (hc : X.calm = true) (hm : X.mg "min" = none) (ha : PMa X E (a :: as) fs) (hg : Gl X "min" := by rfl) (he : starEach (a :: as) X.env = (false, eval a X.env) :: starEach as X.env := by rfl) (hpl : (backTo pos (starEach as X.env)).any (·.1) = false := by rfl) :
    PM X E (.Call (.Name "min" p) (a :: as) [] pos) (eBi gMin fs) := m_bi (call_min2 hc) s_min hm (by decide +kernel) ha hg (he := he) (hpl := hpl)
theorem m_len (hm : X.mg "len" = none) (ha : PMa X E (a :: as) fs) (hg : Gl X "len" := by rfl) (he : starEach (a :: as) X.env = (false, eval a X.env) :: starEach as X.env := by rfl) (hpl : (backTo pos (starEach as X.env)).any (·.1) = false := by rfl) :
    PM X E (.Call (.Name "len" p) (a :: as) [] pos) (eBi gLen fs) := m_bi call_len_seq s_len hm boot_len ha hg (he := he) (hpl := hpl)
theorem m_intc (hm : X.mg "int" = none) (ha : PMa X E (a :: as) fs) (hg : Gl X "int" := by rfl) (he : starEach (a :: as) X.env = (false, eval a X.env) :: starEach as X.env := by rfl) (hpl : (backTo pos (starEach as X.env)).any (·.1) = false := by rfl) :
    PM X E (.Call (.Name "int" p) (a :: as) [] pos) (eBi gInt fs) := m_ty call_int1 s_int hm (by decide +kernel) ha hg (he := he) (hpl := hpl)
end
inductive Tn where
  | int | str | bool | list | tuple | dict
def Tn.s : Tn → String
  | .int => "int" | .str => "str" | .bool => "bool" | .list => "list" | .tuple => "tuple" | .dict => "dict"
/-- the type's name of a plain thing -/
def tyD (h : Hq) : D → Option String
  | .non => some "NoneType"
  | .bl _ => some "bool"
  | .int _ => some "int"
  | .str _ => some "str"
  | .tup _ => some "tuple"
  | .scr _ => some "list"
  | .opq => none
  | .adr _ => none
  | .ty _ => none
  | .ref m => match h[m]? with
    | some (.lst _) => some "list"
    | some (.dct _) => some "dict"
    | _ => none
/-- isinstance(x, T): what the library's own look at built-in classes says -/
def gIsi (c : String) (d : D) (h : Hq) : Rs D := match tyD h d with
  | some n => match kitB n c with
    | some b => .ok (.bl b) h
    | none => .no
  | none => .no
def eIsi (c : String) (f : Sx) : Sx := fun fr h => (f fr h).bind fun d h1 => gIsi c d h1
end MI
end
section
set_option Elab.async false
set_option linter.all false
set_option autoImplicit false
set_option maxRecDepth 100000
set_option maxHeartbeats 4000000
namespace MI
open PySem L2
inductive SR where
  | nx (fr : Fr) (h : Hq) | rt (d : D) (h : Hq) | bk (fr : Fr) (h : Hq) | ct (fr : Fr) (h : Hq) | exc (x : Xn) (h : Hq) | no
abbrev Ss := Fr → Hq → SR
def SR.then (r : SR) (g : Ss) : SR := match r with
  | .nx fr h => g fr h
  | r => r
/-- an expression first -/
def Rs.into {α : Type} (r : Rs α) (f : α → Hq → SR) : SR := match r with
  | .ok a h => f a h
  | .exc x h => .exc x h
  | .no => .no
@[simp] theorem Rs.into_ok {α : Type} (a : α) (h : Hq) (f : α → Hq → SR) : (Rs.ok a h).into f = f a h := rfl
@[simp] theorem Rs.into_exc {α : Type} (x : Xn) (h : Hq) (f : α → Hq → SR) : (Rs.exc x h : Rs α).into f = .exc x h := rfl
@[simp] theorem Rs.into_no {α : Type} (f : α → Hq → SR) : (Rs.no : Rs α).into f = .no := rfl
@[simp] theorem SR.then_nx (fr : Fr) (h : Hq) (g : Ss) : (SR.nx fr h).then g = g fr h := rfl
@[simp] theorem SR.then_rt (d : D) (h : Hq) (g : Ss) : (SR.rt d h).then g = .rt d h := rfl
@[simp] theorem SR.then_exc (x : Xn) (h : Hq) (g : Ss) : (SR.exc x h).then g = .exc x h := rfl
@[simp] theorem SR.then_no (g : Ss) : SR.no.then g = .no := rfl
@[simp] theorem SR.then_bk (fr : Fr) (h : Hq) (g : Ss) : (SR.bk fr h).then g = .bk fr h := rfl
@[simp] theorem SR.then_ct (fr : Fr) (h : Hq) (g : Ss) : (SR.ct fr h).then g = .ct fr h := rfl
def SPo (K : PySem.W.Frag) (mg : Str → Option Value) (ι : List Addr) (H : Hp) (Z : Ends) (E : XK) : SR → Prop
  | .nx fr h' => ∀ ι' H' σ', Ext ι H ι' H' → HR K ι' h' H' → FR K ι' H' σ' fr → Z.nx σ' H'
  | .rt d h' => ∀ ι' H' v, Ext ι H ι' H' → HR K ι' h' H' → VR K ι' H' v d → Z.rt v H'
  | .bk fr h' => ∀ ι' H' σ', Ext ι H ι' H' → HR K ι' h' H' → FR K ι' H' σ' fr → Z.bk σ' H'
  | .ct fr h' => ∀ ι' H' σ', Ext ι H ι' H' → HR K ι' h' H' → FR K ι' H' σ' fr → Z.ct σ' H'
  | .exc x h' => ∀ ι' H' cls d, Ext ι H ι' H' → HR K ι' h' H' → XR K mg ι' H' x cls d → E cls d H'
  | .no => False
section
variable {K : PySem.W.Frag} {mg : Str → Option Value} {ι ι' : List Addr} {H H' : Hp} {E : XK} {Z Z' : Ends}
theorem SPo.ext (e : Ext ι H ι' H') : ∀ {r : SR}, SPo K mg ι H Z E r → SPo K mg ι' H' Z E r
  | .nx _ _, h => fun a b c e2 => h a b c (e.trans e2)
  | .rt _ _, h => fun a b c e2 => h a b c (e.trans e2)
  | .bk _ _, h => fun a b c e2 => h a b c (e.trans e2)
  | .ct _ _, h => fun a b c e2 => h a b c (e.trans e2)
  | .exc _ _, h => fun a b c d e2 => h a b c d (e.trans e2)
  | .no, h => h
/-- what a statement's rest wants, as what is wanted behind it -/
def Rest (K : PySem.W.Frag) (mg : Str → Option Value) (ι : List Addr) (H : Hp) (Z : Ends) (E : XK) (g : Ss) (σ : L2.St) (H1 : Hp) : Prop :=
  ∃ ι1 h1 fr, Ext ι H ι1 H1 ∧ HR K ι1 h1 H1 ∧ FR K ι1 H1 σ fr ∧ SPo K mg ι1 H1 Z E (g fr h1)
theorem SPo.then {g : Ss} : ∀ {r : SR}, SPo K mg ι H Z E (r.then g) → SPo K mg ι H { Z with nx := Rest K mg ι H Z E g } E r
  | .nx fr h1, h => fun i1 H1 σ e R F => ⟨i1, h1, fr, e, R, F, SPo.ext e h⟩
  | .rt _ _, h => h
  | .bk _ _, h => h
  | .ct _ _, h => h
  | .exc _ _, h => h
  | .no, h => h
theorem Po.into {α β : Type} {R : List Addr → Hp → β → α → Prop} {f : α → Hq → SR} : ∀ {r : Rs α}, SPo K mg ι H Z E (r.into f) →
    Po K mg R ι H (fun v H1 => ∃ ι1 h1 a, Ext ι H ι1 H1 ∧ HR K ι1 h1 H1 ∧ R ι1 H1 v a ∧ SPo K mg ι1 H1 Z E (f a h1)) E r
  | .ok a h1, h => fun i1 H1 v e1 r1 q => ⟨i1, h1, a, e1, r1, q, SPo.ext e1 h⟩
  | .exc _ _, h => h
  | .no, h => h
end
def tMs (K : PySem.W.Frag) (mg : Str → Option Value) (E : XK) (f : Ss) : TS := fun Z σ H => ∃ ι h fr, HR K ι h H ∧ FR K ι H σ fr ∧ SPo K mg ι H Z E (f fr h)
abbrev PMs (X : Cx) (E : XK) (st : Stmt) (f : Ss) : Prop := PS X st (tMs X.K X.mg E f)
abbrev PMb' (X : Cx) (E : XK) (st : List Stmt) (f : Ss) : Prop := PSs X st (tMs X.K X.mg E f)
section
variable {X : Cx}
theorem ps_imp {st : Stmt} {t t' : TS} (h : PS X st t) (m : ∀ Z σ H, t' Z σ H → t Z σ H) : PS X st t' := ⟨fun pins s σ H Z I q => h.run pins s σ H Z I (m Z σ H q)⟩
theorem pss_imp {st : List Stmt} {t t' : TS} (h : PSs X st t) (m : ∀ Z σ H, t' Z σ H → t Z σ H) : PSs X st t' := ⟨fun pins s σ H Z I q => h.run pins s σ H Z I (m Z σ H q)⟩
variable {E : XK} {st : Stmt} {rest : List Stmt} {f g : Ss} {e a b c : Expr} {fe : Sx} {pos : Pos}
def sEnd : Ss := fun fr h => .nx fr h
def sSeq (f g : Ss) : Ss := fun fr h => (f fr h).then g
theorem m_end : PMb' X E [] sEnd := pss_imp pss_nil fun Z σ H ⟨ι, h, fr, R, F, P⟩ => P ι H σ (Ext.refl _ _) R F
theorem m_seq (h1 : PMs X E st f) (h2 : PMb' X E rest g) : PMb' X E (st :: rest) (sSeq f g) := pss_imp (pss_cons h1 h2) fun Z σ H ⟨ι, h, fr, R, F, P⟩ => by
  refine ⟨ι, h, fr, R, F, ?_⟩
  have q := SPo.then P
  revert q
  cases f fr h with
  | nx fr1 h1 =>
    intro q i1 H1 σ1 e1 R1 F1
    obtain ⟨i2, h2, fr2, e2, R2, F2, P2⟩ := q i1 H1 σ1 e1 R1 F1
    exact ⟨i2, h2, fr2, R2, F2, P2⟩
  | rt d h1 => exact fun q => q
  | bk fr1 h1 => exact fun q => q
  | ct fr1 h1 => exact fun q => q
  | exc x h1 => exact fun q => q
  | no => exact fun q => q
def sBreak : Ss := fun fr h => .bk fr h
def sCont : Ss := fun fr h => .ct fr h
def sRet (f : Sx) : Ss := fun fr h => (f fr h).into fun d h1 => .rt d h1
theorem m_ret (ha : PM X E e fe) : PMs X E (.Return (some e) pos) (sRet fe) := ps_imp (ps_ret ha) fun Z σ H ⟨ι, h, fr, R, F, P⟩ => by
  refine ⟨ι, h, fr, R, F, Po.mono ?_ (Po.into P)⟩
  rintro v H1 ⟨i1, h1, d, e1, R1, r1, P1⟩
  exact P1 i1 H1 v (Ext.refl _ _) R1 r1
def sExpr (f : Sx) : Ss := fun fr h => (f fr h).into fun _ h1 => .nx fr h1
def sIf (c : Sb) (f g : Ss) : Ss := fun fr h => (c fr h).into fun b h1 => if b = true then f fr h1 else g fr h1
theorem m_ifs {fc : Sb} {bs cs : List Stmt} (hc : PMb X E c fc) (hb : PMb' X E bs f) (ho : PMb' X E cs g) : PMs X E (.If c bs cs pos) (sIf fc f g) := ps_imp (ps_if hc hb ho) fun Z σ H ⟨ι, h, fr, R, F, P⟩ => by
  refine ⟨ι, h, fr, R, F, Po.mono ?_ (Po.into P)⟩
  rintro v H1 ⟨i1, h1, d, e1, R1, r1, P1⟩
  subst r1
  cases v with
  | true => exact ⟨i1, h1, fr, R1, F.ext e1, P1⟩
  | false => exact ⟨i1, h1, fr, R1, F.ext e1, P1⟩
abbrev Tg := D → Fr → Option Fr
def TgS (K : PySem.W.Frag) (g : TG) (t : Tg) : Prop :=
  ∀ (ι : List Addr) (h : Hq) (H : Hp) (v : V) (d : D) (σ : L2.St) (fr fr' : Fr) (Q : L2.St → Hp → Prop), HR K ι h H → VR K ι H v d → FR K ι H σ fr → t d fr = some fr' → (∀ σ', FR K ι H σ' fr' → Q σ' H) → g v σ H Q
structure PMg (X : Cx) (tg : Expr) (t : Tg) : Prop where
  ex : ∃ g, PG X tg g ∧ TgS X.K g t
def tgN (i : Nat) : Tg := fun d fr => some (fr.set i (some d))
theorem tgN_s {K : PySem.W.Frag} (i : Nat) : TgS K (gName i) (tgN i) := by
  intro ι h H v d σ fr fr' Q R r F e k
  cases e
  exact k _ (F.set r)
theorem m_tgN (i : Nat) {x : Str} (nd : X.N.Nodup) (hi : X.N[i]? = some x := by rfl) (hx : Loc X.env.scope x := by first | exact Or.inl rfl | exact Or.inr rfl) (hf : X.fn x = true ∨ X.env.scope.names.lookup x = some .local := by first | exact .inl rfl | exact .inr rfl) :
    PMg X (.Name x pos) (tgN i) := ⟨_, pg_name nd hi hx hf, tgN_s i⟩
/-- a, b, .. from a tuple -/
def setAll : List Nat → List D → Fr → Option Fr
  | [], [], fr => some fr
  | i :: is, d :: ds, fr => setAll is ds (fr.set i (some d))
  | _, _, _ => none
def tgT (is : List Nat) : Tg := fun d fr => match d with
  | .tup l => setAll is l fr
  | _ => none
def sAsg (f : Sx) (t : Tg) : Ss := fun fr h => (f fr h).into fun d h1 => match t d fr with
  | some fr' => .nx fr' h1
  | none => .no
theorem asg_in {K : PySem.W.Frag} {mg : Str → Option Value} {gg : TG} {t : Tg} (hs : TgS K gg t) {Z : Ends} {σ : L2.St} {H : Hp} (q : tMs K mg E (sAsg fe t) Z σ H) : tAsg (tM K mg E fe) gg Z σ H := by
  obtain ⟨ι, h, fr, R, F, P⟩ := q
  refine ⟨ι, h, fr, R, F, Po.mono ?_ (Po.into P)⟩
  rintro v H1 ⟨i1, h1, d, e1, R1, r1, P1⟩
  split at P1
  · rename_i fr' e
    exact hs i1 h1 H1 v d σ fr fr' _ R1 r1 (F.ext e1) e fun σ' F' => P1 i1 H1 σ' (Ext.refl _ _) R1 F'
  · exact P1.elim
/-- name = e -/
theorem m_set (i : Nat) {x : Str} {pos' : Pos} (nd : X.N.Nodup) (ha : PM X E e fe) (hi : X.N[i]? = some x := by rfl) (hx : Loc X.env.scope x := by first | exact Or.inl rfl | exact Or.inr rfl) (hs : swapsWith e (some (.Name x pos')) pos.line X.env = pure false := by rfl)
    (hf : X.fn x = true ∨ X.env.scope.names.lookup x = some .local := by first | exact .inl rfl | exact .inr rfl) : PMs X E (.Assign [.Name x pos'] e pos) (sAsg fe (tgN i)) := ps_imp (ps_set nd hi hx ha hs hf) fun _ _ _ q => asg_in (tgN_s i) q
/-- a, b = x, y -/
def sPar (i j : Nat) (fs : Sa) : Ss := fun fr h => (fs fr h).into fun ds h1 => match ds with
  | [d, e] => .nx ((fr.set i (some d)).set j (some e)) h1
  | _ => .no
/-- xs[k] = e -/
def sPut (fe fo fi : Sx) : Ss := fun fr h => (fe fr h).into fun d h1 => (fo fr h1).into fun o h2 => (fi fr h2).into fun k h3 => match o, k with
  | .ref m, .int j => match lstAt h3 m with
    | some l => match ixN l.length j with
      | some n => .nx fr (h3.set m (.lst (l.set n d)))
      | none => .no
    | none => .no
  | _, _ => .no
theorem m_put {fo fi : Sx} {p2 : Pos} (ha : PM X E e fe) (ho : PM X E a fo) (hi : PM X E b fi) (hh : ∀ v, assign (.Subscript a b p2) X.env v = (do
      let ov ← holding [v] (eval a X.env)
      let iv ← holding [v, ov] (eval b X.env)
      standAt p2
      holding [v, ov, iv] (setItem ov iv v)
      release [v, ov, iv] []) := by intro _; rfl) (hs : swapsWithSole [.Subscript a b p2] e pos.line X.env = pure false := by rfl) (hw : swappedStores [.Subscript a b p2] e X.env = pure none := by rfl)
    (h1 : (assignEach [.Subscript a b p2] X.env).map (·.2) = [assign (.Subscript a b p2) X.env] := by rfl) :
    PMs X E (.Assign [.Subscript a b p2] e pos) (sPut fe fo fi) := ps_imp (ps_asg ha (pg_sub ho hi set_list hh) hs hw h1) fun Z σ H ⟨ι, h, fr, R, F, P⟩ => by
  refine ⟨ι, h, fr, R, F, Po.mono ?_ (Po.into P)⟩
  rintro v H1 ⟨i1, h1, d, e1, R1, r1, P1⟩
  refine ⟨i1, h1, fr, R1, F.ext e1, Po.mono ?_ (Po.into P1)⟩
  rintro o H2 ⟨i2, h2, od, e2, R2, r2, P2⟩
  refine ⟨i2, h2, fr, R2, (F.ext e1).ext e2, Po.mono ?_ (Po.into P2)⟩
  rintro i H3 ⟨i3, h3, kd, e3, R3, r3, P3⟩
  split at P3
  · rename_i m j
    split at P3
    · rename_i _ l hl
      split at P3
      · rename_i _ n hn
        cases r3
        cases r2.ext e3 with
        | ref hx =>
          rename_i p
          obtain ⟨vs, c1, q⟩ := R3.lst hx hl
          have rv := (r1.ext e2).ext e3
          obtain ⟨e4, R4⟩ := R3.put (lstAt_some hl) hx (o := .lst (vs.set n v)) (c := .lst (l.set n d)) fun H' e z => ⟨_, z, (VRs.set rv n q).ext e⟩
          exact ⟨p, vs, j, n, rfl, rfl, c1, by rw [q.length]; exact hn, P3 i3 _ σ e4 R4 ((((F.ext e1).ext e2).ext e3).ext e4)⟩
      · exact P3.elim
    · exact P3.elim
  · exact P3.elim
end
end MI
end
section
set_option Elab.async false
set_option linter.all false
set_option autoImplicit false
set_option maxRecDepth 100000
set_option maxHeartbeats 4000000
namespace MI
open PySem L2
/-- n turns from the i-th on: get tells a turn's item (none: it can't be told), fin whether the walk ends where it should -/
def turns (get : Nat → Hq → Option D) (fin : Nat → Hq → Bool) (t : Tg) (b : Ss) : Nat → Nat → Ss
  | 0, i, fr, h => if fin i h = true then .nx fr h else .no
  | n + 1, i, fr, h => match get i h with
    | none => .no
    | some d => match t d fr with
      | none => .no
      | some fr1 => match b fr1 h with
        | .nx fr2 h2 => turns get fin t b n (i + 1) fr2 h2
        | .ct fr2 h2 => turns get fin t b n (i + 1) fr2 h2
        | .bk fr2 h2 => .nx fr2 h2
        | .rt d h2 => .rt d h2
        | .exc x h2 => .exc x h2
        | .no => .no
/-- an iterator J (over the heap as it lies) walks as get and fin tell -/
structure Wk (K : PySem.W.Frag) (ι : List Addr) (H0 : Hp) (J : It) (get : Nat → Hq → Option D) (fin : Nat → Hq → Bool) : Prop where
  go : ∀ (i : Nat) (ι' : List Addr) (h : Hq) (H : Hp) (d : D), Ext ι H0 ι' H → HR K ι' h H → get i h = some d → J.go i H ∧ ∀ x H', J.yld i H x H' → ∃ ι2, Ext ι' H ι2 H' ∧ HR K ι2 h H' ∧ VR K ι2 H' x d
  stop : ∀ (i : Nat) (ι' : List Addr) (h : Hq) (H : Hp), Ext ι H0 ι' H → HR K ι' h H → fin i h = true → J.stop i H
section
variable {K : PySem.W.Frag} {mg : Str → Option Value} {E : XK} {Z : Ends}
/-- the loop's wish, from the worth of its turns -/
theorem for_in {ι : List Addr} {H0 : Hp} {J : It} {get : Nat → Hq → Option D} {fin : Nat → Hq → Bool} {t : Tg} {b : Ss} {gg : TG} {tb : TS} (w : Wk K ι H0 J get fin) (hg : TgS K gg t)
    (hb : ∀ (Z' : Ends) (σ : L2.St) (H : Hp), tMs K mg E b Z' σ H → tb Z' σ H) {n : Nat} {h0 : Hq} {fr0 : Fr} {σ0 : L2.St} (R0 : HR K ι h0 H0) (F0 : FR K ι H0 σ0 fr0) (P0 : SPo K mg ι H0 Z E (turns get fin t b n 0 fr0 h0)) :
    ∃ W : Nat → Nat → L2.St → Hp → Prop, (∃ m, W 0 m σ0 H0) ∧ ∀ i m σ H, W i m σ H →
      (J.stop i H ∧ Z.nx σ H) ∨ (J.go i H ∧ ∃ N : L2.St → Hp → Prop, (∀ σ' H', N σ' H' → ∃ m', m' < m ∧ W (i + 1) m' σ' H') ∧ ∀ x H', J.yld i H x H' → gg x σ H' fun σ2 H2 => tb { Z with nx := N, ct := N, bk := Z.nx } σ2 H2) := by
  refine ⟨fun i m σ H => ∃ ι1 h fr, Ext ι H0 ι1 H ∧ HR K ι1 h H ∧ FR K ι1 H σ fr ∧ SPo K mg ι1 H Z E (turns get fin t b m i fr h), ⟨n, ι, h0, fr0, Ext.refl _ _, R0, F0, P0⟩, ?_⟩
  rintro i m σ H ⟨ι1, h, fr, e1, R, F, P⟩
  cases m with
  | zero =>
    unfold turns at P
    split at P
    · rename_i hf
      exact .inl ⟨w.stop i ι1 h H e1 R hf, P ι1 H σ (Ext.refl _ _) R F⟩
    · exact P.elim
  | succ m =>
    unfold turns at P
    split at P
    · exact P.elim
    · rename_i _ d hd
      split at P
      · exact P.elim
      · rename_i _ fr1 ht
        obtain ⟨g1, g2⟩ := w.go i ι1 h H d e1 R hd
        refine .inr ⟨g1, fun σ' H' => ∃ ι2 h2 fr2, Ext ι H0 ι2 H' ∧ HR K ι2 h2 H' ∧ FR K ι2 H' σ' fr2 ∧ SPo K mg ι2 H' Z E (turns get fin t b m (i + 1) fr2 h2), fun σ' H' q => ⟨m, Nat.lt_succ_self m, q⟩, fun x H' y => ?_⟩
        obtain ⟨ι2, e2, R2, r2⟩ := g2 x H' y
        refine hg ι2 h H' x d σ fr fr1 _ R2 r2 (F.ext e2) ht fun σ2 F2 => hb _ _ _ ⟨ι2, h, fr1, R2, F2, ?_⟩
        have P2 := SPo.ext e2 P
        revert P2
        cases b fr1 h with
        | nx fr3 h3 => exact fun q ι3 H3 σ3 e3 R3 F3 => ⟨ι3, h3, fr3, (e1.trans e2).trans e3, R3, F3, SPo.ext e3 q⟩
        | ct fr3 h3 => exact fun q ι3 H3 σ3 e3 R3 F3 => ⟨ι3, h3, fr3, (e1.trans e2).trans e3, R3, F3, SPo.ext e3 q⟩
        | bk fr3 h3 => exact fun q => q
        | rt d3 h3 => exact fun q => q
        | exc x3 h3 => exact fun q => q
        | no => exact fun q => q
end
/-- what is walked: how many turns, each turn's item, the end -/
structure Src where
  n : Nat
  get : Nat → Hq → Option D
  fin : Nat → Hq → Bool
abbrev Si := Fr → Hq → Rs Src
def tMi (K : PySem.W.Frag) (mg : Str → Option Value) (E : XK) (f : Si) : TI := fun σ H Q => ∃ ι h fr, HR K ι h H ∧ FR K ι H σ fr ∧ Po K mg (fun ι' H' (J : It) (S : Src) => Wk K ι' H' J S.get S.fin) ι H Q E (f fr h)
abbrev PMi (X : Cx) (E : XK) (tg iter : Expr) (f : Si) : Prop := PI X tg iter (tMi X.K X.mg E f)
theorem pi_imp {X : Cx} {tg iter : Expr} {w w' : TI} (h : PI X tg iter w) (m : ∀ σ H Q, w' σ H Q → w σ H Q) : PI X tg iter w' := ⟨fun pins s σ H R I q => h.run pins s σ H R I (m σ H R q)⟩
section
variable {X : Cx} {E : XK} {tg e e2 : Expr} {body : List Stmt} {fe fe2 : Sx} {fs : Sa} {b : Ss} {t : Tg} {pos p : Pos} {src : Si}
def sFor (t : Tg) (src : Si) (b : Ss) : Ss := fun fr h => (src fr h).into fun S h1 => turns S.get S.fin t b S.n 0 fr h1
theorem m_for (wh : Wh X E) (hi : PMi X E tg e src) (ht : PMg X tg t) (hb : PMb' X E body b) (hf : ∀ x, foldedSetIterable e X.env x = pure x := by intro _; rfl) : PMs X E (.For tg e body [] pos) (sFor t src b) := by
  obtain ⟨gg, hgg, hgs⟩ := ht.ex
  refine ps_imp (ps_for wh.po wh.calm hi hgg hb hf) fun Z σ H ⟨ι, h, fr, R, F, P⟩ => ?_
  refine ⟨ι, h, fr, R, F, Po.mono ?_ (Po.into P)⟩
  rintro J H1 ⟨i1, h1, S, e1, R1, w, P1⟩
  exact for_in w hgs (fun _ _ _ q => q) R1 (F.ext e1) P1
/-- range(n), range(m, n) -/
def iR (lo n : Int) (h : Hq) : Rs Src := if n < 2 ^ 61 ∧ -(2 ^ 61) < n ∧ lo < 2 ^ 61 ∧ -(2 ^ 61) < lo then .ok ⟨(n - lo).toNat, fun i _ => if i < (n - lo).toNat then some (.int (lo + i)) else none, fun i _ => decide ((n - lo).toNat ≤ i)⟩ h else .no
def iRange (fs : Sa) : Si := fun fr h => (fs fr h).bind fun ds h1 => match ds with
  | [.int j] => iR 0 j h1
  | _ => .no
theorem wk_range (K : PySem.W.Frag) (ι : List Addr) (H0 : Hp) (lo : Int) (n : Nat) : Wk K ι H0 (Itr lo n) (fun i _ => if i < n then some (.int (lo + i)) else none) (fun i _ => decide (n ≤ i)) where
  go := fun i ι' h H d e R q => by
    split at q
    · rename_i hi
      cases q
      refine ⟨hi, fun x H' ⟨e1, e2⟩ => ?_⟩
      subst e1 e2
      exact ⟨ι', Ext.refl _ _, R, .int _⟩
    · cases q
  stop := fun i ι' h H e R q => show n ≤ i from of_decide_eq_true q
theorem m_range (hm : X.mg "range" = none) (ha : PMa X E [e] fs) (hg : Gl X "range" := by rfl) (hs : starEach [e] X.env = [(false, eval e X.env)] := by rfl) : PMi X E tg (.Call (.Name "range" p) [e] [] pos) (iRange fs) := pi_imp (pi_range1 hg hm ha hs) fun σ H Q ⟨ι, h, fr, R, F, P⟩ => by
  refine ⟨ι, h, fr, R, F, Po.mono ?_ (Po.bind P)⟩
  rintro vs H1 ⟨i1, h1, ds, e1, R1, r1, P1⟩
  split at P1
  · rename_i j
    unfold iR at P1
    split at P1
    · obtain ⟨v, rfl, q⟩ := r1.one
      cases q
      refine ⟨j, rfl, by omega, by omega, P1 i1 H1 _ (Ext.refl _ _) R1 ?_⟩
      rw [Int.sub_zero]
      exact wk_range X.K i1 H1 0 j.toNat
    · exact P1.elim
  · exact P1.elim
/-- a list or a tuple -/
def srcT (l : List D) : Src := ⟨l.length, fun i _ => l[i]?, fun i _ => decide (l.length ≤ i)⟩
def srcC (m n : Nat) : Src := ⟨n, fun i h => (lstAt h m).bind fun l => l[i]?, fun i h => match lstAt h m with | some l => decide (l.length ≤ i) | none => false⟩
def iSeq (f : Sx) : Si := fun fr h => (f fr h).bind fun d h1 => match d with
  | .tup l => .ok (srcT l) h1
  | .ref m => match lstAt h1 m with
    | some l => .ok (srcC m l.length) h1
    | none => .no
  | _ => .no
end
def whileN (c : Sb) (b : Ss) : Nat → Fr → Hq → Option SR
  | 0, _, _ => none
  | n + 1, fr, h => match c fr h with
    | .ok true h1 => match b fr h1 with
      | .nx fr2 h2 => whileN c b n fr2 h2
      | .ct fr2 h2 => whileN c b n fr2 h2
      | .bk fr2 h2 => some (.nx fr2 h2)
      | r => some r
    | .ok false h1 => some (.nx fr h1)
    | .exc x h1 => some (.exc x h1)
    | .no => some .no
theorem whileN_mono {c : Sb} {b : Ss} : ∀ (n : Nat) (fr : Fr) (h : Hq) (r : SR), whileN c b n fr h = some r → whileN c b (n + 1) fr h = some r
  | 0, _, _, _, e => by cases e
  | n + 1, fr, h, r, e => by
    unfold whileN at e ⊢
    split at e
    · split at e
      · exact whileN_mono n _ _ _ e
      · exact whileN_mono n _ _ _ e
      · exact e
      · exact e
    · exact e
    · exact e
    · exact e
theorem whileN_le {c : Sb} {b : Ss} {n m : Nat} (hm : n ≤ m) {fr : Fr} {h : Hq} {r : SR} (e : whileN c b n fr h = some r) : whileN c b m fr h = some r := by
  obtain ⟨k, rfl⟩ := Nat.exists_eq_add_of_le hm
  induction k with
  | zero => exact e
  | succ k ih => exact whileN_mono _ _ _ _ (ih (Nat.le_add_right _ _))
open Classical in
noncomputable def sWhile (c : Sb) (b : Ss) : Ss := fun fr h => if q : ∃ r n, whileN c b n fr h = some r then q.choose else .no
theorem sWhile_eq {c : Sb} {b : Ss} {n : Nat} {fr : Fr} {h : Hq} {r : SR} (e : whileN c b n fr h = some r) : sWhile c b fr h = r := by
  have q : ∃ r n, whileN c b n fr h = some r := ⟨r, n, e⟩
  unfold sWhile
  rw [dif_pos q]
  obtain ⟨m, hm⟩ := q.choose_spec
  have h1 := whileN_le (Nat.le_max_left n m) e
  have h2 := whileN_le (Nat.le_max_right n m) hm
  rw [h1] at h2
  exact (Option.some.inj h2).symm
def sRaise (x : Str) : Ss := fun _ h => .exc { cls := x } h
section
variable {X : Cx} {E : XK} {C : Addr} {bmB : List Value} {B newId initId : String} {x m : Str} {j : Nat} {p p2 pos pos2 : Pos}
/-- xs.append(e) -/
def eApp (fo : Sx) (f : Sx) : Sx := fun fr h => (fo fr h).bind fun o h1 => match o with
  | .ref n => match lstAt h1 n with
    | some _ => (f fr h1).bind fun d h2 => match lstAt h2 n with
      | some l => if small (l.length + 1) = true then .ok .non (h2.set n (.lst (l ++ [d]))) else .no
      | none => .no
    | none => .no
  | _ => .no
end
end MI
end
section
set_option Elab.async false
set_option linter.all false
set_option autoImplicit false
set_option maxRecDepth 100000
set_option maxHeartbeats 4000000
namespace MI
open PySem L2
open PyProof.Rows (envOfC)
def fin : SR → Rs D
  | .nx _ h => .ok .non h
  | .rt d h => .ok d h
  | .exc x h => .exc x h
  | _ => .no
/-- n parameters, k more names -/
def ofBody (n k : Nat) (b : Ss) : Sf := fun ds h => if ds.length = n then fin (b (ds.map some ++ List.replicate k none) h) else .no
theorem fr_start {K : PySem.W.Frag} {ι : List Addr} {H : Hp} {N : List Str} {vs : List V} {ds : List D} (r : VRs K ι H vs ds) : FR K ι H (L2.start N vs) (ds.map some ++ List.replicate (N.length - ds.length) none) := by
  unfold L2.start
  rw [r.length]
  refine ⟨by simp [r.length], fun i d e => ?_⟩
  by_cases hi : i < ds.length
  · rw [List.getElem?_append_left (by simpa using hi), List.getElem?_map] at e
    cases q : ds[i]? with
    | none => rw [q] at e; cases e
    | some d' =>
      rw [q] at e
      cases e
      obtain ⟨v, h1, h2⟩ := r.get q
      refine ⟨v, ?_, h2⟩
      rw [List.getElem?_append_left (by rw [List.length_map, r.length]; exact hi), List.getElem?_map, h1]
      rfl
  · rw [List.getElem?_append_right (by simpa using hi), List.getElem?_replicate] at e
    split at e <;> cases e
section
variable {P : Program} {w : World} {K : PySem.W.Frag} {mg : Str → Option Value} {base : Heap} {k : Nat} {f : Addr} {name qual : Str} {params : Arguments} {body : List Stmt} {scope : Scope} {dV kV doc pm cdv ct oc : Value} {an od : Option Addr}
  {osl : Array (Option Value)} {N ps : List Str}
theorem wh_of {A : Around} {outer : List Env} {s : Shared} {H : Hp} {E : XK} (S : FnScope N ps scope) (hg : A.guards = some []) : Wh (cxOf (L2.CX P w) P w K mg base N qual scope f cdv A outer s H E) E :=
  ⟨takes_of rfl rfl rfl rfl, passes_of rfl, hg, rfl, S.nd⟩
/-- a def's body, walked once, tells the def's worth -/
theorem fnG_of {b : Ss} (lk : K.lookup f = some ⟨oc, od, .func (PySem.W.fnOf name qual params body scope dV kV doc pm an cdv ct), osl⟩) (hcd : PySem.W.codeIn K cdv qual = true) (S : FnScope N ps scope)
    (hb : ∀ (A : Around) (outer : List Env) (s : Shared) (H : Hp) (E : XK), Room k (A.deeper (envOfC qual scope s.heap.objs.size f cdv)) → Wh (cxOf (L2.CX P w) P w K mg base N qual scope f cdv A outer s H E) E →
      PMb' (cxOf (L2.CX P w) P w K mg base N qual scope f cdv A outer s H E) E body b) :
    FnG P w K mg base (k + 1) f (PySem.W.fnOf name qual params body scope dV kV doc pm an cdv ct) ps (ofBody ps.length (N.length - ps.length) b) := by
  constructor
  intro A outer s H args us vs ds ι h Q E room guard e0 bind rv R rd hlen P1
  have hvl : vs.length = ps.length := by rw [rd.length]; exact hlen
  have kin : K.In s.heap := e0.mod.kin.keeps fun b o e => (e0.bs b o e).1
  have nolim : s.heap.NoLimit := e0.mod.nolimit.keeps fun b o e => (e0.bs b o e).1
  have kinds : ∀ y ∈ ps.zip us, scope.names.lookup y.1 = some .local ∨ (scope.names.lookup y.1 = some .cell ∧ ((cellsFrom (s.heap.objs.size + 1) scope.names []).lookup y.1).isSome = true) := by
    rintro ⟨n, v⟩ hy
    rcases S.par n (List.of_mem_zip hy).1 with q | q
    · exact .inl q
    · exact .inr ⟨q, PySem.W.cellsFrom_some _ _ _ (.inl q)⟩
  refine codeAny_call_function room.depth (kin _ _ lk) rfl S.co S.gen rfl (PySem.W.codeRec_of kin hcd) (bind _ _ _ _ ?_)
  refine wpAny_newFunctionEnv_cells S.kind kinds ?_
  intro env henv s1 x
  subst henv
  refine ⟨nolim.keeps x.toInCall.keep, codeAny_func ?_⟩
  have body1 := hb A outer s H E (room.deeper _) (wh_of S guard)
  have I1 : Inv (cxOf (L2.CX P w) P w K mg base N qual scope f cdv A outer s H E) [] (L2.start N vs) H s1 := inv_start S room.hd e0 hvl rv x
  have P2 : PoV K mg ι H Q E (fin (b (ds.map some ++ List.replicate (N.length - ds.length) none) h)) := by
    unfold ofBody at P1
    rw [if_pos hlen] at P1
    rw [hlen]
    exact P1
  have P3 : SPo K mg ι H { nx := fun _ H' => Q .non H', rt := Q } E (b (ds.map some ++ List.replicate (N.length - ds.length) none) h) := by
    revert P2
    cases b (ds.map some ++ List.replicate (N.length - ds.length) none) h with
    | nx fr h1 => exact fun q ι1 H1 σ1 e1 R1 _ => q ι1 H1 .non e1 R1 .non
    | rt d h1 => exact fun q => q
    | exc x h1 => exact fun q => q
    | bk fr h1 => exact fun q => q.elim
    | ct fr h1 => exact fun q => q.elim
    | no => exact fun q => q
  refine wpAny_mono (body1.run [] s1 (L2.start N vs) H { nx := fun _ H' => Q .non H', rt := Q } I1 ⟨ι, h, _, R, fr_start rd, P3⟩) (fun fl s2 q => ?_) fun e s2 q => q
  cases fl with
  | ret u =>
    obtain ⟨v, σ2, H2, J, r2, q2⟩ := q
    exact ⟨v, H2, J.os, J.bare, J.base, J.hok, r2, q2⟩
  | next =>
    obtain ⟨σ2, H2, J, q2⟩ := q
    exact ⟨V.non, H2, J.os, J.bare, J.base, J.hok, rfl, q2⟩
  | brk => obtain ⟨_, _, _, q2⟩ := q; exact q2.elim
  | cont => obtain ⟨_, _, _, q2⟩ := q; exact q2.elim
end
section
variable {P : Program} {w : World} {K : PySem.W.Frag} {mg : Str → Option Value} {base : Heap}
/-- .. with defaults -/
theorem funD_G {x qual : Str} {params : Arguments} {body : List Stmt} {scope : Scope} {dvs : List V} {kws : List (Str × V)} {f : Addr} {fd : FuncData} {N ps : List Str} {k : Nat} {b : Ss} (F : FunD K x qual params body scope dvs kws f fd) (S : FnScope N ps scope)
    (hb : ∀ (cdv : Value) (A : Around) (outer : List Env) (s : Shared) (H : Hp) (E : XK), Room k (A.deeper (envOfC qual scope s.heap.objs.size f cdv)) → Wh (cxOf (L2.CX P w) P w K mg base N qual scope f cdv A outer s H E) E →
      PMb' (cxOf (L2.CX P w) P w K mg base N qual scope f cdv A outer s H E) E body b) : FnG P w K mg base (k + 1) f fd ps (ofBody ps.length (N.length - ps.length) b) := by
  obtain ⟨oc, od, dV, kV, doc, pm, an, cdv, ct, osl, rfl, lk, hcd, _, _⟩ := F.ex
  exact fnG_of lk hcd S fun A outer s H E => hb cdv A outer s H E
end
def keyP : L2.Key → PyData
  | .inl i => .int i
  | .inr x => .str x
/-- data as a whole, dicts too -/
def toPyR (h : Hq) : Nat → D → Option PyData
  | 0, _ => none
  | _ + 1, .non => some .none
  | _ + 1, .bl b => some (.bool b)
  | _ + 1, .int i => some (.int i)
  | _ + 1, .str x => some (.str x)
  | n + 1, .tup l => (opts (toPyR h n) l).map .tuple
  | n + 1, .ref m => match h[m]? with
    | some (.lst l) => (opts (toPyR h n) l).map .list
    | some (.dct l) => (opts (toPyR h n) (l.map (·.2))).map fun ps => .dict ((l.map fun p => keyP p.1).zip ps)
    | _ => none
  | _ + 1, .scr l => some (.list (l.map .int))
  | _ + 1, .opq => none
  | _ + 1, .adr _ => none
  | _ + 1, .ty _ => none
mutual
def noLst : PyData → Bool
  | .list _ => false
  | .tuple xs => noLsts xs
  | .dict kvs => noLstK kvs
  | _ => true
def noLsts : List PyData → Bool
  | [] => true
  | x :: xs => noLst x && noLsts xs
def noLstK : List (PyData × PyData) → Bool
  | [] => true
  | (_, v) :: r => noLst v && noLstK r
end
theorem noLsts_k : ∀ (ks : List PyData) (ps : List PyData), noLstK (ks.zip ps) = true → ks.length = ps.length → noLsts ps = true
  | [], [], _, _ => by simp [noLsts]
  | k :: ks, p :: ps, e, hl => by
    have e' : (noLst p && noLstK (ks.zip ps)) = true := by simpa [noLstK] using e
    have e2 := Bool.and_eq_true_iff.mp e'
    simp [noLsts, e2.1, noLsts_k ks ps e2.2 (by simpa using hl)]
def RdA (h : Heap) (us : List Value) (ps : List PyData) : Prop := ∃ as, ReadsAll h us ps as ∧ (noLsts ps = true → ∀ a ∈ as, (a == sysModules) = false)
def Rd1 (h : Heap) (u : Value) (p : PyData) : Prop := ∃ as, Reads h u p as ∧ (noLst p = true → ∀ a ∈ as, (a == sysModules) = false)
section
variable {X : Cx} {pins : List (Addr × Obj)} {σ : L2.St} {H : Hp} {s : Shared}
theorem rd_all {ι : List Addr} {f : D → Option PyData} (hf : ∀ d p v u, f d = some p → VR X.K ι H v d → RelV v u → Rd1 s.heap u p) : ∀ {l : List D} {ps : List PyData} {vs : List V} {us : List Value}, opts f l = some ps → VRs X.K ι H vs l → Vals vs us → RdA s.heap us ps
  | [], _, _, _, e, r, rv => by
    cases r; cases e; cases rv
    exact ⟨[], .nil, fun _ a z => (nomatch z)⟩
  | d :: l, _, _, _, e, r, rv => by
    unfold opts at e
    split at e
    · rename_i p q h1 h2
      cases e
      cases r with
      | cons r1 r2 =>
        cases rv with
        | cons v1 v2 =>
          obtain ⟨as, a1, a2⟩ := hf _ _ _ _ h1 r1 v1
          obtain ⟨bs, b1, b2⟩ := rd_all hf h2 r2 v2
          refine ⟨as ++ bs, .cons a1 b1, fun z a m => ?_⟩
          have z' : (noLst p && noLsts q) = true := by simpa [noLsts] using z
          have z2 := Bool.and_eq_true_iff.mp z'
          exact (List.mem_append.mp m).elim (a2 z2.1 a) (b2 z2.2 a)
    · cases e
theorem ints_rd : ∀ (l : List Int) (us : List Value), Vals (l.map V.int) us → ∃ as, ReadsAll s.heap us (l.map PyData.int) as
  | [], _, r => by cases r; exact ⟨[], .nil⟩
  | i :: l, _, r => by
    cases r with
    | cons r1 r2 =>
      obtain ⟨t, rfl⟩ := r1
      obtain ⟨as, h⟩ := ints_rd l _ r2
      exact ⟨_, .cons (.int i t) h⟩
theorem keys_read (P : Program) (w : World) (h : Heap) : ∀ (k : L2.Key) (key : Value), (mixKind P w).is k key = true → Reads h key (keyP k) [] := fun k key e => by
  rcases keyIs_shape e with ⟨i, t, rfl, rfl⟩ | ⟨x, t, rfl, rfl⟩
  · exact .int i t
  · exact .str x t
theorem pairs_rd {h : Heap} : ∀ {kvs : List (L2.Key × V)} {vs : List (L2.Key × Value)} {ps : List PyData} {as : List Addr}, KV kvs vs → ReadsAll h (vs.map (·.2)) ps as → PyProof.V.PairsRead h keyP vs ((kvs.map fun p => keyP p.1).zip ps) as
  | [], _, _, _, r, q => by
    cases r
    cases q
    exact .nil
  | p :: kvs, _, _, _, r, q => by
    cases r with
    | cons r1 r2 =>
      rename_i b vs
      obtain ⟨k, v⟩ := b
      have q' : ReadsAll h (v :: vs.map (·.2)) _ _ := q
      cases q' with
      | cons q1 q2 =>
        have e : p.1 = k := r1.1
        rw [List.map_cons, e, List.zip_cons_cons]
        exact .cons q1 (pairs_rd r2 q2)
theorem kv_vals : ∀ {kvs : List (L2.Key × V)} {vs : List (L2.Key × Value)}, KV kvs vs → Vals (kvs.map (·.2)) (vs.map (·.2))
  | [], _, r => by cases r; exact .nil
  | p :: kvs, _, r => by
    cases r with
    | cons r1 r2 => exact .cons r1.2 (kv_vals r2)
theorem opts_len {α β : Type} {f : α → Option β} : ∀ {l : List α} {ps : List β}, opts f l = some ps → ps.length = l.length
  | [], _, e => by cases e; rfl
  | d :: l, _, e => by
    unfold opts at e
    split at e
    · rename_i p q h1 h2
      cases e
      rw [List.length_cons, List.length_cons, opts_len h2]
    · cases e
theorem rd_of (I : Inv X pins σ H s) {ι : List Addr} {h : Hq} (R : HR X.K ι h H) : ∀ (n : Nat) (d : D) (p : PyData) (v : V) (u : Value), toPyR h n d = some p → VR X.K ι H v d → RelV v u → Rd1 s.heap u p
  | 0, _, _, _, _, e, _, _ => by cases e
  | n + 1, d, p, v, u, e, r, rv => by
    cases r with
    | non => cases e; cases rv; exact ⟨[], .none, fun _ a z => (nomatch z)⟩
    | bl b => cases e; cases rv; exact ⟨[], .bool b, fun _ a z => (nomatch z)⟩
    | int i => cases e; obtain ⟨t, rfl⟩ := rv; exact ⟨[], .int i t, fun _ a z => (nomatch z)⟩
    | str x => cases e; obtain ⟨t, rfl⟩ := rv; exact ⟨[], .str x t, fun _ a z => (nomatch z)⟩
    | tup hx q =>
      cases rv
      rename_i a vs l
      have e' : (opts (toPyR h n) l).map PyData.tuple = some p := e
      obtain ⟨ps, h1, h2⟩ := Option.map_eq_some_iff.mp e'
      subst h2
      obtain ⟨its, r1, ⟨o, g1, g2, m, g3⟩, _⟩ := I.tuple hx.sq
      obtain ⟨as, a1, a2⟩ := rd_all (fun d p v u => rd_of I R n d p v u) h1 q r1
      exact ⟨as, .tuple g1 g2 g3 (by simpa using a1), fun z => a2 (by simpa [noLst] using z)⟩
    | ref hx =>
      cases rv
      rename_i a m
      have e' : (match h[m]? with
        | some (.lst l) => (opts (toPyR h n) l).map PyData.list
        | some (.dct l) => (opts (toPyR h n) (l.map (·.2))).map fun ps => .dict ((l.map fun p => keyP p.1).zip ps)
        | _ => none) = some p := e
      split at e'
      · rename_i l hl
        obtain ⟨ps, h1, h2⟩ := Option.map_eq_some_iff.mp e'
        subst h2
        obtain ⟨vs, c1, q1⟩ := R.cells m _ a hl hx
        obtain ⟨its, r1, ⟨o, g1, g2, g3, g4, g5⟩, _⟩ := I.list (.of c1)
        obtain ⟨as, a1, a2⟩ := rd_all (fun d p v u => rd_of I R n d p v u) h1 q1 r1
        exact ⟨a :: as, .list g2 g3 g5 (by simpa using a1), fun z => by simp [noLst] at z⟩
      · rename_i l hl
        obtain ⟨ps, h1, h2⟩ := Option.map_eq_some_iff.mp e'
        subst h2
        obtain ⟨kvs, c1, k1, q1⟩ := R.cells m _ a hl hx
        obtain ⟨hz, hsys, vs, r1, dd⟩ : kvs.length ≤ sizeLine ∧ (a == sysModules) = false ∧ ∃ vs, KV kvs vs ∧ s.heap.DictOf (mixKind X.prog X.w) a vs := I.hok a _ c1
        obtain ⟨as, a1, a2⟩ := rd_all (fun d p v u => rd_of I R n d p v u) h1 q1 (kv_vals r1)
        have ek : (l.map fun p => keyP p.1) = kvs.map fun p => keyP p.1 := by
          have e1 : (l.map fun p => keyP p.1) = (l.map (·.1)).map keyP := by rw [List.map_map]; rfl
          rw [e1, ← k1, List.map_map]
          rfl
        rw [ek]
        refine ⟨a :: as, PyProof.V.reads_dictOf (keys_read X.prog X.w s.heap) dd (pairs_rd r1 a1), fun z b hb => ?_⟩
        rcases List.mem_cons.mp hb with rfl | hb
        · exact hsys
        · refine a2 (noLsts_k (kvs.map fun p => keyP p.1) ps (by simpa [noLst] using z) ?_) b hb
          have l1 := opts_len h1
          have l2 := congrArg List.length k1
          simp only [List.length_map] at l1 l2 ⊢
          omega
      · cases e'
    | opq v => cases e
    | adr a => cases e
    | ty n => cases e
    | scr hx =>
      cases rv
      cases e
      obtain ⟨its, r1, ⟨o, g1, g2, g3, g4, g5⟩, _⟩ := I.list hx.sq
      obtain ⟨as, a1⟩ := ints_rd (s := s) _ _ r1
      exact ⟨_ :: as, .list g2 g3 g5 (by simpa using a1), fun z => by simp [noLst] at z⟩
end
mutual
/-- data whose repr is told: where a dict lies, no list beside it in the same item -/
def okT : PyData → Bool
  | .tuple ps => (!(PyData.tuple ps).hasDict || noLst (.tuple ps)) || okTs ps
  | .list ps => !(PyData.list ps).hasDict
  | .dict kvs => noLst (.dict kvs)
  | _ => true
def okTs : List PyData → Bool
  | [] => true
  | p :: ps => okT p && okTs ps
end
mutual
/-- item by item -/
inductive RdS (h : Heap) : Value → PyData → Prop
  | leaf {u : Value} {p : PyData} {as : List Addr} : Reads h u p as → (p.hasDict = true → sysModules ∉ as) → RdS h u p
  | tup {a : Addr} {o : Obj} {us : List Value} {xs : List PyData} {m : Nat} {as : List Addr} : h.get? a = some o → o.cls = .type "tuple" → o.data = .seq us.toArray m → Reads h (.ref a) (.tuple xs) as → RdSs h us xs → RdS h (.ref a) (.tuple xs)
inductive RdSs (h : Heap) : List Value → List PyData → Prop
  | nil : RdSs h [] []
  | cons {u : Value} {p : PyData} {us : List Value} {ps : List PyData} : RdS h u p → RdSs h us ps → RdSs h (u :: us) (p :: ps)
end
theorem okT_leaf {p : PyData} (h : okT p = true) : (p.hasDict = true → noLst p = true) ∨ ∃ ps, p = .tuple ps ∧ okTs ps = true := by
  cases p with
  | tuple ps =>
    have h' : (!(PyData.tuple ps).hasDict || noLst (.tuple ps)) = true ∨ okTs ps = true := by simpa [okT] using h
    rcases h' with h' | h'
    · refine .inl fun e => ?_
      rw [e] at h'
      simpa using h'
    · exact .inr ⟨ps, rfl, h'⟩
  | list ps =>
    refine .inl fun e => ?_
    have h' : (!(PyData.list ps).hasDict) = true := h
    rw [e] at h'; cases h'
  | dict kvs => exact .inl fun _ => h
  | _ => exact .inl fun _ => rfl
theorem rdSs_of {h : Heap} {X : Cx} {H : Hp} {ι : List Addr} {f : D → Option PyData} (hf : ∀ d p v u, f d = some p → VR X.K ι H v d → RelV v u → okT p = true → RdS h u p) : ∀ {l : List D} {ps : List PyData} {vs : List V} {us : List Value}, opts f l = some ps → VRs X.K ι H vs l → Vals vs us → okTs ps = true → RdSs h us ps
  | [], _, _, _, e, r, rv, _ => by
    cases r; cases e; cases rv
    exact .nil
  | d :: l, _, _, _, e, r, rv, z => by
    unfold opts at e
    split at e
    · rename_i p q h1 h2
      cases e
      have z' : (okT p && okTs q) = true := z
      obtain ⟨z1, z2⟩ := Bool.and_eq_true_iff.mp z'
      cases r with
      | cons r1 r2 =>
        cases rv with
        | cons v1 v2 => exact .cons (hf _ _ _ _ h1 r1 v1 z1) (rdSs_of hf h2 r2 v2 z2)
    · cases e
theorem rdS_of {X : Cx} {pins : List (Addr × Obj)} {σ : L2.St} {H : Hp} {s : Shared} (I : Inv X pins σ H s) {ι : List Addr} {h : Hq} (R : HR X.K ι h H) : ∀ (n : Nat) (d : D) (p : PyData) (v : V) (u : Value), toPyR h n d = some p → VR X.K ι H v d → RelV v u → okT p = true → RdS s.heap u p
  | 0, _, _, _, _, e, _, _, _ => by cases e
  | n + 1, d, p, v, u, e, r, rv, ok => by
    rcases okT_leaf ok with hl | ⟨ps, rfl, oks⟩
    · obtain ⟨as, a1, a2⟩ := rd_of I R (n + 1) d p v u e r rv
      exact .leaf a1 fun hd hm => by
        have := a2 (hl hd) _ hm
        simp at this
    · cases r with
      | tup hx qd =>
        rename_i a vs l
        cases rv
        have e' : (opts (toPyR h n) l).map PyData.tuple = some (.tuple ps) := e
        obtain ⟨ps', h1, h2⟩ := Option.map_eq_some_iff.mp e'
        cases h2
        obtain ⟨its, r1, ⟨o, g1, g2, m, g3⟩, _⟩ := I.tuple hx.sq
        obtain ⟨as, a1, _⟩ := rd_of I R (n + 1) (.tup l) (.tuple ps) (.ref a) (.ref a) e (.tup hx qd) rfl
        exact .tup g1 g2 g3 a1 (rdSs_of (fun d p v u e1 r1 v1 z => rdS_of I R n d p v u e1 r1 v1 z) h1 qd r1 oks)
      | ref hx =>
        rename_i a m
        exfalso
        have e' : (match h[m]? with
          | some (.lst l) => (opts (toPyR h n) l).map PyData.list
          | some (.dct l) => (opts (toPyR h n) (l.map (·.2))).map fun ps => .dict ((l.map fun p => keyP p.1).zip ps)
          | _ => none) = some (.tuple ps) := e
        split at e'
        · obtain ⟨_, _, z⟩ := Option.map_eq_some_iff.mp e'; cases z
        · obtain ⟨_, _, z⟩ := Option.map_eq_some_iff.mp e'; cases z
        · cases e'
      | scr hx => cases e
      | non => cases e
      | bl b => cases e
      | int i => cases e
      | str x => cases e
      | opq v => cases e
      | adr a => cases e
      | ty n => cases e
mutual
theorem RdS.repr {P : Program} {w : World} {h : Heap} : ∀ {u : Value} {p : PyData}, RdS h u p → p.showable = true → p.shown.length ≤ sizeLine → ∃ bs, ReadAtMost h p.depth bs ∧ ReprK P w bs h p.depth u p.shown
  | _, _, .leaf r hd, hs, hz => ReprK.of_reads r hs hd hz
  | _, _, .tup (a := a) (us := us) (xs := xs) g1 g2 g3 r q, hs, hz => by
    have hz' : (tupleText (PyData.shownAll xs)).length ≤ sizeLine := by simpa only [PyData.shown] using hz
    obtain ⟨bs, hb, hk⟩ := RdSs.repr (P := P) (w := w) q (by simpa [PyData.showable] using hs) (fun t ht => Nat.le_trans (tupleText_mem_le ht) hz')
    have hna : a ∉ bs := not_mem_of_deeper r (by simp only [PyData.depth]; omega) hb
    refine ⟨a :: bs, ReadAtMost.cons r (by simp only [PyData.depth]; omega) hb, ?_⟩
    simp only [PyData.depth, PyData.shown]
    exact ReprK.tuple g1 g2 g3 hna (by simpa using hk)
theorem RdSs.repr {P : Program} {w : World} {h : Heap} : ∀ {us : List Value} {ps : List PyData}, RdSs h us ps → PyData.showableAll ps = true → (∀ t ∈ PyData.shownAll ps, t.length ≤ sizeLine) →
    ∃ bs, ReadAtMost h (PyData.depthAll ps) bs ∧ ReprAllK P w bs h (PyData.depthAll ps) us (PyData.shownAll ps)
  | _, _, .nil, _, _ => ⟨[], fun b z => (nomatch z), by simp only [PyData.shownAll]; exact .nil⟩
  | _, _, .cons (p := p) (ps := ps) r1 r2, hs, hz => by
    have hs' : p.showable = true ∧ PyData.showableAll ps = true := by simpa [PyData.showableAll] using hs
    obtain ⟨b1, hb1, k1⟩ := RdS.repr (P := P) (w := w) r1 hs'.1 (hz _ (by simp only [PyData.shownAll]; exact List.mem_cons_self ..))
    obtain ⟨b2, hb2, k2⟩ := RdSs.repr (P := P) (w := w) r2 hs'.2 (fun t ht => hz t (by simp only [PyData.shownAll]; exact List.mem_cons_of_mem _ ht))
    refine ⟨b1 ++ b2, ?_, ?_⟩
    · intro b hm
      simp only [PyData.depthAll]
      rcases List.mem_append.mp hm with hm | hm
      · obtain ⟨d', as', r', hd'⟩ := hb1 b hm
        exact ⟨d', as', r', Nat.le_trans hd' (Nat.le_max_left _ _)⟩
      · obtain ⟨d', as', r', hd'⟩ := hb2 b hm
        exact ⟨d', as', r', Nat.le_trans hd' (Nat.le_max_right _ _)⟩
    · simp only [PyData.depthAll, PyData.shownAll]
      exact .cons ((k1.more fun b hb => List.mem_append_left _ hb).level_le (Nat.le_max_left _ _)) (k2.more_le (fun b hb => List.mem_append_right _ hb) (Nat.le_max_right _ _))
end
theorem RdS.reads {h : Heap} : ∀ {u : Value} {p : PyData}, RdS h u p → ∃ as, Reads h u p as
  | _, _, .leaf r _ => ⟨_, r⟩
  | _, _, .tup _ _ _ r _ => ⟨_, r⟩
theorem RdSs.reads {h : Heap} : ∀ {us : List Value} {ps : List PyData}, RdSs h us ps → ∃ as, ReadsAll h us ps as
  | _, _, .nil => ⟨[], .nil⟩
  | _, _, .cons r1 r2 => by
    obtain ⟨as, a1⟩ := RdS.reads r1
    obtain ⟨bs, b1⟩ := RdSs.reads r2
    exact ⟨_, .cons a1 b1⟩
end MI
end
section
set_option Elab.async false
set_option linter.all false
set_option autoImplicit false
set_option maxRecDepth 100000
set_option maxHeartbeats 4000000
namespace MI
open PySem L2 PyProof.Rows HT
/-- a tuple (or a list) the other way about -/
def dBack (x : D) (h : Hq) : Rs D := match x with
  | .tup l => .ok (.tup l.reverse) h
  | .ref m => match lstAt h m with
    | some l => .ok (.ref h.length) (h ++ [.lst l.reverse])
    | none => .no
  | _ => .no
end MI
end
section
set_option Elab.async false
set_option linter.all false
set_option autoImplicit false
set_option maxRecDepth 100000
set_option maxHeartbeats 4000000
namespace MI
open PySem L2
open PyProof.Rows (envOfC)
def wipeF (fr : Fr) : List Nat → Fr
  | [] => fr
  | v :: vs => (wipeF fr vs).set v none
theorem fr_wipe {K : PySem.W.Frag} {ι : List Addr} {H : Hp} {σ : L2.St} {fr : Fr} (F : FR K ι H σ fr) : ∀ vs : List Nat, FR K ι H (L2.wipe σ vs) (wipeF fr vs)
  | [] => F
  | v :: vs => (fr_wipe F vs).wipe v
theorem wipe_get (σ : L2.St) : ∀ (vs : List Nat) (j : Nat), (L2.wipe σ vs)[j]? = if j ∈ vs then σ[j]?.map (fun _ => none) else σ[j]?
  | [], j => by simp [L2.wipe]
  | v :: vs, j => by
    have e : L2.wipe σ (v :: vs) = (L2.wipe σ vs).set v none := rfl
    rw [e, List.getElem?_set]
    have ih := wipe_get σ vs j
    by_cases hj : v = j
    · subst hj
      rw [if_pos rfl, if_pos List.mem_cons_self, L2.wipe_length]
      by_cases hl : v < σ.length
      · rw [if_pos hl, List.getElem?_eq_getElem hl]; rfl
      · rw [if_neg hl, List.getElem?_eq_none (by omega)]; rfl
    · rw [if_neg hj, ih]
      by_cases hm : j ∈ vs
      · rw [if_pos hm, if_pos (List.mem_cons_of_mem _ hm)]
      · rw [if_neg hm, if_neg (by simp [hm]; omega)]
theorem wipe_set {σ : L2.St} {vs : List Nat} {i : Nat} {x : Option V} (hi : i ∈ vs) : L2.wipe (σ.set i x) vs = L2.wipe σ vs := by
  refine List.ext_getElem? fun j => ?_
  rw [wipe_get, wipe_get]
  by_cases hj : j ∈ vs
  · rw [if_pos hj, if_pos hj, List.getElem?_set]
    by_cases hij : i = j
    · subst hij
      by_cases hl : i < σ.length
      · simp [hl]
      · simp [hl]
    · simp [hij]
  · rw [if_neg hj, if_neg hj, List.getElem?_set_ne (fun z : i = j => hj (by rw [← z]; exact hi))]
theorem wipe_wipe (σ : L2.St) (vs : List Nat) : L2.wipe (L2.wipe σ vs) vs = L2.wipe σ vs := by
  refine List.ext_getElem? fun j => ?_
  rw [wipe_get, wipe_get]
  by_cases hj : j ∈ vs
  · rw [if_pos hj, if_pos hj]
    cases σ[j]? <;> rfl
  · rw [if_neg hj, if_neg hj]
/-- a comprehension's turns: its list grows at the cell m -/
def picks (m : Nat) (get : Nat → Hq → Option D) (fin : Nat → Hq → Bool) (t : Tg) (c : Sb) (e : Sx) (fr : Fr) : Nat → Nat → Hq → Rs D
  | 0, i, h => if fin i h = true then .ok (.ref m) h else .no
  | n + 1, i, h => match get i h with
    | none => .no
    | some d => match t d fr with
      | none => .no
      | some fr1 => match c fr1 h with
        | .ok true h1 => match e fr1 h1 with
          | .ok y h2 => match lstAt h2 m with
            | some acc => if small (acc.length + 1) = true then picks m get fin t c e fr n (i + 1) (h2.set m (.lst (acc ++ [y]))) else .no
            | none => .no
          | _ => .no
        | .ok false h1 => picks m get fin t c e fr n (i + 1) h1
        | _ => .no
def eComp (src : Si) (own : List Nat) (t : Tg) (c : Sb) (e : Sx) : Sx := fun fr h => (src fr h).bind fun S h1 => picks h1.length S.get S.fin t c e (wipeF fr own) S.n 0 (h1 ++ [.lst []])
def cYes : Sb := fun _ h => .ok true h
abbrev E00 : XK := fun _ _ _ => False
section
variable {K : PySem.W.Frag} {mg : Str → Option Value} {Q : VK}
theorem comp_in {ι : List Addr} {H1 : Hp} {J : It} {get : Nat → Hq → Option D} {fin : Nat → Hq → Bool} {t : Tg} {c : Sb} {e : Sx} {gg : TG} {own : List Nat} {E : XK} (w : Wk K ι H1 J get fin) (hg : TgS K gg t)
    (hw : ∀ (v : V) (σ : L2.St) (H : Hp) (Q : L2.St → Hp → Prop), gg v (L2.wipe σ own) H Q → gg v (L2.wipe σ own) H fun σ2 H2 => L2.wipe σ2 own = L2.wipe σ own ∧ Q σ2 H2)
    {n : Nat} {h0 : Hq} {fr : Fr} {σ : L2.St} (R0 : HR K ι h0 H1) (F0 : FR K ι H1 σ fr)
    (P0 : PoV K mg ι H1 Q E (picks h0.length get fin t c e (wipeF fr own) n 0 (h0 ++ [.lst []]))) : ∀ Dd, H1 Dd = none → ∃ W : Nat → Nat → Hp → Prop, (∃ m, W 0 m (upd H1 Dd (.lst []))) ∧ ∀ i m H, W i m H →
        (J.stop i H ∧ Q (.ref Dd) H) ∨ (J.go i H ∧ ∃ Nx : Hp → Prop, (∀ H', Nx H' → ∃ m', m' < m ∧ W (i + 1) m' H') ∧ ∀ x H', J.yld i H x H' → gg x (L2.wipe σ own) H' fun σ2 H2 => L2.wipe σ2 own = L2.wipe σ own ∧ tMb K mg E00 c σ2 H2 fun b H3 =>
          if b = true then tM K mg E00 e σ2 H3 fun y H4 => ∃ acc, H4 Dd = some (.lst acc) ∧ acc.length < sizeLine ∧ Nx (upd H4 Dd (.lst (acc ++ [y]))) else Nx H3) := by
  intro Dd nD
  obtain ⟨eD, RD⟩ := R0.new nD (o := .lst []) (c := .lst []) fun ι' H' _ q => ⟨[], q, .nil⟩
  have hD : (ι ++ [Dd])[h0.length]? = some Dd := ref_new R0 Dd
  refine ⟨fun i m H => ∃ ι1 h, Ext (ι ++ [Dd]) (upd H1 Dd (.lst [])) ι1 H ∧ HR K ι1 h H ∧ PoV K mg ι1 H Q E (picks h0.length get fin t c e (wipeF fr own) m i h), ⟨n, _, _, Ext.refl _ _, RD, Po.ext eD P0⟩, ?_⟩
  rintro i m H ⟨ι1, h, e1, R, P⟩
  have eAll : Ext ι H1 ι1 H := eD.trans e1
  cases m with
  | zero =>
    unfold picks at P
    split at P
    · rename_i hf
      exact .inl ⟨w.stop i ι1 h H eAll R hf, P ι1 H _ (Ext.refl _ _) R (.ref (e1.get hD))⟩
    · exact P.elim
  | succ m =>
    unfold picks at P
    split at P
    · exact P.elim
    · rename_i _ d hd
      split at P
      · exact P.elim
      · rename_i _ fr1 ht
        obtain ⟨g1, g2⟩ := w.go i ι1 h H d eAll R hd
        refine .inr ⟨g1, fun H' => ∃ ι2 h2, Ext (ι ++ [Dd]) (upd H1 Dd (.lst [])) ι2 H' ∧ HR K ι2 h2 H' ∧ PoV K mg ι2 H' Q E (picks h0.length get fin t c e (wipeF fr own) m (i + 1) h2), fun H' q => ⟨m, Nat.lt_succ_self m, q⟩, fun x H' y => ?_⟩
        obtain ⟨ι2, e2, R2, r2⟩ := g2 x H' y
        have F2 : FR K ι2 H' (L2.wipe σ own) (wipeF fr own) := (fr_wipe F0 own).ext (eAll.trans e2)
        refine hw x σ H' _ (hg ι2 h H' x d _ _ fr1 _ R2 r2 F2 ht fun σ2 F3 => ?_)
        refine ⟨ι2, h, fr1, R2, F3, ?_⟩
        split at P
        · rename_i h3 hc
          rw [hc]
          intro ι3 H3 b e3 R3 hb
          have hb' : b = true := hb
          subst hb'
          rw [if_pos rfl]
          refine ⟨ι3, h3, fr1, R3, F3.ext e3, ?_⟩
          split at P
          · rename_i y' h4 he
            split at P
            · rename_i _ acc hl
              split at P
              · rename_i hz
                rw [he]
                intro ι4 H4 v e4 R4 rv
                have eF : Ext (ι ++ [Dd]) (upd H1 Dd (.lst [])) ι4 H4 := ((e1.trans e2).trans e3).trans e4
                have hx := eF.get hD
                obtain ⟨vs, c1, q1⟩ := R4.lst hx hl
                have hz' := small_le hz
                obtain ⟨e5, R5⟩ := R4.put (lstAt_some hl) hx (o := .lst (vs ++ [v])) (c := .lst (acc ++ [y'])) fun H' e z => ⟨_, z, (q1.append (.cons rv .nil)).ext e⟩
                exact ⟨vs, c1, by rw [q1.length]; omega, ι4, _, eF.trans e5, R5, Po.ext (((e2.trans e3).trans e4).trans e5) P⟩
              · exact P.elim
            · exact P.elim
          · exact P.elim
        · rename_i h3 hc
          rw [hc]
          intro ι3 H3 b e3 R3 hb
          have hb' : b = false := hb
          subst hb'
          rw [if_neg Bool.false_ne_true]
          exact ⟨ι3, h3, (e1.trans e2).trans e3, R3, Po.ext (e2.trans e3) P⟩
        · exact P.elim
end
/-- a comprehension's target, of names of its own -/
structure PMo' (X : Cx) (scope : Scope) (tg : Expr) (t : Tg) (own : List Nat) : Prop where
  ex : ∃ g, (∀ (s : Shared) (H : Hp) (C : Addr) (cl : List (Str × Addr)) (fp : List Addr), PG (X.blk s H scope (compEnvC scope cl C X.env) fp) tg g) ∧ TgS X.K g t ∧
    ∀ (v : V) (σ : L2.St) (H : Hp) (Q : L2.St → Hp → Prop), g v (L2.wipe σ own) H Q → g v (L2.wipe σ own) H fun σ2 H2 => L2.wipe σ2 own = L2.wipe σ own ∧ Q σ2 H2
section
variable {X : Cx} {E : XK} {scope : Scope} {pos : Pos}
theorem m_oN (i : Nat) {x : Str} {own : List Nat} (nd : X.N.Nodup) (hi : X.N[i]? = some x := by rfl) (ho : i ∈ own := by decide)
    (hx : ∀ (C : Addr) (cl : List (Str × Addr)), Loc (compEnvC scope cl C X.env).scope x := by intro _ _; first | exact Or.inl rfl | exact Or.inr rfl)
    (hf : ∀ (C : Addr) (cl : List (Str × Addr)), (scope.names.lookup x == some NameKind.cell) = true ∨ (compEnvC scope cl C X.env).scope.names.lookup x = some .local := by intro _ _; first | exact .inl rfl | exact .inr rfl) :
    PMo' X scope (.Name x pos) (tgN i) own :=
  ⟨gName i, fun s H C cl fp => pg_name (X := X.blk s H scope (compEnvC scope cl C X.env) fp) nd hi (hx C cl) (hf C cl), tgN_s i, fun v σ H Q q => ⟨by rw [wipe_set ho, wipe_wipe], q⟩⟩
variable {elt tg iter : Expr} {src : Si} {t : Tg} {c : Sb} {fe : Sx} {own : List (Str × Nat)}
/-- the tests: none, one -/
def PMt (X : Cx) (scope : Scope) (ifs : List Expr) (c : Sb) : Prop := ∀ (s : Shared) (H : Hp) (C : Addr) (cl : List (Str × Addr)) (fp : List Addr), PTs (X.blk s H scope (compEnvC scope cl C X.env) fp) ifs (tMb X.K X.mg E00 c)
theorem m_t0 : PMt X scope [] cYes := fun s H C cl fp => ⟨fun pins s σ H Q I ⟨ι, h, fr, R, F, P⟩ => pts_nil.run pins s σ H Q I (P ι H true (Ext.refl _ _) R rfl)⟩
theorem tLc_in {ifs : List Expr} {gg : TG} (hg : TgS X.K gg t) (hw : ∀ (v : V) (σ : L2.St) (H : Hp) (Q : L2.St → Hp → Prop), gg v (L2.wipe σ (own.map (·.2))) H Q → gg v (L2.wipe σ (own.map (·.2))) H fun σ2 H2 => L2.wipe σ2 (own.map (·.2)) = L2.wipe σ (own.map (·.2)) ∧ Q σ2 H2)
    {σ : L2.St} {H : Hp} {Q : VK} (q : tM X.K X.mg E (eComp src (own.map (·.2)) t c fe) σ H Q) : tLc (tMi X.K X.mg E src) gg (tMb X.K X.mg E00 c) (tM X.K X.mg E00 fe) (own.map (·.2)) σ H Q := by
  obtain ⟨ι, h, fr, R, F, P⟩ := q
  refine ⟨ι, h, fr, R, F, Po.mono ?_ (Po.bind P)⟩
  rintro J H1 ⟨i1, h1, S, e1, R1, w, P1⟩
  exact comp_in w hg hw R1 (F.ext e1) P1
/-- a comprehension as a worth -/
theorem m_comp {ifs : List Expr} (wh : Wh X E) (hi : PMi X E tg iter src) (ok : BlkOk X.N X.env.scope scope own) (ho : PMo' X scope tg t (own.map (·.2))) (ht : PMt X scope ifs c)
    (he : ∀ (s : Shared) (H : Hp) (C : Addr) (cl : List (Str × Addr)) (fp : List Addr), PM (X.blk s H scope (compEnvC scope cl C X.env) fp) E00 elt fe) (hs : ∀ x, foldedSetIterable iter X.env x = pure x := by intro _; rfl) :
    PM X E (.ListComp elt [⟨tg, iter, ifs, 0⟩] scope pos) (eComp src (own.map (·.2)) t c fe) := by
  obtain ⟨g, hg, hgs, hw⟩ := ho.ex
  exact pe_imp (pe_lc wh.calm wh.nd hi ok hg ht he hs) fun σ H Q q => tLc_in (ifs := ifs) hgs hw q
end
section
variable {X : Cx} {E : XK} {k : Nat} {f : Addr} {fd : FuncData} {ps ks : List Str} {sem : Sf} {x : Str} {p pos kpos : Pos} {a : Expr} {as : List Expr} {fs fk : Sa} {kws : List Keyword} {nm : Option Str} {fa : Sx}
/-- f(a, .., k = b, ..): the written arguments, then the keywords' (in the parameters' order) -/
def eCallK (n : Nat) (sem : Sf) (f g : Sa) : Sx := fun fr h => (f fr h).bind fun ds h1 => (g fr h1).bind fun es h2 => if (ds ++ es).length = n then sem (ds ++ es) h2 else .no
end
end MI
end
section
set_option Elab.async false
set_option linter.all false
set_option autoImplicit false
set_option maxRecDepth 100000
set_option maxHeartbeats 4000000
namespace MI
open PySem L2
open PyProof.Rows (envOfC)
section
variable {X : Cx} {E : XK} {x : Str} {pos : Pos}
theorem m_cls {C : Addr} (hm : X.mg x = some (.ref C)) (hg : Gl X x := by rfl) (hd : (x == ("__debug__" : Str)) = false := by decide) : PM X E (.Name x pos) (eK (.adr C)) :=
  pe_imp (pe_glob (v := V.ref C) hg hm rfl hd) fun σ H Q ⟨ι, h, fr, R, F, P⟩ => P ι H _ (Ext.refl _ _) R (.adr C)
theorem m_bty {T : String} (hm : X.mg x = none) (hv : bootBuiltins x = some (.type T)) (hg : Gl X x := by rfl) (hn : x ≠ "__name__" := by decide) (hd : (x == ("__debug__" : Str)) = false := by decide) : PM X E (.Name x pos) (eK (.ty T)) :=
  pe_imp (pe_bltn (v := V.ty T) hg hm hv rfl hn hd) fun σ H Q ⟨ι, h, fr, R, F, P⟩ => P ι H _ (Ext.refl _ _) R (.ty T)
end
/-- the class that a value is -/
def clsD : D → Option Value
  | .adr C => some (.ref C)
  | .ty n => some (.type n)
  | _ => none
theorem cls_rel {K : PySem.W.Frag} {ι : List Addr} {H : Hp} {v : V} {d : D} {c : Value} (r : VR K ι H v d) (e : clsD d = some c) : ClsV v c := by
  cases r <;> cases e
  · exact .own _
  · exact .ty _
theorem cls_rels {K : PySem.W.Frag} {ι : List Addr} {H : Hp} : ∀ {ds : List D} {vs : List V} {cs : List Value}, VRs K ι H vs ds → opts clsD ds = some cs → Paired ClsV vs cs
  | [], _, _, r, e => by cases r; cases e; exact .nil
  | d :: ds, _, _, r, e => by
    unfold opts at e
    split at e
    · rename_i p q h1 h2
      cases e
      cases r with
      | cons r1 r2 => exact .cons (cls_rel r1 h1) (cls_rels r2 h2)
    · cases e
def SR.less (i : Nat) : SR → SR
  | .nx fr h => .nx (fr.set i none) h
  | .bk fr h => .bk (fr.set i none) h
  | .ct fr h => .ct (fr.set i none) h
  | r => r
end MI
end
section
set_option Elab.async false
set_option linter.all false
set_option autoImplicit false
set_option maxRecDepth 100000
set_option maxHeartbeats 4000000
namespace MI
open PySem L2
open PyProof.Rows (envOfC)
open PyProof.Rows (IntsAre)
open PyProof.Rows (AllBare)
section
variable {P : Program} {w : World} {K : PySem.W.Frag} {mg mb : Str → Option Value} {k : Nat} {fa a : Addr} {fd : FuncData} {x : Str} {sem : Sf} {s1 : Shared} {vs : List Value} {ns : List Int}
/-- the call of the law, where what is tracked at its entry is the script or nothing -/
theorem law_go {H : Hp} (KX : K.In s1.heap) (hns : s1.heap.Ns mainGlobals mg) (hb : s1.heap.Ns builtinsNs mb) (hbb : ∀ y : Str, y ≠ "__name__" → mb y = bootBuiltins y) (hlim : s1.heap.NoLimit) (hg : s1.gens = #[])
    (ha : s1.heap.get? a = some { cls := .type "list", data := .seq vs.toArray }) (hr : Room k callerA) (F : ∀ base : Heap, K.In base → base.Ns mainGlobals mg → FnG P w K mg base k fa fd [x] sem) (hbind : ∀ (s : Shared) (u : Value), BindsTo s fd ⟨[u], []⟩ [(x, u)])
    (hs : ∃ h', sem [.scr ns] [] = .ok (.bl true) h') (only : ∀ b, H b = none ∨ ∃ o xs, H b = some (.frz o (.lst xs))) (scr : Scr K H a ns) (hok : HOk P w H s1.heap) (at_ : ∀ b, H b ≠ none → b = a) (off : H a ≠ none → K.lookup a = none) :
    codeAny (model P w) callerA (.call (.ref fa) ⟨[.ref a], []⟩) (fun r s' => r = .ok (.ret (.bool true)) ∧ OldK s1.heap s'.heap ∧ s'.os = s1.os ∧ AllBare s'.gens) s1 := by
  have seen : ∀ {b : Addr} {o : Obj}, s1.heap.get? b = some o → H b = none → (hidT s1.heap H).get? b = some o := fun e n => hidT_get e n
  have dicts : ∀ {b : Addr} {o : Obj} {es : Array DictEntry} {ep : Nat}, s1.heap.get? b = some o → o.data = .dict es ep → H b = none := by
    intro b o es ep e d
    by_cases q : H b = none
    · exact q
    · have e' : b = a := at_ b q
      subst e'
      rw [ha] at e
      cases e
      cases d
  have space : ∀ {b : Addr} {m : Str → Option Value}, s1.heap.Ns b m → (hidT s1.heap H).Ns b m := by
    rintro b m ⟨o, es, ep, e, d, r⟩
    exact ⟨o, es, ep, seen e (dicts e d), d, r⟩
  have kin : K.In (hidT s1.heap H) := by
    intro b o e
    refine seen (KX b o e) ?_
    by_cases q : H b = none
    · exact q
    · have e' : b = a := at_ b q
      subst e'
      rw [off q] at e
      cases e
  have md : Mod K mg (hidT s1.heap H) := by
    obtain ⟨mc, c1, c2⟩ := hlim
    exact ⟨kin, space hns, ⟨mb, space hb, hbb⟩, ⟨mc, space c1, c2⟩⟩
  have none0 : ∀ b : Addr, b ∉ ([] : List Addr) := fun b z => (nomatch z)
  have e0 : Env0 P w K mg (hidT s1.heap H) callerA [] s1 H := ⟨rfl, md, fun b o e => of_hidT e, Nat.le_of_eq (hidT_size _ _), trivial, fun b hb => absurd (show b ∈ ([] : List Addr) from hb) (none0 b), hok, .of_eq hg⟩
  obtain ⟨h', hs⟩ := hs
  have P1 : PoV K mg [] H (fun v _ => v = .bl true) (fun _ _ _ => False) (sem [.scr ns] []) := by
    rw [hs]
    intro ι' H' v e1 R1 r1
    cases r1
    rfl
  have R0 : HR K [] [] H := ⟨rfl, List.nodup_nil, fun n c a h1 => by simp at h1⟩
  refine codeAny_mono ((F _ kin (space hns)).go callerA [] s1 H ⟨[.ref a], []⟩ [.ref a] [.ref a] [.scr ns] [] [] (fun v _ => v = .bl true) (fun _ _ _ => False) hr rfl e0 (hbind s1 (.ref a)) (.cons rfl .nil) R0 (.cons (.scr scr) .nil) rfl P1) ?_
  intro r s' q
  cases r with
  | error e =>
    obtain ⟨_, _, _, _, _, _, _, _, _, _, _, _, z⟩ := q
    exact z.elim
  | ok fl =>
    cases fl with
    | next => exact q.elim
    | brk => exact q.elim
    | cont => exact q.elim
    | ret u =>
      obtain ⟨v, H', os, bare, un, hok2, rv, ev⟩ := q
      have ev' : v = .bl true := ev
      subst ev'
      cases (show u = Value.bool true from rv)
      refine ⟨rfl, OldK.of_keep fun b o e => ?_, os, bare⟩
      rcases only b with z | ⟨ob, xs, z⟩
      · exact un.keep b o e z (none0 b) (none0 b)
      · have z2 := un.frzs b ob _ z
        obtain ⟨e1, _⟩ := hok b _ z
        obtain ⟨e2, _⟩ := hok2 b _ z2
        rw [e] at e1
        cases e1
        exact e2
theorem law_at (KX : K.In s1.heap) (hns : s1.heap.Ns mainGlobals mg) (hb : s1.heap.Ns builtinsNs mb) (hbb : ∀ y : Str, y ≠ "__name__" → mb y = bootBuiltins y) (hlim : s1.heap.NoLimit) (hg : s1.gens = #[])
    (ha : s1.heap.get? a = some { cls := .type "list", data := .seq vs.toArray }) (hi : IntsAre vs ns) (hl : ns.length ≤ sizeLine) (hr : Room k callerA) (F : ∀ base : Heap, K.In base → base.Ns mainGlobals mg → FnG P w K mg base k fa fd [x] sem)
    (hbind : ∀ (s : Shared) (u : Value), BindsTo s fd ⟨[u], []⟩ [(x, u)]) (hs : ∃ h', sem [.scr ns] [] = .ok (.bl true) h') :
    codeAny (model P w) callerA (.call (.ref fa) ⟨[.ref a], []⟩) (fun r s' => r = .ok (.ret (.bool true)) ∧ OldK s1.heap s'.heap ∧ s'.os = s1.os ∧ AllBare s'.gens) s1 := by
  have rv := vals_ints hi
  cases hk : K.lookup a with
  | some o =>
    have e := KX a o hk
    rw [ha] at e
    cases e
    refine law_go (H := fun _ => none) KX hns hb hbb hlim hg ha hr F hbind hs (fun _ => .inl rfl) (.inr ⟨_, vs.toArray, _, hk, rfl, rfl, rfl, by rw [List.size_toArray, hi.length]; exact hl, by simpa using rv⟩) (fun b u z => ?_) (fun b z => absurd rfl z) fun z => absurd rfl z
    have z' : (none : Option HO) = some u := z
    cases z'
  | none =>
    refine law_go (H := fun b => if b = a then some (.frz { cls := .type "list", data := .seq vs.toArray } (.lst (ns.map V.int))) else none) KX hns hb hbb hlim hg ha hr F hbind hs (fun b => ?_) (.inl ⟨_, if_pos rfl⟩) (fun b u z => ?_) (fun b z => ?_) fun _ => hk
    · by_cases q : b = a
      · exact .inr ⟨_, _, if_pos q⟩
      · exact .inl (if_neg q)
    · by_cases q : b = a
      · have z' := (if_pos q).symm.trans z
        cases z'
        subst q
        exact ⟨ha, by rw [List.length_map]; exact hl, vs, _, rv, ha⟩
      · have z' := (if_neg q).symm.trans z
        cases z'
    · by_cases q : b = a
      · exact q
      · exact absurd (if_neg q) z
end
/-- the goal that k_head leaves, from the law's worth -/
theorem walkG {l : PySem.W.OpenLaw} {n k : Nat} {q : Program} {loose : List Str} {XP : (Str → Option Value) → Heap → Prop} {YP : World → Heap → Prop} {d : DefRec} {K : Params → PySem.W.Frag} {sem : Sf} {x : Str}
    (hn : l.most = some n) (hn2 : n ≤ sizeLine) (hdf : d.params.defaults = []) (hr : Room k callerA) (hY : ∀ (w : World) (h : Heap), YP w h → (K w.params).In h)
    (F : ∀ (w : World) (mg : Str → Option Value) (fa : Addr) (h : Heap), (K w.params).In h → h.Ns mainGlobals mg → mg d.name = some (.ref fa) →
      ∃ fd : FuncData, (∀ (s : Shared) (u : Value), BindsTo s fd ⟨[u], []⟩ [(x, u)]) ∧ ∀ base : Heap, (K w.params).In base → base.Ns mainGlobals mg → FnG l.prog w (K w.params) mg base k fa fd [x] sem)
    (hs : ∀ ns : List Int, ns.length ≤ n → ∃ h', sem [.scr ns] [] = .ok (.bl true) h') : PySem.W.WalkO q loose XP YP l.row.toRowW d [] (fun f vs => PySem.call f vs) := by
  refine Att.attach_call hn hdf ?_
  intro w s0 s1 mg mb fa o pm cd doc a vs ns G Y ho hd hcd hmg hobj hints hlen hg
  have KX := hY w _ Y
  obtain ⟨fd, hb, hF⟩ := F w mg fa _ KX G.T.g hmg
  exact law_at KX G.T.g G.T.b G.T.builtins G.T.nolimit hg hobj hints (Nat.le_trans hlen hn2) hr hF hb (hs ns hlen)
end MI
end
section
set_option Elab.async false
set_option linter.all false
set_option autoImplicit false
set_option maxRecDepth 100000
set_option maxHeartbeats 4000000
namespace MI
open PySem L2
open PyProof.Rows (envOfC)
/-- the def that the module's name x stands for is worth sem -/
structure Good (P : Program) (w : World) (K : PySem.W.Frag) (mg : Str → Option Value) (base : Heap) (k : Nat) (x : Str) (ps : List Str) (sem : Sf) : Prop where
  ex : ∃ (f : Addr) (fd : FuncData), mg x = some (.ref f) ∧ FnG P w K mg base k f fd ps sem ∧ PySem.W.keepIn K (.ref f) = true ∧ Binds K fd ps []
section
variable {X : Cx} {E : XK} {k j : Nat} {ps : List Str} {sem : Sf} {x : Str} {p pos : Pos} {a : Expr} {as : List Expr} {fs : Sa}
theorem m_callG (G : Good X.prog X.w X.K X.mg X.base k x ps sem) (wh : Wh X E) (hr : Room j X.A) (hkj : k ≤ j) (ha : PMa X E (a :: as) fs) (hg : Gl X x := by rfl) (hdb : (x == ("__debug__" : Str)) = false := by decide)
    (he : starEach (a :: as) X.env = (false, eval a X.env) :: starEach as X.env := by rfl) (hpl : (backTo pos (starEach as X.env)).any (·.1) = false := by rfl) :
    PM X E (.Call (.Name x p) (a :: as) [] pos) (eCall ps.length sem fs) := by
  obtain ⟨f, fd, hm, F, hk, hb⟩ := G.ex
  exact m_call F wh (hr.mono hkj) hm hk hb ha hg hdb he hpl
end
/-- the block's own names stand where they should -/
def blkB (N : List Str) (sc scope : Scope) (own : List (Str × Nat)) : Bool :=
  decide (scope.kind = .function) && (scope.names.all (fun y => decide (scope.names.lookup y.1 = some y.2)) && (own.all (fun p => decide (N[p.2]? = some p.1)) &&
    (scope.names.all (fun y => !decide (y.2 = .free) || (decide (sc.names.lookup y.1 = some .cell) || decide (sc.names.lookup y.1 = some .free))) &&
      scope.names.all (fun y => !(decide (y.2 = .local) || decide (y.2 = .cell)) || (decide (y.1 ∈ own.map (·.1)) || decide (y.1 ∉ N))))))
theorem blk_of {N : List Str} {sc scope : Scope} {own : List (Str × Nat)} (h : blkB N sc scope own = true) : BlkOk N sc scope own := by
  unfold blkB at h
  simp only [Bool.and_eq_true, decide_eq_true_eq, List.all_eq_true, Bool.or_eq_true, Bool.not_eq_true', decide_eq_false_iff_not] at h
  obtain ⟨h1, h2, h3, h4, h5⟩ := h
  exact ⟨h1, h2, h3, fun y hy e => (h4 y hy).elim (fun z => absurd e z) id, fun y hy e => (h5 y hy).elim (fun z => absurd e (by simpa using z)) id⟩
end MI
end
section
set_option Elab.async false
set_option linter.all false
set_option autoImplicit false
set_option maxRecDepth 100000
set_option maxHeartbeats 4000000
namespace MI
open PySem L2
section
variable {α β : Type} {r r' : Rs α} {s s' : SR} {g : Ss} {fr : Fr} {h : Hq} {a b c f : Sx} {t u : Sb} {p q : Ss} {as : Sa} {d : D} {i j : Int} {n m : Nat}
theorem c_bind {f : α → Hq → Rs β} (e : r = r') : r.bind f = r'.bind f := by rw [e]
theorem c_into {f : α → Hq → SR} (e : r = r') : r.into f = r'.into f := by rw [e]
theorem c_then (e : s = s') : s.then g = s'.then g := by rw [e]
theorem v_K : eK d fr h = .ok d h := rfl
def vR : Option (Option D) → Hq → Rs D
  | some (some d), h => .ok d h
  | _, _ => .no
theorem v_V : eV n fr h = vR fr[n]? h := by unfold eV vR; split <;> simp_all
theorem v_vR : vR (some (some d)) h = .ok d h := rfl
theorem v_Op {g : D → D → Hq → Rs D} : eOp g a b fr h = (a fr h).bind fun x h1 => (b fr h1).bind fun y h2 => g x y h2 := rfl
theorem v_Un {g : D → Hq → Rs D} : eUn g a fr h = (a fr h).bind g := rfl
theorem v_bOf : bOf a fr h = isB (a fr h) := rfl
theorem v_isB {b : Bool} : isB (.ok (.bl b) h) = .ok b h := rfl
theorem v_isBx {x : Xn} : isB (.exc x h) = .exc x h := rfl
theorem v_bAnd : bAnd t u fr h = (t fr h).bind fun c h1 => if c = true then u fr h1 else .ok false h1 := rfl
theorem v_bOr : bOr t u fr h = (t fr h).bind fun c h1 => if c = true then .ok true h1 else u fr h1 := rfl
theorem v_bNot : bNot t fr h = (t fr h).bind fun c h1 => .ok (!c) h1 := rfl
theorem v_eAnd : eAnd a b fr h = (isB (a fr h)).bind fun c h1 => if c = true then b fr h1 else .ok (.bl false) h1 := rfl
theorem v_eOr : eOr a b fr h = (isB (a fr h)).bind fun c h1 => if c = true then .ok (.bl true) h1 else b fr h1 := rfl
theorem v_eNot : eNot a fr h = (isB (a fr h)).bind fun c h1 => .ok (.bl (!c)) h1 := rfl
theorem v_eIf : eIf t a b fr h = (t fr h).bind fun c h1 => if c = true then a fr h1 else b fr h1 := rfl
theorem v_aNil : aNil fr h = .ok [] h := rfl
theorem v_aCons : aCons a as fr h = (a fr h).bind fun x h1 => (as fr h1).bind fun xs h2 => .ok (x :: xs) h2 := rfl
theorem v_Tup : eTup as fr h = (as fr h).bind fun xs h1 => if small xs.length = true then .ok (.tup xs) h1 else .no := rfl
theorem v_Lst : eLst as fr h = (as fr h).bind fun xs h1 => if small xs.length = true then .ok (.ref h1.length) (h1 ++ [.lst xs]) else .no := rfl
theorem v_Dct : eDct0 fr h = .ok (.ref h.length) (h ++ [.dct []]) := rfl
theorem v_Dct2 {a b : Str} {i j : Int} : eDct2 a b i j fr h = .ok (.ref h.length) (h ++ [.dct [(.inr a, .int i), (.inr b, .int j)]]) := rfl
theorem v_Call {sem : Sf} : eCall n sem as fr h = (as fr h).bind fun ds h1 => if ds.length = n then sem ds h1 else .no := rfl
theorem v_CallK {sem : Sf} {bs : Sa} : eCallK n sem as bs fr h = (as fr h).bind fun ds h1 => (bs fr h1).bind fun es h2 => if (ds ++ es).length = n then sem (ds ++ es) h2 else .no := rfl
theorem v_Bi {g : List D → Hq → Rs D} : eBi g as fr h = (as fr h).bind g := rfl
theorem v_Isi {x : String} : eIsi x a fr h = (a fr h).bind fun d h1 => gIsi x d h1 := rfl
theorem v_Cut {lo hi : So} : eCut a lo hi fr h = (a fr h).bind fun x h1 => (lo fr h1).bind fun l h2 => (hi fr h2).bind fun u h3 => dCut x l u h3 := rfl
theorem v_oNone : oNone fr h = .ok none h := rfl
def vO : D → Hq → Rs (Option Int)
  | .int i, h => .ok (some i) h
  | _, _ => .no
theorem v_oSome : oSome a fr h = (a fr h).bind vO := by
  unfold oSome
  congr 1
  funext x h1
  cases x <;> rfl
theorem v_vO : vO (.int i) h = .ok (some i) h := rfl
/-- statements -/
theorem v_End : sEnd fr h = .nx fr h := rfl
theorem v_Seq : sSeq p q fr h = (p fr h).then q := rfl
theorem v_If : sIf t p q fr h = (t fr h).into fun b h1 => if b = true then p fr h1 else q fr h1 := rfl
theorem v_Ret : sRet a fr h = (a fr h).into fun d h1 => .rt d h1 := rfl
theorem v_Expr : sExpr a fr h = (a fr h).into fun _ h1 => .nx fr h1 := rfl
theorem v_Set : sAsg a (tgN n) fr h = (a fr h).into fun d h1 => .nx (fr.set n (some d)) h1 := rfl
theorem v_Par {k : Nat} : sPar n k as fr h = (as fr h).into fun ds h1 => match ds with | [d, e] => .nx ((fr.set n (some d)).set k (some e)) h1 | _ => .no := rfl
theorem v_Raise {x : Str} : sRaise x fr h = .exc { cls := x } h := rfl
theorem v_For {src : Si} {tg : Tg} : sFor tg src p fr h = (src fr h).into fun S h1 => turns S.get S.fin tg p S.n 0 fr h1 := rfl
def vPut (d : D) : D → D → Fr → Hq → SR
  | .ref m, .int j, fr, h3 => match lstAt h3 m with
    | some l => match ixN l.length j with
      | some n => .nx fr (h3.set m (.lst (l.set n d)))
      | none => .no
    | none => .no
  | _, _, _, _ => .no
theorem v_Put : sPut a b c fr h = (a fr h).into fun d h1 => (b fr h1).into fun o h2 => (c fr h2).into fun k h3 => vPut d o k fr h3 := by
  unfold sPut
  congr 1
  funext d h1
  congr 1
  funext o h2
  congr 1
  funext k h3
  cases o <;> cases k <;> rfl
theorem v_vPut {l : List D} {k : Nat} (e : lstAt h m = some l) (e2 : ixN l.length j = some k) : vPut d (.ref m) (.int j) fr h = .nx fr (h.set m (.lst (l.set k d))) := by
  unfold vPut
  simp only [e, e2]
theorem v_fnx : fin (.nx fr h) = .ok .non h := rfl
theorem v_frt : fin (.rt d h) = .ok d h := rfl
theorem v_fex {x : Xn} : fin (.exc x h) = .exc x h := rfl
theorem v_of {n k : Nat} {p : Ss} {ds : List D} {h : Hq} (e : ds.length = n) : ofBody n k p ds h = fin (p (ds.map some ++ List.replicate k none) h) := by
  unfold ofBody
  rw [if_pos e]
theorem v_add : dAdd (.int i) (.int j) h = .ok (.int (i + j)) h := rfl
theorem v_sub : dSub (.int i) (.int j) h = .ok (.int (i - j)) h := rfl
theorem v_mul (e : mulOk i j = true) : dMul (.int i) (.int j) h = .ok (.int (i * j)) h := if_pos e
theorem v_div (e : divOk j = true) : dDiv (.int i) (.int j) h = .ok (.int (i / j)) h := if_pos e
theorem v_mod (e : 0 < j) : dMod (.int i) (.int j) h = .ok (.int (i % j)) h := if_pos e
theorem v_pow (e0 : 0 ≤ j) (e1 : j ≤ 1000) (e2 : i.natAbs.log2 < 10000) : dPow (.int i) (.int j) h = .ok (.int (i ^ j.toNat)) h := if_pos ⟨e0, e1, e2⟩
theorem v_neg : dNeg (.int i) h = .ok (.int (-i)) h := rfl
theorem v_rel {f : Int → Int → Bool} : dRel f (.int i) (.int j) h = .ok (.bl (f i j)) h := rfl
theorem v_ixT {l : List D} (e : atI l i = some d) : dIx (.tup l) (.int i) h = .ok d h := by
  unfold dIx
  simp only [e]
theorem v_ixL {l : List D} (e0 : lstAt h m = some l) (e : atI l i = some d) : dIx (.ref m) (.int i) h = .ok d h := by
  unfold dIx
  simp only [e0, e]
theorem v_ixS {l : List Int} (e : atI l i = some j) : dIx (.scr l) (.int i) h = .ok (.int j) h := by
  unfold dIx
  simp only [e]
theorem v_abs : gAbs [.int i] h = .ok (.int (if i < 0 then -i else i)) h := rfl
theorem v_lenT {l : List D} : gLen [.tup l] h = .ok (.int l.length) h := rfl
theorem v_lenS {l : List Int} : gLen [.scr l] h = .ok (.int l.length) h := rfl
theorem v_lenL {l : List D} (e : lstAt h m = some l) : gLen [.ref m] h = .ok (.int l.length) h := by
  unfold gLen
  simp only [e]
theorem v_max : gMax [.int i, .int j] h = .ok (.int (if j > i then j else i)) h := rfl
theorem v_min : gMin [.int i, .int j] h = .ok (.int (if j < i then j else i)) h := rfl
theorem v_intB {b : Bool} : gInt [.bl b] h = .ok (.int (if b then 1 else 0)) h := rfl
theorem v_intI : gInt [.int i] h = .ok (.int i) h := rfl
theorem v_gcd : gGcd [.int i, .int j] h = .ok (.int ((Nat.gcd i.natAbs j.natAbs : Nat) : Int)) h := rfl
theorem v_cutT {l : List D} {lo hi : Option Int} : dCut (.tup l) lo hi h = .ok (.tup (cutD l lo hi)) h := rfl
theorem v_cutL {l : List D} {lo hi : Option Int} (e : lstAt h m = some l) : dCut (.ref m) lo hi h = .ok (.ref h.length) (h ++ [.lst (cutD l lo hi)]) := by
  unfold dCut
  simp only [e]
theorem v_listT {l : List D} : gList [.tup l] h = .ok (.ref h.length) (h ++ [.lst l]) := rfl
theorem v_backT {l : List D} : dBack (.tup l) h = .ok (.tup l.reverse) h := rfl
theorem v_addL {k l : List D} (e1 : lstAt h m = some k) (e2 : lstAt h n = some l) (e : small (k.length + l.length) = true) : dAdd (.ref m) (.ref n) h = .ok (.ref h.length) (h ++ [.lst (k ++ l)]) := by
  unfold dAdd
  simp only [e1, e2, e, if_true]
theorem v_rep {l : List D} (e1 : lstAt h m = some l) (e2 : 0 ≤ i ∧ i < 1000000 ∧ small (l.length * i.toNat) = true) : dMul (.ref m) (.int i) h = .ok (.ref h.length) (h ++ [.lst (List.replicate i.toNat l).flatten]) := by
  unfold dMul
  simp only [e1]
  rw [if_pos e2]
theorem v_eqI {b : Bool} : dEqs b (.int i) (.int j) h = .ok (.bl ((i == j) != b)) h := by
  unfold dEqs eqQ dEqP
  simp [toPy, SeqAt.shaped, PyData.eqv, PyData.canLay0, PyData.depth]
end
theorem v_eqS {x y : Str} {b : Bool} {h : Hq} : dEqs b (.str x) (.str y) h = .ok (.bl (decide (x = y) != b)) h := rfl
end MI
end
local macro_rules
  | `(tactic| dsimp? [$ts,*]) => `(tactic| simp [MI.c_bind, MI.c_into, MI.c_then, MI.v_K, MI.v_V, MI.v_vR, MI.v_Op, MI.v_Un, MI.v_bOf, MI.v_isB, MI.v_isBx, MI.v_bAnd, MI.v_bOr, MI.v_bNot, MI.v_eAnd, MI.v_eOr, MI.v_eNot, MI.v_eIf, MI.v_aNil, MI.v_aCons, MI.v_Tup, MI.v_Lst, MI.v_Dct, MI.v_Dct2, MI.v_Call, MI.v_CallK, MI.v_Bi, MI.v_Isi, MI.v_Cut, MI.v_oNone, MI.v_oSome, MI.v_vO, MI.v_End, MI.v_Seq, MI.v_If, MI.v_Ret, MI.v_Expr, MI.v_Set, MI.v_Par, MI.v_Raise, MI.v_For, MI.v_Put, MI.v_fnx, MI.v_frt, MI.v_fex, MI.v_of, MI.v_add, MI.v_sub, MI.v_neg, MI.v_rel, MI.v_abs, MI.v_lenT, MI.v_lenS, MI.v_max, MI.v_min, MI.v_intB, MI.v_intI, MI.v_gcd, MI.v_cutT, MI.v_listT, MI.v_backT, MI.v_eqI, MI.v_eqS, List.replicate, MI.small, L2.atI, L2.ixN, $ts,*])
section
set_option Elab.async false
set_option linter.all false
set_option autoImplicit false
set_option maxRecDepth 100000
set_option maxHeartbeats 4000000
namespace MI
open PySem L2
section
variable {X : Cx} {E : XK} {a b c e : Expr} {fa fb fc fe : Sx} {pos pos' : Pos}
/-- x in a list -/
def dIn (neg : Bool) (x y : D) (h : Hq) : Rs D := match toPy h 60 x, toPy h 60 y with
  | some d, some (.list ds) => if SeqAt.shaped d = true ∧ SeqAt.shaped (.list ds) = true then .ok (.bl ((ds.any fun z => PyData.eqv z d) != neg)) h else .no
  | _, _ => .no
/-- xs.insert(i, e) -/
def eIns (fo fi fe : Sx) : Sx := fun fr h => (fo fr h).bind fun o h1 => match o with
  | .ref n => match lstAt h1 n with
    | some _ => (fi fr h1).bind fun k h2 => (fe fr h2).bind fun d h3 => match k with
      | .int j => match lstAt h3 n with
        | some l => if 0 ≤ j ∧ j < 2 ^ 63 ∧ small (l.length + 1) = true then .ok .non (h3.set n (.lst (l.take j.toNat ++ [d] ++ l.drop j.toNat))) else .no
        | none => .no
      | _ => .no
    | none => .no
  | _ => .no
end
def srcZ (l m : List D) : Src := ⟨min l.length m.length, fun i _ => match l[i]?, m[i]? with
  | some x, some y => some (.tup [x, y])
  | _, _ => none, fun i _ => decide (l.length ≤ i) || decide (m.length ≤ i)⟩
def srcZL (a b n : Nat) : Src := ⟨n, fun i h => match lstAt h a, lstAt h b with
  | some l, some m => (srcZ l m).get i h
  | _, _ => none, fun i h => match lstAt h a, lstAt h b with
  | some l, some m => (srcZ l m).fin i h
  | _, _ => false⟩
def iZip2 (fs : Sa) : Si := fun fr h => (fs fr h).bind fun ds h1 => match ds with
  | [.tup l, .tup m] => .ok (srcZ l m) h1
  | [.ref a, .ref b] => match lstAt h1 a, lstAt h1 b with
    | some l, some m => .ok (srcZL a b (min l.length m.length)) h1
    | _, _ => .no
  | _ => .no
end MI
end
section
set_option Elab.async false
set_option linter.all false
set_option autoImplicit false
set_option maxRecDepth 100000
set_option maxHeartbeats 4000000
namespace L2
open PySem PySem.Spec PyProof.Rows
section
variable {X : Cx}
theorem DpAll.length {K : PySem.W.Frag} {H : Hp} : ∀ {vs : List V} {ds : List PyData}, DpAll K H vs ds → vs.length = ds.length
  | _, _, .nil => rfl
  | _, _, .cons _ h => by rw [List.length_cons, List.length_cons, DpAll.length h]
end
end L2
namespace MI
open PySem L2
section
variable {X : Cx} {E : XK} {a b c e : Expr} {as : List Expr} {fa fb fe : Sx} {fs : Sa} {p pos : Pos}
/-- l.remove(x) -/
def remAt (ds : List PyData) (d : PyData) : Option Nat := ds.findIdx? fun z => PyData.eqv z d
theorem VRs.dropLast {K : PySem.W.Frag} {ι : List Addr} {H : Hp} {vs : List V} {l : List D} (r : VRs K ι H vs l) : VRs K ι H vs.dropLast l.dropLast := by
  rw [List.dropLast_eq_take, List.dropLast_eq_take, r.length]
  exact r.take _
def setAllT : List Tg → List D → Fr → Option Fr
  | [], [], fr => some fr
  | t :: ts, d :: ds, fr => (t d fr).bind fun fr1 => setAllT ts ds fr1
  | _, _, _ => none
def tgG (ts : List Tg) : Tg := fun d fr => match d with
  | .tup l => setAllT ts l fr
  | _ => none
def truD (d : D) (h : Hq) : Rs Bool := match d with
  | .bl b => .ok b h
  | .tup l => .ok (!l.isEmpty) h
  | .ref m => match lstAt h m with
    | some l => .ok (!l.isEmpty) h
    | none => .no
  | _ => .no
def bTru (f : Sx) : Sb := fun fr h => (f fr h).bind truD
end
end MI
end
section
set_option Elab.async false
set_option linter.all false
set_option autoImplicit false
set_option maxRecDepth 100000
set_option maxHeartbeats 4000000
namespace PySem.MiX
open PySem PySem.AutoSeq1
end PySem.MiX
namespace L2
open PySem PySem.Spec PyProof.Rows
end L2
namespace MI
open PySem L2
section
variable {X : Cx} {E : XK} {a b c e : Expr} {as : List Expr} {fa fb fe : Sx} {fs : Sa} {p pos : Pos}
/-- l.count(x) -/
def cntG (m : Nat) (d : D) (h2 : Hq) : Rs D := match lstAt h2 m with
  | some l => match opts (toPy h2 60) l, toPy h2 60 d with
    | some ds, some q => if SeqAt.shaped q = true ∧ SeqAt.shaped (.list ds) = true then .ok (.int (ds.countP (fun z => PyData.eqv z q) : Nat)) h2 else .no
    | _, _ => .no
  | none => .no
def cntF (fe : Sx) (fr : Fr) (o : D) (h1 : Hq) : Rs D := match o with
  | .ref m => match lstAt h1 m with
    | some _ => (fe fr h1).bind fun d h2 => cntG m d h2
    | none => .no
  | _ => .no
def eCnt (fo fe : Sx) : Sx := fun fr h => (fo fr h).bind (cntF fe fr)
/-- l.extend(t) -/
def extG (m : Nat) (d : D) (h2 : Hq) : Rs D := match d with
  | .tup r => match lstAt h2 m with
    | some l => if small (l.length + r.length) = true then .ok .non (h2.set m (.lst (l ++ r))) else .no
    | none => .no
  | _ => .no
def extF (fe : Sx) (fr : Fr) (o : D) (h1 : Hq) : Rs D := match o with
  | .ref m => match lstAt h1 m with
    | some _ => (fe fr h1).bind fun d h2 => extG m d h2
    | none => .no
  | _ => .no
def eExt (fo fe : Sx) : Sx := fun fr h => (fo fr h).bind (extF fe fr)
/-- [*a, ..] -/
def stF (g : Sa) (fr : Fr) (x : D) (h1 : Hq) : Rs (List D) := match x with
  | .tup l => (g fr h1).bind fun xs h2 => .ok (l ++ xs) h2
  | .ref m => match lstAt h1 m with
    | some l => (g fr h1).bind fun xs h2 => .ok (l ++ xs) h2
    | none => .no
  | _ => .no
def aStar (f : Sx) (g : Sa) : Sa := fun fr h => (f fr h).bind (stF g fr)
end
end MI
namespace MI
open PySem L2
def aDef (fs : Sa) (dds : List D) : Sa := fun fr h => (fs fr h).bind fun ds h1 => .ok (ds ++ dds) h1
end MI
end
section
set_option Elab.async false
set_option linter.all false
set_option autoImplicit false
set_option maxRecDepth 100000
set_option maxHeartbeats 4000000
namespace PySem.MiEn
open PySem
open PySem.AutoSeq1 (wpAny_loadPart')
end PySem.MiEn
namespace L2
open PySem PySem.Spec PyProof.Rows
end L2
namespace MI
open PySem L2
def srcE (l : List D) : Src := ⟨l.length, fun i _ => match l[i]? with
  | some x => some (.tup [.int (i : Int), x])
  | none => none, fun i _ => decide (l.length ≤ i)⟩
def enF (ds : List D) (h1 : Hq) : Rs Src := match ds with
  | [.tup l] => .ok (srcE l) h1
  | _ => .no
def iEnum1 (fs : Sa) : Si := fun fr h => (fs fr h).bind enF
end MI
end
section
set_option Elab.async false
set_option linter.all false
set_option autoImplicit false
set_option maxRecDepth 100000
set_option maxHeartbeats 4000000
namespace MiSs
open PySem PySem.Spec PyProof.Rows L2 TS
def Prs (M : Int) (hp : Heap) (us : List Value) : Prop := ∀ u ∈ us, ∃ x y : Int, TupInts hp u [x, y] ∧ (-M ≤ y ∧ y ≤ M)
/-- where a pair stands -/
def rnk (M : Int) (l : List Int) : Int := l.headD 0 * (2 * M + 1) + (l.drop 1).headD 0
theorem rnk_pair (M x y : Int) : rnk M [x, y] = x * (2 * M + 1) + y := rfl
theorem rnk_lt {M x y u v : Int} (hy : -M ≤ y ∧ y ≤ M) (hv : -M ≤ v ∧ v ≤ M) : rnk M [x, y] < rnk M [u, v] ↔ x < u ∨ (x = u ∧ y < v) := by
  rw [rnk_pair, rnk_pair]
  have w : (0 : Int) ≤ 2 * M + 1 := by omega
  have far : ∀ {p q : Int}, p < q → p * (2 * M + 1) + (2 * M + 1) ≤ q * (2 * M + 1) := fun {p q} hpq => by
    have := Int.mul_le_mul_of_nonneg_right (show p + 1 ≤ q by omega) w
    rw [Int.add_mul, Int.one_mul] at this
    exact this
  constructor
  · intro z
    by_cases e : x = u
    · subst e; exact .inr ⟨rfl, by omega⟩
    · by_cases l : x < u
      · exact .inl l
      · have := far (show u < x by omega)
        omega
  · rintro (l | ⟨rfl, l⟩)
    · have := far l
      omega
    · omega
theorem heads {M : Int} {hp : Heap} : ∀ {us : List Value}, Prs M hp us → ∃ hd : List Value, PySem.W.KatTups hp us hd ∧ hd.length = us.length ∧ ∀ z ∈ hd, ∃ (i : Int) (tk : Tok), z = .int i tk := by
  intro us
  induction us with
  | nil => intro _; exact ⟨[], .nil, rfl, fun _ z => (nomatch z)⟩
  | cons u us ih =>
    intro g
    obtain ⟨hd, k1, k2, k3⟩ := ih fun z hz => g z (.tail _ hz)
    obtain ⟨x, y, ⟨ad, arr, rfl, ⟨ob, q1, q2, sz, q3⟩, ii⟩, _⟩ := g u (.head _)
    generalize hl : arr.toList = l at ii
    cases ii with
    | cons _ tk _ =>
      refine ⟨.int x tk :: hd, .cons q1 q2 q3 ?_ k1, congrArg (· + 1) k2, fun z hz => ?_⟩
      · rw [← Array.getElem?_toList, hl]; rfl
      · cases hz with
        | head => exact ⟨_, _, rfl⟩
        | tail _ hz => exact k3 z hz
section
variable {pr : Program} {wo : World} {Ar : Around} {Er : Value → Shared → Prop} {st : Shared} {M : Int}
theorem two {fl : Bool} {l m : List Value} {x y u v : Int} {R : Bool → Shared → Prop} (hl : IntsAre l [x, y]) (hm : IntsAre m [u, v]) (hy : -M ≤ y ∧ y ≤ M) (hv : -M ≤ v ∧ v ≤ M) (k : R (decide (rnk M [x, y] < rnk M [u, v])) st) :
    PySem.W.KatLex pr wo Ar fl false R (l.zip m) 0 st := by
  cases hl with
  | cons _ t1 hl => cases hl with
    | cons _ t2 hl => cases hl; cases hm with
      | cons _ t3 hm => cases hm with
        | cons _ t4 hm =>
          cases hm
          apply PySem.W.kat_cons (r := [(.int y t2, .int v t4)])
          apply wpAny_eqBool_int
          have rl := rnk_lt (x := x) (u := u) hy hv
          by_cases e : x = u
          · rw [show (x == u) = true from beq_iff_eq.mpr e]
            apply PySem.W.kat_yes
            apply PySem.W.kat_cons (r := [])
            apply wpAny_eqBool_int
            by_cases f : y = v
            · rw [show (y == v) = true from beq_iff_eq.mpr f]
              apply PySem.W.kat_yes
              apply PySem.W.kat_nil
              rwa [decide_eq_false (fun z => by rcases rl.mp z with z | z <;> omega)] at k
            · rw [show (y == v) = false by simpa using f]
              apply PySem.W.kat_no
              apply oneLt_ints
              rwa [show decide (rnk M [x, y] < rnk M [u, v]) = decide (y < v) from decide_eq_decide.mpr ⟨fun z => by rcases rl.mp z with z | z <;> omega, fun z => rl.mpr (.inr ⟨e, z⟩)⟩] at k
          · rw [show (x == u) = false by simpa using e]
            apply PySem.W.kat_no
            apply oneLt_ints
            rwa [show decide (rnk M [x, y] < rnk M [u, v]) = decide (x < u) from decide_eq_decide.mpr ⟨fun z => by rcases rl.mp z with z | z <;> omega, fun z => rl.mpr (.inl z)⟩] at k
/-- which comparison the sort takes, and that it is by the rank -/
theorem kind {us : List Value} (n2 : 2 ≤ us.length) (g : Prs M st.heap us) (f : Value → Int) (hf : ∀ u ∈ us, ∀ l, TupInts st.heap u l → f u = rnk M l) (R : SortKind → Shared → Prop) (k : ∀ kd, Cmp pr wo Ar st kd (pairsOf us) f → R kd st) :
    wpAny (model pr wo) Ar (keyKind' us.toArray) R Er st := by
  obtain ⟨hd, k1, k2, k3⟩ := heads g
  apply PySem.W.kat_kind (T := Value.type "int") k1
  · omega
  · intro z hz
    obtain ⟨i, tk, rfl⟩ := k3 z hz
    exact .of_pure rfl
  · rfl
  apply k
  intro c d hc hd' R' E' kk
  rw [pairsOf_toList] at hc hd'
  have mc := (mem_zip_self hc).2
  have md := (mem_zip_self hd').2
  obtain ⟨x, y, qx, hy⟩ := g _ mc
  obtain ⟨u, v, qu, hv⟩ := g _ md
  rw [hf _ mc _ qx, hf _ md _ qu] at kk
  obtain ⟨z1, l1, r1, ⟨ob1, p1, _, n1, s1⟩, i1⟩ := qx
  obtain ⟨z2, l2, r2, ⟨ob2, p2, _, n3, s2⟩, i2⟩ := qu
  rw [r1, r2]
  apply PySem.W.kat_lt p1 s1 p2 s2
  have z1 := i1.length
  have z2 := i2.length
  simp only [Array.length_toList, List.length_cons, List.length_nil] at z1 z2
  rw [decide_eq_false (show ¬ l1.size < l2.size by omega)]
  exact two i1 i2 hy hv kk
end
end MiSs
end
section
set_option Elab.async false
set_option linter.all false
set_option autoImplicit false
set_option maxRecDepth 100000
set_option maxHeartbeats 4000000
namespace MI
open PySem L2
abbrev Zp := Int × Int
abbrev dZ (q : Zp) : D := .tup [.int q.1, .int q.2]
def prsD : List D → Option (List Zp)
  | [] => some []
  | .tup [.int x, .int y] :: l => (prsD l).map ((x, y) :: ·)
  | _ => none
def zlt (p q : Zp) : Prop := p.1 < q.1 ∨ (p.1 = q.1 ∧ p.2 < q.2)
instance (p q : Zp) : Decidable (zlt p q) := inferInstanceAs (Decidable (_ ∨ _))
def insZ (q : Zp) : List Zp → List Zp
  | [] => [q]
  | x :: l => if zlt q x then q :: x :: l else if q = x then x :: l else x :: insZ q l
def srtZ (l : List Zp) : List Zp := l.foldr insZ []
def gSoSe (d : D) (h : Hq) : Rs D := match d with
  | .ref m => match lstAt h m with
    | some l => match prsD l with
      | some qs => if qs.length < 64 then .ok (.ref h.length) (h ++ [.lst ((srtZ qs).map dZ)]) else .no
      | none => .no
    | none => .no
  | _ => .no
def eSoSe (f : Sx) : Sx := fun fr h => (f fr h).bind gSoSe
end MI
end
section
set_option Elab.async false
set_option linter.all false
set_option autoImplicit false
set_option maxRecDepth 100000
set_option maxHeartbeats 4000000
namespace MI
open PySem L2
def mxL : Int → List Int → Int
  | i, [] => i
  | i, j :: l => mxL (max i j) l
def mnL : Int → List Int → Int
  | i, [] => i
  | i, j :: l => mnL (min i j) l
theorem mxL_mem : ∀ (l : List Int) (i : Int), mxL i l ∈ i :: l
  | [], i => by simp [mxL]
  | j :: l, i => by
    show mxL (max i j) l ∈ _
    rcases List.mem_cons.1 (mxL_mem l (max i j)) with h | h
    · rw [h]
      by_cases c : i ≤ j
      · rw [Int.max_eq_right c]; simp
      · rw [Int.max_eq_left (by omega)]; simp
    · exact .tail _ (.tail _ h)
end MI
end
section
set_option Elab.async false
set_option linter.all false
set_option autoImplicit false
set_option maxRecDepth 100000
set_option maxHeartbeats 4000000
namespace MiZl
open PySem PyProof.Rows L2
section
variable {prog : Program} {w : World} {A : Around} {E : Value → Shared → Prop} {s : Shared}
/-- the pairs told so far -/
structure DG (P1 P2 : Nat → Value → Prop) (N : Nat) (h : Heap) (as : List Nat) : Prop where
  rise : as.Pairwise (· < ·)
  above : ∀ a ∈ as, N ≤ a
  pairs : ∀ (j a : Nat), as[j]? = some a → ∃ x y, P1 j x ∧ P2 j y ∧ IsTupOf2 h a x y
theorem DG.keep {P1 P2 : Nat → Value → Prop} {N : Nat} {h h' : Heap} {as : List Nat} (d : DG P1 P2 N h as) (kp : ∀ a ∈ as, ∀ o, h.get? a = some o → h'.get? a = some o) : DG P1 P2 N h' as where
  rise := d.rise
  above := d.above
  pairs := fun j a hj => by
    obtain ⟨x, y, q1, q2, t⟩ := d.pairs j a hj
    exact ⟨x, y, q1, q2, kp a (List.mem_of_getElem? hj) _ t⟩
end
end MiZl
end
section
set_option Elab.async false
set_option linter.all false
set_option autoImplicit false
set_option maxRecDepth 100000
set_option maxHeartbeats 4000000
namespace MiZl
open PySem PyProof.Rows L2
end MiZl
end
section
set_option Elab.async false
set_option linter.all false
set_option autoImplicit false
set_option maxRecDepth 100000
set_option maxHeartbeats 4000000
namespace MiZl
open PySem PyProof.Rows L2
/-- a tuple or a list -/
def Sq (K : PySem.W.Frag) (H : Hp) (t : Bool) (a : Nat) (xs : List V) : Prop := if t = true then SqT K H a xs else SqL K H a xs
def itO (t : Bool) (a : Nat) : Obj := { cls := Value.type (if t = true then "tuple_iterator" else "list_iterator"), data := Data.fields #[Value.ref a, Value.int 0 0] }
def sqH (t : Bool) (a : Nat) (its : Array Value) (h : Heap) : Prop := if t = true then h.IsTuple a its else h.IsList a its
section
variable {X : Cx}
theorem Sq.heap {pins : List (Addr × Obj)} {σ : L2.St} {H : Hp} {s : Shared} {t : Bool} {a : Nat} {xs : List V} (I : L2.Inv X pins σ H s) (h : Sq X.K H t a xs) : ∃ its, Vals xs its ∧ sqH t a its.toArray s.heap ∧ xs.length ≤ sizeLine ∧ a < s.heap.objs.size := by
  cases t with
  | true =>
    obtain ⟨its, v, ⟨o, ho, hr⟩, hl⟩ := I.tuple h
    exact ⟨its, v, ⟨o, ho, hr⟩, hl, Heap.lt_size ho⟩
  | false =>
    obtain ⟨its, v, p, hl⟩ := I.list h
    have p' := p
    obtain ⟨o, n, ho, _⟩ := p'
    exact ⟨its, v, p.isList, hl, Heap.lt_size ho⟩
end
end MiZl
end
section
set_option Elab.async false
set_option linter.all false
set_option autoImplicit false
set_option maxRecDepth 100000
set_option maxHeartbeats 4000000
namespace MI
open PySem L2 MiZl
end MI
end
section
set_option Elab.async false
set_option linter.all false
set_option autoImplicit false
set_option maxRecDepth 100000
set_option maxHeartbeats 4000000
namespace MI
open PySem L2
noncomputable section
/-- _law_pot: k01 k02 k03 k04 k05 k06 k07 k08 k09 k10 k11 k12 k13 k14 k15 k16 k17 k18 k19 k20 k21 k22 k23 -/
def S__law_pot : Sf := ofBody 2 1 (sSeq (sAsg (eK (.int 0)) (tgN 2)) (sSeq (sIf (bOf (eOp dLt (eV 1) (eBi gLen (aCons (eV 0) (aNil))))) (sSeq (sAsg (eOp dMod (eBi gAbs (aCons (eOp dIx (eV 0) (eV 1)) (aNil))) (eOp dPow (eOp dPow (eK (.int 10)) (eK (.int 60))) (eK (.int 10)))) (tgN 2)) (sEnd)) (sEnd)) (sSeq (sRet (eLst (aCons (eOp dMul (eV 2) (eBi gInt (aCons (eOp dGe (eV 2) (eOp dPow (eK (.int 10)) (eK (.int 18)))) (aNil)))) (aCons (eOp dMod (eOp dPow (eOp dAdd (eOp dAdd (eOp dMod (eV 2) (eK (.int 2147483629))) (eOp dMul (eK (.int 7919)) (eV 1))) (eK (.int 1))) (eK (.int 5))) (eK (.int 2305843009213693951))) (aCons (eK (.int 0)) (aNil)))))) (sEnd))))
/-- _law_take: k01 k02 k03 k04 k05 k06 k07 k08 k09 k10 k11 k12 k13 k14 k15 k16 k17 k18 k19 k20 k21 k22 k23 -/
def S__law_take : Sf := ofBody 2 3 (sSeq (sIf (bOf (eOp dGt (eOp dIx (eV 0) (eK (.int 0))) (eK (.int 0)))) (sSeq (sAsg (eOp dMod (eOp dIx (eV 0) (eK (.int 0))) (eV 1)) (tgN 2)) (sSeq (sPut (eOp dDiv (eOp dIx (eV 0) (eK (.int 0))) (eV 1)) (eV 0) (eK (.int 0))) (sSeq (sRet (eV 2)) (sEnd)))) (sEnd)) (sSeq (sPut (eOp dAdd (eOp dIx (eV 0) (eK (.int 2))) (eK (.int 1))) (eV 0) (eK (.int 2))) (sSeq (sAsg (eOp dMod (eOp dPow (eOp dAdd (eOp dIx (eV 0) (eK (.int 1))) (eOp dMul (eK (.int 104729)) (eOp dIx (eV 0) (eK (.int 2))))) (eK (.int 3))) (eK (.int 2305843009213693921))) (tgN 3)) (sSeq (sAsg (eOp dMod (eOp dPow (eOp dAdd (eOp dAdd (eV 3) (eOp dMod (eOp dIx (eV 0) (eK (.int 1))) (eK (.int 65537)))) (eOp dMul (eK (.int 31)) (eOp dIx (eV 0) (eK (.int 2))))) (eK (.int 5))) (eK (.int 2305843009213693907))) (tgN 4)) (sSeq (sRet (eOp dMod (eOp dDiv (eV 4) (eK (.int 1024))) (eV 1))) (sEnd))))))
/-- _law_lowest: k02 k03 k04 k05 k06 k07 k08 k11 k12 k15 k16 k17 k18 k19 k20 k21 k22 k23 -/
def S__law_lowest : Sf := ofBody 2 2 (sSeq (sPar 2 3 (aCons (eBi gAbs (aCons (eV 0) (aNil))) (aCons (eV 1) (aNil)))) (sSeq (sWhile (bOf (eOp (dEqs true) (eV 3) (eK (.int 0)))) (sSeq (sPar 2 3 (aCons (eV 3) (aCons (eOp dMod (eV 2) (eV 3)) (aNil)))) (sEnd))) (sSeq (sRet (eTup (aCons (eOp dDiv (eV 0) (eV 2)) (aCons (eOp dDiv (eV 1) (eV 2)) (aNil))))) (sEnd))))
/-- _law_whole: k02 k03 k04 k05 k06 k07 k10 -/
def S__law_whole : Sf := ofBody 1 0 (sSeq (sRet (eAnd (eIsi "int" (eV 0)) (eNot (eIsi "bool" (eV 0))))) (sEnd))
/-- _law_less: k04 k05 k06 k07 k08 k16 k17 k18 k19 k20 k21 k22 k23 -/
def S__law_less : Sf := ofBody 2 0 (sSeq (sRet (eOp dLt (eOp dMul (eOp dIx (eV 0) (eK (.int 0))) (eOp dIx (eV 1) (eK (.int 1)))) (eOp dMul (eOp dIx (eV 1) (eK (.int 0))) (eOp dIx (eV 0) (eK (.int 1)))))) (sEnd))
/-- _law_is_fraction: k02 k03 k04 k05 k06 k07 -/
def S__law_is_fraction : Sf := ofBody 1 0 (sSeq (sIf (bOr (bNot (bOf (eIsi "tuple" (eV 0)))) (bOr (bOf (eOp (dEqs true) (eBi gLen (aCons (eV 0) (aNil))) (eK (.int 2)))) (bOr (bNot (bOf (eCall 1 S__law_whole (aCons (eOp dIx (eV 0) (eK (.int 0))) (aNil))))) (bNot (bOf (eCall 1 S__law_whole (aCons (eOp dIx (eV 0) (eK (.int 1))) (aNil)))))))) (sSeq (sRet (eK (.bl false))) (sEnd)) (sEnd)) (sSeq (sRet (eAnd (eOp dGt (eOp dIx (eV 0) (eK (.int 1))) (eK (.int 0))) (eOp (dEqs false) (eCall 2 S__law_lowest (aCons (eOp dIx (eV 0) (eK (.int 0))) (aCons (eOp dIx (eV 0) (eK (.int 1))) (aNil)))) (eV 0)))) (sEnd)))
/-- _law_in: k04 k05 k06 k16 k17 k20 k21 -/
def S__law_in : Sf := ofBody 2 4 (sSeq (sAsg (eV 0) (tgT [2, 3, 4, 5])) (sSeq (sIf (bOr (bOf (eCall 2 S__law_less (aCons (eV 1) (aCons (eV 2) (aNil))))) (bOf (eCall 2 S__law_less (aCons (eV 4) (aCons (eV 1) (aNil)))))) (sSeq (sRet (eK (.bl false))) (sEnd)) (sEnd)) (sSeq (sRet (eAnd (eOr (eV 3) (eOp (dEqs true) (eV 1) (eV 2))) (eOr (eV 5) (eOp (dEqs true) (eV 1) (eV 4))))) (sEnd))))
/-- _law_middle: k16 k17 k20 k21 -/
def S__law_middle : Sf := ofBody 2 0 (sSeq (sRet (eCall 2 S__law_lowest (aCons (eOp dAdd (eOp dMul (eOp dIx (eV 0) (eK (.int 0))) (eOp dIx (eV 1) (eK (.int 1)))) (eOp dMul (eOp dIx (eV 1) (eK (.int 0))) (eOp dIx (eV 0) (eK (.int 1))))) (aCons (eOp dMul (eOp dMul (eK (.int 2)) (eOp dIx (eV 0) (eK (.int 1)))) (eOp dIx (eV 1) (eK (.int 1)))) (aNil))))) (sEnd))
/-- _law_points: k16 k17 k20 k21 k22 -/
def S__law_points : Sf := ofBody 2 3 (sSeq (sAsg (eLst (aCons (eOp dIx (eV 0) (eK (.int 0))) (aNil))) (tgN 2)) (sSeq (sFor (tgN 3) (iSeq (eV 1)) (sSeq (sIf (bAnd (bOf (eOp (dIn true) (eV 3) (eV 2))) (bAnd (bOf (eCall 2 S__law_less (aCons (eOp dIx (eV 0) (eK (.int 0))) (aCons (eV 3) (aNil))))) (bOf (eCall 2 S__law_less (aCons (eV 3) (aCons (eOp dIx (eV 0) (eK (.int 2))) (aNil))))))) (sSeq (sAsg (eK (.int 0)) (tgN 4)) (sSeq (sWhile (bAnd (bOf (eOp dLt (eV 4) (eBi gLen (aCons (eV 2) (aNil))))) (bOf (eCall 2 S__law_less (aCons (eOp dIx (eV 2) (eV 4)) (aCons (eV 3) (aNil)))))) (sSeq (sAsg (eOp dAdd (eV 4) (eK (.int 1))) (tgN 4)) (sEnd))) (sSeq (sExpr (eIns (eV 2) (eV 4) (eV 3))) (sEnd)))) (sEnd)) (sEnd))) (sSeq (sRet (eOp dAdd (eV 2) (eOp dMul (eLst (aCons (eOp dIx (eV 0) (eK (.int 2))) (aNil))) (eBi gInt (aCons (eOp (dEqs true) (eOp dIx (eV 0) (eK (.int 2))) (eOp dIx (eV 0) (eK (.int 0)))) (aNil)))))) (sEnd))))
/-- _law_is_moment: k04 k05 k06 k07 -/
def S__law_is_moment : Sf := ofBody 1 0 (sSeq (sRet (eAnd (eCall 1 S__law_is_fraction (aCons (eV 0) (aNil))) (eAnd (eOp dLe (eK (.int 0)) (eOp dIx (eV 0) (eK (.int 0)))) (eOp dLe (eOp dIx (eV 0) (eK (.int 0))) (eOp dMul (eOp dPow (eK (.int 10)) (eK (.int 6))) (eOp dIx (eV 0) (eK (.int 1)))))))) (sEnd))
/-- _law_marks: k16 k17 k20 k21 -/
def S__law_marks : Sf := ofBody 2 5 (sSeq (sAsg (eCall 2 S__law_points (aCons (eV 0) (aCons (eV 1) (aNil)))) (tgN 2)) (sSeq (sAsg (eComp (iSeq (eV 2)) [4] (tgN 4) (bOf (eCall 2 S__law_in (aCons (eV 0) (aCons (eV 4) (aNil))))) (eV 4)) (tgN 3)) (sSeq (sRet (eOp dAdd (eV 3) (eComp (iZip2 (aCons (eV 2) (aCons (eCut (eV 2) (oSome (eK (.int 1))) (oNone)) (aNil)))) [5, 6] (tgT [5, 6]) (cYes) (eCall 2 S__law_middle (aCons (eV 5) (aCons (eV 6) (aNil))))))) (sEnd))))
/-- is_moment: k04 k05 k06 k07 k08 k16 k17 k18 k19 k20 k21 k22 k23 -/
def S_is_moment : Sf := ofBody 1 2 (sSeq (sIf (bOr (bNot (bOf (eIsi "tuple" (eV 0)))) (bOf (eOp (dEqs true) (eBi gLen (aCons (eV 0) (aNil))) (eK (.int 2))))) (sSeq (sRet (eK (.bl false))) (sEnd)) (sEnd)) (sSeq (sAsg (eV 0) (tgT [1, 2])) (sSeq (sIf (bOr (bNot (bOf (eIsi "int" (eV 1)))) (bOr (bNot (bOf (eIsi "int" (eV 2)))) (bOr (bOf (eOp (dIsN false) (eV 1) (eK (.bl true)))) (bOr (bOf (eOp (dIsN false) (eV 1) (eK (.bl false)))) (bOf (eOp (dIsN false) (eV 2) (eK (.bl true)))))))) (sSeq (sRet (eK (.bl false))) (sEnd)) (sEnd)) (sSeq (sRet (eAnd (eOp dGe (eV 2) (eK (.int 1))) (eAnd (eChain (fun i j => decide (i ≤ j)) (fun i j => decide (i ≤ j)) (eK (.int 0)) (eV 1) (eOp dMul (eK (.int 1000000)) (eV 2))) (eOp (dEqs false) (eBi gGcd (aCons (eV 1) (aCons (eV 2) (aNil)))) (eK (.int 1)))))) (sEnd)))))
end
end MI
end
section
set_option Elab.async false
set_option linter.all false
set_option autoImplicit false
namespace MI
open PySem L2
/-- what is written out, at once -/
theorem m_lit {X : Cx} {E : XK} {e : Expr} {f g : Sx} (h : PM X E e f) (q : f = g) : PM X E e g := q ▸ h
end MI
end
section
set_option Elab.async false
set_option linter.all false
set_option autoImplicit false
set_option maxRecDepth 100000
set_option maxHeartbeats 4000000
namespace L2
open PySem PySem.Spec PyProof.Rows
end L2
namespace MI
open PySem L2
end MI
end
section
set_option Elab.async false
set_option linter.all false
set_option autoImplicit false
set_option maxRecDepth 100000
set_option exponentiation.threshold 20000
set_option maxHeartbeats 4000000
open PySem L2
namespace MI
theorem lg {n k : Nat} (h : n < 2 ^ k) (hk : 0 < k) : n.log2 < k := by
  by_cases h0 : n = 0
  · subst h0; simpa using hk
  · exact (Nat.log2_lt h0).mpr h
theorem lgI {i : Int} {k : Nat} (h0 : -(2 ^ k : Int) < i) (h1 : i < (2 ^ k : Int)) (hk : 0 < k) : i.natAbs.log2 < k := by
  refine lg ?_ hk
  have : ((2 ^ k : Nat) : Int) = (2 ^ k : Int) := by push_cast; rfl
  omega
theorem mulOk_of {i j : Int} (a : i.natAbs.log2 < 400000) (b : j.natAbs.log2 < 400000) : mulOk i j = true := by
  unfold mulOk
  exact decide_eq_true (by omega)
theorem l64 {i : Int} (h0 : -(2 ^ 64) < i) (h1 : i < 2 ^ 64) {k : Nat} (hk : 64 ≤ k := by decide) : i.natAbs.log2 < k := Nat.lt_of_lt_of_le (lgI (k := 64) h0 h1 (by decide)) hk
theorem divOk_of {j : Int} (h0 : 0 < j) (h1 : j < 2 ^ 8000) : divOk j = true := by
  unfold divOk
  have := Nat.lt_of_lt_of_le (lgI (k := 8000) (by omega) h1 (by decide)) (by decide : 8000 ≤ 9000)
  simp [h0, this]
structure PotAt (h : Hq) (p : Nat) (n : Int) : Prop where
  ex : ∃ a b c : Int, lstAt h p = some [.int a, .int b, .int c] ∧ 0 ≤ a ∧ a < 2 ^ 2000 ∧ 0 ≤ b ∧ b < 2 ^ 61 ∧ 0 ≤ c ∧ c ≤ n
/-- only the cell p may have changed, cells may be new -/
structure Step (p : Nat) (h h' : Hq) : Prop where
  len : h.length ≤ h'.length
  old : ∀ q, q ≠ p → q < h.length → h'[q]? = h[q]?
theorem Step.trans {p : Nat} {h h1 h2 : Hq} (a : Step p h h1) (b : Step p h1 h2) : Step p h h2 := ⟨Nat.le_trans a.len b.len, fun q n l => (b.old q n (Nat.lt_of_lt_of_le l a.len)).trans (a.old q n l)⟩
theorem Step.set (p : Nat) (h : Hq) (c : Cell) : Step p h (h.set p c) := ⟨by simp, fun q n l => by rw [List.getElem?_set_ne (Ne.symm n)]⟩
theorem Step.app (p : Nat) (h : Hq) (l : List Cell) : Step p h (h ++ l) := ⟨by simp, fun q n hl => by rw [List.getElem?_append_left hl]⟩
theorem lstAt_lt {h : Hq} {p : Nat} {l : List D} (e : lstAt h p = some l) : p < h.length := (List.getElem?_eq_some_iff.mp (lstAt_some e)).1
theorem PotAt.mono {h : Hq} {p : Nat} {n m : Int} (P : PotAt h p n) (hm : n ≤ m) : PotAt h p m := by
  obtain ⟨a, b, c, e, h1, h2, h3, h4, h5, h6⟩ := P.ex
  exact ⟨a, b, c, e, h1, h2, h3, h4, h5, by omega⟩
theorem lstAt_app {h : Hq} {p : Nat} {l : List D} (e : lstAt h p = some l) (t : List Cell) : lstAt (h ++ t) p = some l := by
  have hl := lstAt_lt e
  have e' := lstAt_some e
  unfold lstAt
  rw [List.getElem?_append_left hl, e']
theorem PotAt.app {h : Hq} {p : Nat} {n : Int} (P : PotAt h p n) (t : List Cell) : PotAt (h ++ t) p n := by
  obtain ⟨a, b, c, e, r⟩ := P.ex
  exact ⟨a, b, c, lstAt_app e t, r⟩
theorem lstAt_set {h : Hq} {p : Nat} {l : List D} (hp : p < h.length) : lstAt (h.set p (.lst l)) p = some l := by
  unfold lstAt
  rw [List.getElem?_set_self hp]
theorem take_ok {h : Hq} {p : Nat} {n many : Int} (P : PotAt h p n) (hn : n < 1000000) (hm : 0 < many) (hb : many < 2 ^ 8000) :
    ∃ r h', S__law_take [.ref p, .int many] h = .ok (.int r) h' ∧ 0 ≤ r ∧ r < many ∧ PotAt h' p (n + 1) ∧ Step p h h' := by
  obtain ⟨a, b, c, e, a0, a1, b0, b1, c0, c1⟩ := P.ex
  have hp := lstAt_lt e
  have hd1 : divOk many = true := divOk_of hm hb
  by_cases ha : 0 < a
  · refine ⟨a % many, h.set p (.lst [.int (a / many), .int b, .int c]), ?_, Int.emod_nonneg _ (by omega), Int.emod_lt_of_pos _ hm, ⟨a / many, b, c, lstAt_set hp, ?_, ?_, b0, b1, c0, by omega⟩, Step.set _ _ _⟩
    · dsimp? [S__law_take, v_ixL e, v_vPut e, v_mod hm, v_div hd1, ha]
    · exact Int.ediv_nonneg a0 (by omega)
    · exact Int.lt_of_le_of_lt (Int.ediv_le_self _ a0) a1
  · have a00 : a = 0 := by omega
    subst a00
    have e2 : lstAt (h.set p (.lst [.int 0, .int b, .int (c + 1)])) p = some [.int 0, .int b, .int (c + 1)] := lstAt_set hp
    have q1 := Int.emod_nonneg ((b + 104729 * (c + 1)) ^ 3) (b := 2305843009213693921) (by decide)
    have q2 := Int.emod_lt_of_pos ((b + 104729 * (c + 1)) ^ 3) (b := 2305843009213693921) (by decide)
    have w1 : (b + 104729 * (c + 1)).natAbs.log2 < 10000 := l64 (by omega) (by omega)
    have w2 : ((b + 104729 * (c + 1)) ^ 3 % 2305843009213693921 + b % 65537 + 31 * (c + 1)).natAbs.log2 < 10000 := l64 (by omega) (by omega)
    have w3 : mulOk 104729 (c + 1) = true := mulOk_of (l64 (by decide) (by decide)) (l64 (by omega) (by omega))
    have w4 : mulOk 31 (c + 1) = true := mulOk_of (l64 (by decide) (by decide)) (l64 (by omega) (by omega))
    refine ⟨_, h.set p (.lst [.int 0, .int b, .int (c + 1)]), ?_, Int.emod_nonneg (((b + 104729 * (c + 1)) ^ 3 % 2305843009213693921 + b % 65537 + 31 * (c + 1)) ^ 5 % 2305843009213693907 / 1024) (by omega), Int.emod_lt_of_pos _ hm, ⟨0, b, c + 1, e2, by omega, by decide, b0, b1, by omega, by omega⟩, Step.set _ _ _⟩
    dsimp? [S__law_take, v_ixL e, v_vPut e, v_ixL e2, v_mod, hm, v_div, divOk_of, hd1, v_mul w3, v_mul w4, v_pow, w1, w2]
theorem v_pow10 {j : Int} {h : Hq} (e0 : 0 ≤ j) (e1 : j ≤ 1000) : dPow (.int 10) (.int j) h = .ok (.int (10 ^ j.toNat)) h := v_pow e0 e1 (by decide)
theorem pot_ok {h : Hq} {ns : List Int} {k : Nat} (hk : k < 100) : ∃ l, S__law_pot [.scr ns, .int k] h = .ok (.ref h.length) (h ++ [.lst l]) ∧ PotAt (h ++ [.lst l]) h.length 0 := by
  have key : ∀ c : Int, 0 ≤ c → c < 10 ^ 600 → ∀ x : Int, 0 ≤ x → x < 2 ^ 61 → PotAt (h ++ [.lst [D.int (c * (if 1000000000000000000 ≤ c then 1 else 0)), D.int x, D.int 0]]) h.length 0 := by
    intro c c0 c1 x x0 x1
    refine ⟨⟨c * (if 1000000000000000000 ≤ c then 1 else 0), x, 0, by unfold lstAt; simp, ?_, ?_, x0, x1, by decide, by decide⟩⟩
    · split <;> omega
    · have : (10 : Int) ^ 600 < 2 ^ 2000 := by decide
      split <;> omega
  have m1 : mulOk 7919 k = true := mulOk_of (by decide) (l64 (by omega) (by omega))
  by_cases hl : (k : Int) < ns.length
  · have hl' : k < ns.length := by omega
    have ix : atI ns (k : Int) = some ns[k] := by unfold atI ixN; simp [hl']
    obtain ⟨M, hM⟩ : ∃ M : Int, M = 10 ^ 600 := ⟨_, rfl⟩
    obtain ⟨c, hc⟩ : ∃ c : Int, c = (if ns[k] < 0 then -ns[k] else ns[k]) % M := ⟨_, rfl⟩
    have M0 : 0 < M := by rw [hM]; decide
    have c0 : 0 ≤ c := by rw [hc]; exact Int.emod_nonneg _ (by omega)
    have c1 : c < 10 ^ 600 := by rw [← hM, hc]; exact Int.emod_lt_of_pos _ M0
    have dm : ∀ h, dMod (.int (if ns[k] < 0 then -ns[k] else ns[k])) (.int M) h = .ok (.int c) h := fun h => by rw [hc]; exact v_mod M0
    have dp : ∀ h, dPow (.int 1000000000000000000000000000000000000000000000000000000000000) (.int 10) h = .ok (.int M) h := fun h => by rw [hM]; exact (v_pow (by decide) (by decide) (by decide)).trans (by congr 2)
    have mk : mulOk c (if 1000000000000000000 ≤ c then 1 else 0) = true := by
      have e : (10 : Int) ^ 600 < 2 ^ 2000 := by decide
      refine mulOk_of (Nat.lt_of_lt_of_le (lgI (k := 2000) (by omega) (by omega) (by decide)) (by decide)) ?_
      split <;> decide
    have q0 := Int.emod_nonneg c (b := 2147483629) (by decide)
    have q1 := Int.emod_lt_of_pos c (b := 2147483629) (by decide)
    have pw : (c % 2147483629 + 7919 * k + 1).natAbs.log2 < 10000 := l64 (by omega) (by omega)
    refine ⟨_, ?_, key c c0 c1 ((c % 2147483629 + 7919 * k + 1) ^ 5 % 2305843009213693951) (Int.emod_nonneg _ (by decide)) (Int.lt_of_lt_of_le (Int.emod_lt_of_pos _ (by decide)) (by decide))⟩
    dsimp? [S__law_pot, v_pow10, hl', v_ixS ix, dp, dm, v_mul m1, v_mul mk, v_pow, pw, v_mod]
  · have hl' : ¬ k < ns.length := by omega
    have mk : mulOk 0 0 = true := by decide
    have pw : (7919 * (k : Int) + 1).natAbs.log2 < 10000 := l64 (by omega) (by omega)
    refine ⟨_, ?_, key 0 (by decide) (by decide) ((7919 * k + 1) ^ 5 % 2305843009213693951) (Int.emod_nonneg _ (by decide)) (Int.lt_of_lt_of_le (Int.emod_lt_of_pos _ (by decide)) (by decide))⟩
    dsimp? [S__law_pot, v_pow10, hl', v_mul m1, v_mul mk, v_pow, pw, v_mod]
def gI (o u : Int) : Int := ((Nat.gcd o.natAbs u.natAbs : Nat) : Int)
theorem gI_pos {o u : Int} (h : u ≠ 0) : 0 < gI o u := by
  unfold gI
  have : 0 < Nat.gcd o.natAbs u.natAbs := Nat.gcd_pos_of_pos_right _ (by omega)
  omega
theorem gI_le {o u : Int} (h : 0 < u) : gI o u ≤ u := by
  unfold gI
  have := Nat.gcd_le_right o.natAbs (show 0 < u.natAbs by omega)
  omega
theorem euclid {s : Hq} {x y : Option D} : ∀ (n : Nat) (a b : Nat), b ≤ n → whileN (bOf (eOp (dEqs true) (eV 3) (eK (.int 0)))) (sSeq (sPar 2 3 (aCons (eV 3) (aCons (eOp dMod (eV 2) (eV 3)) (aNil)))) (sEnd)) (n + 1) [x, y, some (.int a), some (.int b)] s = some (.nx [x, y, some (.int (Nat.gcd a b : Nat)), some (.int 0)] s)
  | n, a, 0, _ => by
    unfold whileN
    have e : bOf (eOp (dEqs true) (eV 3) (eK (.int 0))) [x, y, some (.int a), some (.int (0 : Nat))] s = .ok false s := by dsimp? []
    rw [e]
    simp
  | 0, a, b + 1, h => by omega
  | n + 1, a, b + 1, h => by
    unfold whileN
    have hb : (0 : Int) < ((b + 1 : Nat) : Int) := by omega
    have e : bOf (eOp (dEqs true) (eV 3) (eK (.int 0))) [x, y, some (.int a), some (.int ((b + 1 : Nat) : Int))] s = .ok true s := by
      have : ¬ ((b : Int) + 1 = 0) := by omega
      dsimp? [this]
    have e2 : (sSeq (sPar 2 3 (aCons (eV 3) (aCons (eOp dMod (eV 2) (eV 3)) (aNil)))) (sEnd)) [x, y, some (.int a), some (.int ((b + 1 : Nat) : Int))] s = .nx [x, y, some (.int ((b + 1 : Nat) : Int)), some (.int ((a % (b + 1) : Nat) : Int))] s := by
      have hb' : (0 : Int) < (b : Int) + 1 := by omega
      dsimp? [v_mod hb']
    rw [e]
    dsimp only
    rw [e2]
    dsimp only
    rw [euclid n (b + 1) (a % (b + 1)) (by have := Nat.mod_lt a (show 0 < b + 1 by omega); omega)]
    have : Nat.gcd (b + 1) (a % (b + 1)) = Nat.gcd a (b + 1) := by
      rw [Nat.gcd_comm a (b + 1), Nat.gcd_rec (b + 1) a, Nat.gcd_comm]
    rw [this]
theorem lowL_ok {h : Hq} {o u : Int} (hu : 0 < u) (hb : u < 2 ^ 8000) : S__law_lowest [.int o, .int u] h = .ok (.tup [.int (o / gI o u), .int (u / gI o u)]) h := by
  have hd : divOk (gI o u) = true := divOk_of (gI_pos (by omega)) (Int.lt_of_le_of_lt (gI_le hu) hb)
  have ew : sWhile (bOf (eOp (dEqs true) (eV 3) (eK (.int 0)))) (sSeq (sPar 2 3 (aCons (eV 3) (aCons (eOp dMod (eV 2) (eV 3)) (aNil)))) (sEnd)) [some (.int o), some (.int u), some (.int (if o < 0 then -o else o)), some (.int u)] h = .nx [some (.int o), some (.int u), some (.int (gI o u)), some (.int 0)] h := by
    have := euclid (s := h) (x := some (.int o)) (y := some (.int u)) u.natAbs o.natAbs u.natAbs (Nat.le_refl _)
    have e1 : ((o.natAbs : Nat) : Int) = if o < 0 then -o else o := by split <;> omega
    have e2 : ((u.natAbs : Nat) : Int) = u := by omega
    rw [e1, e2] at this
    exact sWhile_eq this
  unfold S__law_lowest
  dsimp? [ew, v_div hd]
theorem Step.lst {p q : Nat} {h h' : Hq} {l : List D} (S : Step p h h') (n : q ≠ p) (e : lstAt h q = some l) : lstAt h' q = some l := by
  have e' := lstAt_some e
  have := S.old q n (lstAt_lt e)
  unfold lstAt
  rw [this, e']
theorem Step.get {p q : Nat} {h h' : Hq} {c : Cell} (S : Step p h h') (n : q ≠ p) (e : h[q]? = some c) : h'[q]? = some c := by
  rw [S.old q n (List.getElem?_eq_some_iff.mp e).1, e]
theorem PotAt.lt {h : Hq} {p : Nat} {n : Int} (P : PotAt h p n) : p < h.length := by
  obtain ⟨a, b, c, e, _⟩ := P.ex
  exact lstAt_lt e
theorem lst_new (h : Hq) (l : List D) : lstAt (h ++ [.lst l]) h.length = some l := by unfold lstAt; simp
structure Sh (q : PyData) (k w : Nat) : Prop where
  sh : q.showable = true
  hd : q.hasDict = false
  dp : q.depth ≤ k
  ls : q.leavesShort 2000 = true
  wt : q.weight ≤ w
theorem lg300 {i : Int} (a : -(2 ^ 300) < i) (b : i < 2 ^ 300) : i.natAbs.log2 < 300 := lgI (k := 300) a b (by decide)
theorem Sh.int {i : Int} (a : -(2 ^ 300) < i) (b : i < 2 ^ 300) : Sh (.int i) 0 301 := by
  have h1 := lg300 a b
  refine ⟨decide_eq_true (by omega), rfl, Nat.le_refl _, decide_eq_true ?_, ?_⟩
  · exact Nat.le_trans (PyProof.Rows.int_text_len_1921 (by omega)) (by decide)
  · show (if i == 0 then 0 else i.natAbs.log2 + 1) ≤ 301
    split <;> omega
theorem seq_sh {k w : Nat} : ∀ {ps : List PyData}, (∀ q ∈ ps, Sh q k w) → PyData.showableAll ps = true ∧ PyData.hasDictAll ps = false ∧ PyData.depthAll ps ≤ k ∧ PyData.leavesShortAll 2000 ps = true ∧ PyData.weightAll ps ≤ ps.length * (w + 1)
  | [], _ => ⟨rfl, rfl, Nat.zero_le _, rfl, by simp [PyData.weightAll]⟩
  | q :: ps, h => by
    obtain ⟨a1, a2, a3, a4, a5⟩ := h q (by simp)
    obtain ⟨b1, b2, b3, b4, b5⟩ := seq_sh (ps := ps) fun r hr => h r (by simp [hr])
    refine ⟨by simp [PyData.showableAll, a1, b1], by simp [PyData.hasDictAll, a2, b2], ?_, by simp [PyData.leavesShortAll, a4, b4], ?_⟩
    · show max q.depth (PyData.depthAll ps) ≤ k
      omega
    · show q.weight + 1 + PyData.weightAll ps ≤ (ps.length + 1) * (w + 1)
      rw [Nat.add_mul]
      omega
theorem Sh.tup {k w : Nat} {ps : List PyData} (h : ∀ q ∈ ps, Sh q k w) : Sh (.tuple ps) (k + 1) (ps.length * (w + 1)) := by
  obtain ⟨a1, a2, a3, a4, a5⟩ := seq_sh h
  exact ⟨a1, a2, Nat.add_le_add_right a3 1, a4, a5⟩
theorem Sh.lst {k w : Nat} {ps : List PyData} (h : ∀ q ∈ ps, Sh q k w) : Sh (.list ps) (k + 1) (ps.length * (w + 1)) := by
  obtain ⟨a1, a2, a3, a4, a5⟩ := seq_sh h
  exact ⟨a1, a2, Nat.add_le_add_right a3 1, a4, a5⟩
theorem Sh.more {q : PyData} {k w k' w' : Nat} (s : Sh q k w) (hk : k ≤ k') (hw : w ≤ w') : Sh q k' w' := ⟨s.sh, s.hd, Nat.le_trans s.dp hk, s.ls, Nat.le_trans s.wt hw⟩
end MI
end
section
set_option Elab.async false
set_option linter.all false
set_option autoImplicit false
set_option maxRecDepth 100000
set_option exponentiation.threshold 20000
set_option maxHeartbeats 4000000
open PySem L2
namespace MI
def Bd (B : Nat) (x : Int) : Prop := x.natAbs < 2 ^ B
theorem Bd.mono {A B : Nat} {x : Int} (h : Bd A x) (hab : A ≤ B) : Bd B x := Nat.lt_of_lt_of_le h (Nat.pow_le_pow_right (by decide) hab)
theorem Bd.mul {A B : Nat} {x y : Int} (h : Bd A x) (k : Bd B y) : Bd (A + B) (x * y) := by
  unfold Bd at *
  rw [Int.natAbs_mul, Nat.pow_add]
  exact Nat.mul_lt_mul'' h k
theorem Bd.add {A : Nat} {x y : Int} (h : Bd A x) (k : Bd A y) : Bd (A + 1) (x + y) := by
  unfold Bd at *
  have := Int.natAbs_add_le x y
  rw [Nat.pow_succ]
  omega
theorem Bd.of {B : Nat} {x : Int} (a : -(2 ^ B) < x) (b : x < 2 ^ B) : Bd B x := by
  unfold Bd
  have : ((2 ^ B : Nat) : Int) = (2 ^ B : Int) := by push_cast; rfl
  omega
theorem Bd.lt {B : Nat} {x : Int} (h : Bd B x) : x < 2 ^ B := by
  unfold Bd at h
  have : ((2 ^ B : Nat) : Int) = (2 ^ B : Int) := by push_cast; rfl
  omega
theorem Bd.lg {B : Nat} {x : Int} (h : Bd B x) (hb : B < 400000) : x.natAbs.log2 < 400000 := by
  unfold Bd at h
  by_cases h0 : x.natAbs = 0
  · rw [h0]; decide
  · exact Nat.lt_trans ((Nat.log2_lt h0).mpr h) hb
theorem Bd.mk {A B : Nat} {x y : Int} (h : Bd A x) (k : Bd B y) (ha : A < 400000 := by decide) (hb : B < 400000 := by decide) : mulOk x y = true := mulOk_of (h.lg ha) (k.lg hb)
theorem Bd.div {B : Nat} {x g : Int} (h : Bd B x) : Bd B (x / g) := by
  unfold Bd at *
  exact Nat.lt_of_le_of_lt (Int.natAbs_ediv_le_natAbs x g) h
theorem Bd.one : Bd 1 1 := by unfold Bd; decide
abbrev Qp := Int × Int
/-- a fraction as it lies -/
abbrev dq (q : Qp) : D := .tup [.int q.1, .int q.2]
def lowQ (x y : Int) : Qp := (x / gI x y, y / gI x y)
structure Fq (B : Nat) (q : Qp) : Prop where
  pos : 1 ≤ q.2
  low : gI q.1 q.2 = 1
  b1 : Bd B q.1
  b2 : Bd B q.2
theorem Fq.mono {A B : Nat} {q : Qp} (f : Fq A q) (h : A ≤ B) : Fq B q := ⟨f.pos, f.low, f.b1.mono h, f.b2.mono h⟩
theorem gI_dvd1 (x y : Int) : gI x y ∣ x := by
  unfold gI
  exact Int.ofNat_dvd_left.mpr (Nat.gcd_dvd_left _ _)
theorem gI_dvd2 (x y : Int) : gI x y ∣ y := by
  unfold gI
  exact Int.ofNat_dvd_left.mpr (Nat.gcd_dvd_right _ _)
theorem lowQ_x {x y : Int} : gI x y * (lowQ x y).1 = x := Int.mul_ediv_cancel' (gI_dvd1 x y)
theorem lowQ_y {x y : Int} : gI x y * (lowQ x y).2 = y := Int.mul_ediv_cancel' (gI_dvd2 x y)
theorem lowQ_pos {x y : Int} (h : 0 < y) : 0 < (lowQ x y).2 := by
  have g := gI_pos (o := x) (u := y) (by omega)
  have e := lowQ_y (x := x) (y := y)
  by_cases q : 0 < (lowQ x y).2
  · exact q
  · have := Int.mul_nonpos_of_nonneg_of_nonpos (a := gI x y) (b := (lowQ x y).2) (by omega) (by omega)
    omega
theorem lowQ_low {x y : Int} (h : 0 < y) : gI (lowQ x y).1 (lowQ x y).2 = 1 := by
  have g : 0 < Nat.gcd x.natAbs y.natAbs := Nat.gcd_pos_of_pos_right _ (by omega)
  have gp := gI_pos (o := x) (u := y) (by omega)
  have e1 : (x / gI x y).natAbs = x.natAbs / Nat.gcd x.natAbs y.natAbs := by
    rw [Int.natAbs_ediv_of_dvd (gI_dvd1 x y)]; rfl
  have e2 : (y / gI x y).natAbs = y.natAbs / Nat.gcd x.natAbs y.natAbs := by
    rw [Int.natAbs_ediv_of_dvd (gI_dvd2 x y)]; rfl
  show ((Nat.gcd (x / gI x y).natAbs (y / gI x y).natAbs : Nat) : Int) = 1
  rw [e1, e2, Nat.gcd_div_gcd_div_gcd_of_pos_right (by omega)]
  rfl
theorem lowQ_ok {B : Nat} {x y : Int} (h : 0 < y) (a : Bd B x) (b : Bd B y) : Fq B (lowQ x y) := ⟨lowQ_pos h, lowQ_low h, a.div, b.div⟩
theorem lowQ_cross {x y : Int} (h : 0 < y) : (lowQ x y).1 * y = x * (lowQ x y).2 := by
  have e1 := lowQ_x (x := x) (y := y)
  have e2 := lowQ_y (x := x) (y := y)
  generalize lowQ x y = q at *
  generalize gI x y = g at *
  subst e1 e2
  grind
/-- two in lowest terms of one worth are one -/
theorem Fq.eq {a b c d : Int} (hb : 0 < b) (hd : 0 < d) (g1 : gI a b = 1) (g2 : gI c d = 1) (e : a * d = c * b) : a = c ∧ b = d := by
  unfold gI at g1 g2
  have c1 : Nat.Coprime b.natAbs a.natAbs := by unfold Nat.Coprime; rw [Nat.gcd_comm]; omega
  have c2 : Nat.Coprime d.natAbs c.natAbs := by unfold Nat.Coprime; rw [Nat.gcd_comm]; omega
  have en : a.natAbs * d.natAbs = c.natAbs * b.natAbs := by rw [← Int.natAbs_mul, ← Int.natAbs_mul, e]
  have d1 : b.natAbs ∣ d.natAbs := c1.dvd_of_dvd_mul_left (by rw [en]; exact Nat.dvd_mul_left _ _)
  have d2 : d.natAbs ∣ b.natAbs := c2.dvd_of_dvd_mul_left (by rw [← en]; exact Nat.dvd_mul_left _ _)
  have e1 := Nat.dvd_antisymm d1 d2
  have e2 : b = d := by omega
  subst e2
  exact ⟨Int.eq_of_mul_eq_mul_right (by omega) e, rfl⟩
def qlt (a b : Qp) : Prop := a.1 * b.2 < b.1 * a.2
instance (a b : Qp) : Decidable (qlt a b) := inferInstanceAs (Decidable (_ < _))
section
variable {h : Hq} {a b c d : Int}
theorem qx0 {x y : D} : dIx (.tup [x, y]) (.int 0) h = .ok x h := v_ixT rfl
theorem qx1 {x y : D} : dIx (.tup [x, y]) (.int 1) h = .ok y h := v_ixT rfl
theorem less_ok {A : Nat} (ha : Bd A a) (hb : Bd A b) (hc : Bd A c) (hd : Bd A d) (hA : A < 400000 := by decide) : S__law_less [.tup [.int a, .int b], .tup [.int c, .int d]] h = .ok (.bl (decide (a * d < c * b))) h := by
  dsimp? [S__law_less, qx0, qx1, v_mul (ha.mk hd hA hA), v_mul (hc.mk hb hA hA)]
theorem v_eqT2b {i j k l : Int} {n : Bool} : dEqs n (.tup [.int i, .int j]) (.tup [.int k, .int l]) h = .ok (.bl ((i == k && j == l) != n)) h := by
  unfold dEqs eqQ dEqP
  simp [toPy, opts, SeqAt.shaped, PyData.eqv, PyData.eqvAll, PyData.canLay0, PyData.canLayAll0, PyData.depth, PyData.depthAll]
theorem low_ok {B : Nat} (hb : 0 < b) (b2 : Bd B b) (hB : B ≤ 8000 := by decide) : S__law_lowest [.int a, .int b] h = .ok (dq (lowQ a b)) h := lowL_ok hb (b2.mono hB).lt
/-- within what is reckoned with -/
def mom (q : Qp) : Prop := 0 ≤ q.1 ∧ q.1 ≤ 1000000 * q.2
instance (q : Qp) : Decidable (mom q) := inferInstanceAs (Decidable (_ ∧ _))
end
end MI
end
section
set_option Elab.async false
set_option linter.all false
set_option autoImplicit false
set_option maxRecDepth 100000
set_option exponentiation.threshold 20000
set_option maxHeartbeats 4000000
open PySem L2
namespace MI
theorem PotAt.put {h : Hq} {p q : Nat} {n : Int} (P : PotAt h p n) (hq : q ≠ p) (c : Cell) : PotAt (h.set q c) p n := by
  obtain ⟨a, b, d, e, r⟩ := P.ex
  refine ⟨a, b, d, ?_, r⟩
  have e' := lstAt_some e
  unfold lstAt
  rw [List.getElem?_set_ne hq, e']
end MI
end
section
set_option Elab.async false
set_option linter.all false
set_option autoImplicit false
set_option maxRecDepth 100000
set_option exponentiation.threshold 20000
set_option maxHeartbeats 4000000
open PySem L2
namespace MI
section
variable {α β : Type}
def W (r : Rs α) (Φ : Rs α → Prop) : Prop := Φ r
def Z (s : SR) (Ψ : SR → Prop) : Prop := Ψ s
/-- by a truth: what is to come stays shut till it is known -/
def BrW {γ : Type} (c : Bool) (A B : Hq → Rs γ) (h : Hq) (Φ : Rs γ → Prop) : Prop := match c with
  | true => W (A h) Φ
  | false => W (B h) Φ
def BrZ (c : Bool) (A B : Hq → SR) (h : Hq) (Ψ : SR → Prop) : Prop := match c with
  | true => Z (A h) Ψ
  | false => Z (B h) Ψ
section
variable {γ : Type} {c : Bool} {A B : Hq → Rs γ} {h : Hq} {Φ : Rs γ → Prop} {A' B' : Hq → SR} {Ψ : SR → Prop} {p : Prop} [Decidable p]
theorem brw_t : BrW true A B h Φ = W (A h) Φ := rfl
theorem brw_f : BrW false A B h Φ = W (B h) Φ := rfl
theorem brz_t : BrZ true A' B' h Ψ = Z (A' h) Ψ := rfl
theorem brz_f : BrZ false A' B' h Ψ = Z (B' h) Ψ := rfl
theorem brw (h1 : c = true → W (A h) Φ) (h2 : c = false → W (B h) Φ) : BrW c A B h Φ := by
  cases c
  · exact h2 rfl
  · exact h1 rfl
theorem brz (h1 : c = true → Z (A' h) Ψ) (h2 : c = false → Z (B' h) Ψ) : BrZ c A' B' h Ψ := by
  cases c
  · exact h2 rfl
  · exact h1 rfl
theorem brwP (h1 : p → W (A h) Φ) (h2 : ¬ p → W (B h) Φ) : BrW (decide p) A B h Φ := brw (fun e => h1 (of_decide_eq_true e)) fun e => h2 (of_decide_eq_false e)
theorem brzP (h1 : p → Z (A' h) Ψ) (h2 : ¬ p → Z (B' h) Ψ) : BrZ (decide p) A' B' h Ψ := brz (fun e => h1 (of_decide_eq_true e)) fun e => h2 (of_decide_eq_false e)
end
def kB (f : α → Hq → Rs β) (Φ : Rs β → Prop) : Rs α → Prop
  | .ok a h => W (f a h) Φ
  | .exc x h => Φ (.exc x h)
  | .no => Φ .no
def kI (f : α → Hq → SR) (Ψ : SR → Prop) : Rs α → Prop
  | .ok a h => Z (f a h) Ψ
  | .exc x h => Ψ (.exc x h)
  | .no => Ψ .no
def kT (g : Ss) (Ψ : SR → Prop) : SR → Prop
  | .nx fr h => Z (g fr h) Ψ
  | .rt d h => Ψ (.rt d h)
  | .bk fr h => Ψ (.bk fr h)
  | .ct fr h => Ψ (.ct fr h)
  | .exc x h => Ψ (.exc x h)
  | .no => Ψ .no
def kF (Φ : Rs D → Prop) (s : SR) : Prop := Φ (fin s)
theorem w_bind {r : Rs α} {f : α → Hq → Rs β} {Φ : Rs β → Prop} : W (r.bind f) Φ = W r (kB f Φ) := by cases r <;> rfl
theorem z_into {r : Rs α} {f : α → Hq → SR} {Ψ : SR → Prop} : Z (r.into f) Ψ = W r (kI f Ψ) := by cases r <;> rfl
theorem z_then {s : SR} {g : Ss} {Ψ : SR → Prop} : Z (s.then g) Ψ = Z s (kT g Ψ) := by cases s <;> rfl
end
section
variable {α β : Type} {g : D → D → Hq → Rs D} {a b c f : Sx} {t u : Sb} {p q : Ss} {as bs : Sa} {lo hi : So} {fr : Fr} {h : Hq} {d e x y : D} {ds es : List D} {i j : Int} {n m k : Nat} {Φ : Rs D → Prop} {Θ : Rs Bool → Prop} {Ξ : Rs (List D) → Prop} {Ψ : SR → Prop}
theorem w_ok {v : α} {Φ : Rs α → Prop} : W (.ok v h) Φ = Φ (.ok v h) := rfl
theorem kB_ok {v : α} {f : α → Hq → Rs β} {Φ : Rs β → Prop} : kB f Φ (.ok v h) = W (f v h) Φ := rfl
theorem kI_ok {v : α} {f : α → Hq → SR} : kI f Ψ (.ok v h) = Z (f v h) Ψ := rfl
theorem w_K : W (eK d fr h) Φ = Φ (.ok d h) := rfl
theorem w_V : W (eV n fr h) Φ = W (vR fr[n]? h) Φ := by rw [v_V]
theorem w_vR : W (vR (some (some d)) h) Φ = Φ (.ok d h) := rfl
def kO1 (g : D → D → Hq → Rs D) (b : Sx) (fr : Fr) (Φ : Rs D → Prop) : Rs D → Prop := kB (fun x h1 => (b fr h1).bind fun y h2 => g x y h2) Φ
def kO2 (g : D → D → Hq → Rs D) (x : D) (Φ : Rs D → Prop) : Rs D → Prop := kB (fun y h2 => g x y h2) Φ
theorem w_Op : W (eOp g a b fr h) Φ = W (a fr h) (kO1 g b fr Φ) := w_bind
theorem kO1_ok : kO1 g b fr Φ (.ok x h) = W (b fr h) (kO2 g x Φ) := w_bind
theorem kO2_ok : kO2 g x Φ (.ok y h) = W (g x y h) Φ := rfl
theorem w_Un {g : D → Hq → Rs D} : W (eUn g a fr h) Φ = W (a fr h) (kB g Φ) := w_bind
def kBl (Θ : Rs Bool → Prop) : Rs D → Prop := fun r => Θ (isB r)
theorem w_bOf : W (bOf a fr h) Θ = W (a fr h) (kBl Θ) := rfl
theorem w_isB {r : Rs D} : W (isB r) Θ = W r (kBl Θ) := rfl
theorem kBl_ok {c : Bool} : kBl Θ (.ok (.bl c) h) = Θ (.ok c h) := rfl
theorem kBl_exc {x : Xn} : kBl Θ (.exc x h) = Θ (.exc x h) := rfl
def kIf {γ : Type} (A B : Hq → Rs γ) (Φ : Rs γ → Prop) : Rs Bool → Prop
  | .ok c h => BrW c A B h Φ
  | .exc x h => Φ (.exc x h)
  | .no => Φ .no
theorem w_ifB {γ : Type} {r : Rs Bool} {A B : Hq → Rs γ} {Φ : Rs γ → Prop} : W (r.bind fun c h1 => if c = true then A h1 else B h1) Φ = W r (kIf A B Φ) := by
  cases r with
  | ok c h => cases c <;> rfl
  | exc x h => rfl
  | no => rfl
theorem kIf_ok {γ : Type} {A B : Hq → Rs γ} {Φ : Rs γ → Prop} {c : Bool} : kIf A B Φ (.ok c h) = BrW c A B h Φ := rfl
theorem kIf_exc {γ : Type} {A B : Hq → Rs γ} {Φ : Rs γ → Prop} {x : Xn} : kIf A B Φ (.exc x h) = Φ (.exc x h) := rfl
def okB (c : Bool) : Hq → Rs Bool := fun h => .ok c h
def okD (d : D) : Hq → Rs D := fun h => .ok d h
theorem w_okB {c : Bool} : W (okB c h) Θ = Θ (.ok c h) := rfl
theorem w_okD : W (okD d h) Φ = Φ (.ok d h) := rfl
theorem w_bAnd : W (bAnd t u fr h) Θ = W (t fr h) (kIf (u fr) (okB false) Θ) := w_ifB
theorem w_bOr : W (bOr t u fr h) Θ = W (t fr h) (kIf (okB true) (u fr) Θ) := w_ifB
def kNot (Θ : Rs Bool → Prop) : Rs Bool → Prop := kB (fun c h1 => .ok (!c) h1) Θ
theorem w_bNot : W (bNot t fr h) Θ = W (t fr h) (kNot Θ) := w_bind
theorem kNot_ok {c : Bool} : kNot Θ (.ok c h) = Θ (.ok (!c) h) := rfl
theorem kNot_exc {x : Xn} : kNot Θ (.exc x h) = Θ (.exc x h) := rfl
theorem w_eAnd : W (eAnd a b fr h) Φ = W (a fr h) (kBl (kIf (b fr) (okD (.bl false)) Φ)) := w_ifB
theorem w_eOr : W (eOr a b fr h) Φ = W (a fr h) (kBl (kIf (okD (.bl true)) (b fr) Φ)) := w_ifB
def kNotV (Φ : Rs D → Prop) : Rs Bool → Prop := kB (fun c h1 => .ok (.bl (!c)) h1) Φ
theorem w_eNot : W (eNot a fr h) Φ = W (a fr h) (kBl (kNotV Φ)) := w_bind
theorem kNotV_ok {c : Bool} : kNotV Φ (.ok c h) = Φ (.ok (.bl (!c)) h) := rfl
theorem w_eIf : W (eIf t a b fr h) Φ = W (t fr h) (kIf (a fr) (b fr) Φ) := w_ifB
theorem wipeF_nil : wipeF fr [] = fr := rfl
theorem wipeF_cons {vs : List Nat} : wipeF fr (n :: vs) = (wipeF fr vs).set n none := rfl
theorem w_Yes : W (cYes fr h) Θ = Θ (.ok true h) := rfl
theorem w_aNil : W (aNil fr h) Ξ = Ξ (.ok [] h) := rfl
def kA1 (as : Sa) (fr : Fr) (Ξ : Rs (List D) → Prop) : Rs D → Prop := kB (fun x h1 => (as fr h1).bind fun xs h2 => .ok (x :: xs) h2) Ξ
def kA2 (x : D) (Ξ : Rs (List D) → Prop) : Rs (List D) → Prop := kB (fun xs h2 => .ok (x :: xs) h2) Ξ
theorem w_aCons : W (aCons a as fr h) Ξ = W (a fr h) (kA1 as fr Ξ) := w_bind
theorem kA1_ok : kA1 as fr Ξ (.ok x h) = W (as fr h) (kA2 x Ξ) := w_bind
theorem kA2_ok : kA2 x Ξ (.ok ds h) = Ξ (.ok (x :: ds) h) := rfl
theorem kA1_exc {z : Xn} : kA1 as fr Ξ (.exc z h) = Ξ (.exc z h) := rfl
theorem kA2_exc {z : Xn} : kA2 x Ξ (.exc z h) = Ξ (.exc z h) := rfl
def mkT (ds : List D) (h : Hq) : Rs D := if small ds.length = true then .ok (.tup ds) h else .no
def mkL (ds : List D) (h : Hq) : Rs D := if small ds.length = true then .ok (.ref h.length) (h ++ [.lst ds]) else .no
theorem w_Tup : W (eTup as fr h) Φ = W (as fr h) (kB mkT Φ) := w_bind
theorem w_Lst : W (eLst as fr h) Φ = W (as fr h) (kB mkL Φ) := w_bind
theorem w_mkT (e : small ds.length = true) : W (mkT ds h) Φ = Φ (.ok (.tup ds) h) := by unfold mkT W; rw [if_pos e]
theorem w_mkL (e : small ds.length = true) : W (mkL ds h) Φ = Φ (.ok (.ref h.length) (h ++ [.lst ds])) := by unfold mkL W; rw [if_pos e]
theorem w_Dct : W (eDct0 fr h) Φ = Φ (.ok (.ref h.length) (h ++ [.dct []])) := rfl
theorem w_SoSe {f : Sx} : W (eSoSe f fr h) Φ = W (f fr h) (kB gSoSe Φ) := w_bind
theorem w_Dct2 {a b : Str} {i j : Int} : W (eDct2 a b i j fr h) Φ = Φ (.ok (.ref h.length) (h ++ [.dct [(.inr a, .int i), (.inr b, .int j)]])) := rfl
def goS (n : Nat) (sem : Sf) (ds : List D) (h : Hq) : Rs D := if ds.length = n then sem ds h else .no
theorem w_Call {sem : Sf} : W (eCall n sem as fr h) Φ = W (as fr h) (kB (goS n sem) Φ) := w_bind
theorem w_goS {sem : Sf} (e : ds.length = n) : W (goS n sem ds h) Φ = W (sem ds h) Φ := by unfold goS; rw [if_pos e]
theorem w_Bi {g : List D → Hq → Rs D} : W (eBi g as fr h) Φ = W (as fr h) (kB g Φ) := w_bind
theorem w_Isi {T : String} : W (eIsi T a fr h) Φ = W (a fr h) (kB (gIsi T) Φ) := w_bind
def kC1 (lo hi : So) (fr : Fr) (Φ : Rs D → Prop) : Rs D → Prop := kB (fun x h1 => (lo fr h1).bind fun l h2 => (hi fr h2).bind fun u h3 => dCut x l u h3) Φ
def kC2 (x : D) (hi : So) (fr : Fr) (Φ : Rs D → Prop) : Rs (Option Int) → Prop := kB (fun l h2 => (hi fr h2).bind fun u h3 => dCut x l u h3) Φ
def kC3 (x : D) (l : Option Int) (Φ : Rs D → Prop) : Rs (Option Int) → Prop := kB (fun u h3 => dCut x l u h3) Φ
theorem w_Cut : W (eCut a lo hi fr h) Φ = W (a fr h) (kC1 lo hi fr Φ) := w_bind
theorem kC1_ok : kC1 lo hi fr Φ (.ok x h) = W (lo fr h) (kC2 x hi fr Φ) := w_bind
theorem kC2_ok {l : Option Int} : kC2 x hi fr Φ (.ok l h) = W (hi fr h) (kC3 x l Φ) := w_bind
theorem kC3_ok {l r : Option Int} : kC3 x l Φ (.ok r h) = W (dCut x l r h) Φ := rfl
variable {Ω : Rs (Option Int) → Prop}
theorem w_oNone : W (oNone fr h) Ω = Ω (.ok none h) := rfl
theorem w_oSome : W (oSome a fr h) Ω = W (a fr h) (kB vO Ω) := by rw [v_oSome]; exact w_bind
theorem w_vO : W (vO (.int i) h) Ω = Ω (.ok (some i) h) := rfl
def kCh1 (p q : Int → Int → Bool) (b c : Sx) (fr : Fr) (Φ : Rs D → Prop) : Rs D → Prop := kB (fun x h1 => (b fr h1).bind fun y h2 => match x, y with
  | .int i, .int j => if p i j = true then (c fr h2).bind fun z h3 => dRel q (.int j) z h3 else .ok (.bl false) h2
  | _, _ => .no) Φ
def kCh2 (p q : Int → Int → Bool) (x : D) (c : Sx) (fr : Fr) (Φ : Rs D → Prop) : Rs D → Prop := kB (fun y h2 => match x, y with
  | .int i, .int j => if p i j = true then (c fr h2).bind fun z h3 => dRel q (.int j) z h3 else .ok (.bl false) h2
  | _, _ => .no) Φ
def kCh3 (q : Int → Int → Bool) (j : Int) (Φ : Rs D → Prop) : Rs D → Prop := kB (fun z h3 => dRel q (.int j) z h3) Φ
theorem w_Chain {p q : Int → Int → Bool} : W (eChain p q a b c fr h) Φ = W (a fr h) (kCh1 p q b c fr Φ) := w_bind
theorem kCh1_ok {p q : Int → Int → Bool} : kCh1 p q b c fr Φ (.ok x h) = W (b fr h) (kCh2 p q x c fr Φ) := w_bind
def chA (q : Int → Int → Bool) (j : Int) (c : Sx) (fr : Fr) (h : Hq) : Rs D := (c fr h).bind fun z h3 => dRel q (.int j) z h3
theorem w_chA {q : Int → Int → Bool} : W (chA q j c fr h) Φ = W (c fr h) (kCh3 q j Φ) := w_bind
theorem kCh2_ok {p q : Int → Int → Bool} : kCh2 p q (.int i) c fr Φ (.ok (.int j) h) = BrW (p i j) (chA q j c fr) (okD (.bl false)) h Φ := by
  show W (if p i j = true then (c fr h).bind _ else .ok (.bl false) h) Φ = _
  cases hp : p i j with
  | true => rw [if_pos rfl]; rfl
  | false => rw [if_neg Bool.false_ne_true]; rfl
theorem kCh3_ok {q : Int → Int → Bool} : kCh3 q j Φ (.ok (.int i) h) = Φ (.ok (.bl (q j i)) h) := rfl
theorem w_bTru : W (bTru a fr h) Θ = W (a fr h) (kB truD Θ) := w_bind
def augF (fr : Fr) (i : Nat) (g : Int → Int → Int) (x : Int) (Ψ : SR → Prop) : Rs D → Prop := kI (fun d h1 => match d with
    | .int y => .nx (fr.set i (some (.int (g x y)))) h1
    | _ => .no) Ψ
theorem augF_ok {g : Int → Int → Int} : augF fr n g i Ψ (.ok (.int j) h) = Ψ (.nx (fr.set n (some (.int (g i j)))) h) := rfl
def putF (fo fi : Sx) (fr : Fr) (Ψ : SR → Prop) : Rs D → Prop := kI (fun d h1 => (fo fr h1).into fun o h2 => (fi fr h2).into fun k h3 => vPut d o k fr h3) Ψ
def putG (fi : Sx) (fr : Fr) (d : D) (Ψ : SR → Prop) : Rs D → Prop := kI (fun o h2 => (fi fr h2).into fun k h3 => vPut d o k fr h3) Ψ
def putH (fr : Fr) (d o : D) (Ψ : SR → Prop) : Rs D → Prop := kI (fun k h3 => vPut d o k fr h3) Ψ
theorem z_Put : Z (sPut a b c fr h) Ψ = W (a fr h) (putF b c fr Ψ) := by rw [v_Put]; exact z_into
theorem putF_ok : putF b c fr Ψ (.ok d h) = W (b fr h) (putG c fr d Ψ) := z_into
theorem putG_ok : putG c fr d Ψ (.ok x h) = W (c fr h) (putH fr d x Ψ) := z_into
theorem w_isNn {neg : Bool} : W (dIsN neg .non .non h) Φ = Φ (.ok (.bl (!neg)) h) := by cases neg <;> rfl
theorem w_isNt {neg : Bool} {l : List D} : W (dIsN neg (.tup l) .non h) Φ = Φ (.ok (.bl neg) h) := by cases neg <;> rfl
def apF (f : Sx) (fr : Fr) (o : D) (h1 : Hq) : Rs D := match o with
  | .ref n => match lstAt h1 n with
    | some _ => (f fr h1).bind fun d h2 => match lstAt h2 n with
      | some l => if small (l.length + 1) = true then .ok .non (h2.set n (.lst (l ++ [d]))) else .no
      | none => .no
    | none => .no
  | _ => .no
theorem w_App : W (eApp a b fr h) Φ = W (a fr h) (kB (apF b fr) Φ) := w_bind
def insF (fi fe : Sx) (fr : Fr) (o : D) (h1 : Hq) : Rs D := match o with
  | .ref n => match lstAt h1 n with
    | some _ => (fi fr h1).bind fun k h2 => (fe fr h2).bind fun d h3 => match k with
      | .int j => match lstAt h3 n with
        | some l => if 0 ≤ j ∧ j < 2 ^ 63 ∧ small (l.length + 1) = true then .ok .non (h3.set n (.lst (l.take j.toNat ++ [d] ++ l.drop j.toNat))) else .no
        | none => .no
      | _ => .no
    | none => .no
  | _ => .no
def insH (n : Nat) (k d : D) (h3 : Hq) : Rs D := match k with
      | .int j => match lstAt h3 n with
        | some l => if 0 ≤ j ∧ j < 2 ^ 63 ∧ small (l.length + 1) = true then .ok .non (h3.set n (.lst (l.take j.toNat ++ [d] ++ l.drop j.toNat))) else .no
        | none => .no
      | _ => .no
def insG (fe : Sx) (fr : Fr) (n : Nat) (k : D) (h2 : Hq) : Rs D := (fe fr h2).bind (insH n k)
theorem w_Ins {c : Sx} : W (eIns a b c fr h) Φ = W (a fr h) (kB (insF b c fr) Φ) := w_bind
theorem w_insF {l : List D} (e : lstAt h n = some l) : W (insF b c fr (.ref n) h) Φ = W (b fr h) (kB (insG c fr n) Φ) := by
  unfold insF
  simp only [e]
  exact w_bind
theorem w_insG : W (insG b fr n x h) Φ = W (b fr h) (kB (insH n x) Φ) := w_bind
theorem w_insH {l : List D} (e : lstAt h n = some l) (j0 : 0 ≤ j) (j1 : j < 2 ^ 63) (s : small (l.length + 1) = true) : W (insH n (.int j) d h) Φ = Φ (.ok .non (h.set n (.lst (l.take j.toNat ++ [d] ++ l.drop j.toNat)))) := by
  unfold insH W
  simp only [e]
  rw [if_pos ⟨j0, j1, s⟩]
theorem z_nx : Z (.nx fr h) Ψ = Ψ (.nx fr h) := rfl
theorem z_End : Z (sEnd fr h) Ψ = Ψ (.nx fr h) := rfl
theorem z_Seq : Z (sSeq p q fr h) Ψ = Z (p fr h) (kT q Ψ) := z_then
theorem kT_nx : kT q Ψ (.nx fr h) = Z (q fr h) Ψ := rfl
theorem kT_rt : kT q Ψ (.rt d h) = Ψ (.rt d h) := rfl
theorem kT_bk : kT q Ψ (.bk fr h) = Ψ (.bk fr h) := rfl
theorem kT_ct : kT q Ψ (.ct fr h) = Ψ (.ct fr h) := rfl
theorem kT_exc {x : Xn} : kT q Ψ (.exc x h) = Ψ (.exc x h) := rfl
def kIfS (A B : Hq → SR) (Ψ : SR → Prop) : Rs Bool → Prop
  | .ok c h => BrZ c A B h Ψ
  | .exc x h => Ψ (.exc x h)
  | .no => Ψ .no
theorem z_If : Z (sIf t p q fr h) Ψ = W (t fr h) (kIfS (p fr) (q fr) Ψ) := by
  show Z ((t fr h).into _) Ψ = _
  cases t fr h with
  | ok c h1 => cases c <;> rfl
  | exc x h1 => rfl
  | no => rfl
theorem kIfS_ok {A B : Hq → SR} {c : Bool} : kIfS A B Ψ (.ok c h) = BrZ c A B h Ψ := rfl
theorem kIfS_exc {A B : Hq → SR} {x : Xn} : kIfS A B Ψ (.exc x h) = Ψ (.exc x h) := rfl
def kRet (Ψ : SR → Prop) : Rs D → Prop
  | .ok d h => Ψ (.rt d h)
  | .exc x h => Ψ (.exc x h)
  | .no => Ψ .no
theorem z_Ret : Z (sRet a fr h) Ψ = W (a fr h) (kRet Ψ) := by
  show Z ((a fr h).into _) Ψ = _
  cases a fr h <;> rfl
theorem kRet_ok : kRet Ψ (.ok d h) = Ψ (.rt d h) := rfl
theorem kRet_exc {x : Xn} : kRet Ψ (.exc x h) = Ψ (.exc x h) := rfl
def kNx (fr : Fr) (Ψ : SR → Prop) : Rs D → Prop
  | .ok _ h => Ψ (.nx fr h)
  | .exc x h => Ψ (.exc x h)
  | .no => Ψ .no
theorem z_Expr : Z (sExpr a fr h) Ψ = W (a fr h) (kNx fr Ψ) := by
  show Z ((a fr h).into _) Ψ = _
  cases a fr h <;> rfl
theorem kNx_ok : kNx fr Ψ (.ok d h) = Ψ (.nx fr h) := rfl
theorem kNx_exc {x : Xn} : kNx fr Ψ (.exc x h) = Ψ (.exc x h) := rfl
def tgO (fr : Option Fr) (h : Hq) : SR := match fr with
  | some fr' => .nx fr' h
  | none => .no
def kAs (t : Tg) (fr : Fr) (Ψ : SR → Prop) : Rs D → Prop
  | .ok d h => Z (tgO (t d fr) h) Ψ
  | .exc x h => Ψ (.exc x h)
  | .no => Ψ .no
theorem z_Asg {t : Tg} : Z (sAsg a t fr h) Ψ = W (a fr h) (kAs t fr Ψ) := by
  show Z ((a fr h).into _) Ψ = _
  cases a fr h <;> rfl
theorem kAs_ok {t : Tg} : kAs t fr Ψ (.ok d h) = Z (tgO (t d fr) h) Ψ := rfl
theorem kAs_exc {t : Tg} {x : Xn} : kAs t fr Ψ (.exc x h) = Ψ (.exc x h) := rfl
theorem z_tgO {fr' : Fr} : Z (tgO (some fr') h) Ψ = Ψ (.nx fr' h) := rfl
theorem t_N : tgN n d fr = some (fr.set n (some d)) := rfl
theorem t_T {is : List Nat} : tgT is (.tup ds) fr = setAll is ds fr := rfl
theorem t_nil : setAll [] [] fr = some fr := rfl
theorem t_cons {is : List Nat} : setAll (n :: is) (d :: ds) fr = setAll is ds (fr.set n (some d)) := rfl
theorem t_G {ts : List Tg} : tgG ts (.tup ds) fr = setAllT ts ds fr := rfl
theorem t_gnil : setAllT [] [] fr = some fr := rfl
theorem t_gcons {t : Tg} {ts : List Tg} : setAllT (t :: ts) (d :: ds) fr = (t d fr).bind fun fr1 => setAllT ts ds fr1 := rfl
theorem t_bind {f : Fr → Option Fr} : (some fr).bind f = f fr := rfl
def kPar (i j : Nat) (fr : Fr) (Ψ : SR → Prop) : Rs (List D) → Prop := kI (fun ds h1 => match ds with
  | [d, e] => .nx ((fr.set i (some d)).set j (some e)) h1
  | _ => .no) Ψ
theorem z_Par : Z (sPar n m as fr h) Ψ = W (as fr h) (kPar n m fr Ψ) := z_into
theorem kPar_ok : kPar n m fr Ψ (.ok [d, e] h) = Ψ (.nx ((fr.set n (some d)).set m (some e)) h) := rfl
theorem z_Raise {x : Str} : Z (sRaise x fr h) Ψ = Ψ (.exc { cls := x } h) := rfl
theorem z_Break : Z (sBreak fr h) Ψ = Ψ (.bk fr h) := rfl
theorem z_Cont : Z (sCont fr h) Ψ = Ψ (.ct fr h) := rfl
def kSrc (t : Tg) (b : Ss) (fr : Fr) (Ψ : SR → Prop) : Rs Src → Prop := kI (fun S h1 => turns S.get S.fin t b S.n 0 fr h1) Ψ
theorem z_For {src : Si} {t : Tg} : Z (sFor t src p fr h) Ψ = W (src fr h) (kSrc t p fr Ψ) := z_into
theorem kSrc_ok {t : Tg} {S : Src} : kSrc t p fr Ψ (.ok S h) = Z (turns S.get S.fin t p S.n 0 fr h) Ψ := rfl
variable {Sg : Rs Src → Prop}
def rgF (ds : List D) (h1 : Hq) : Rs Src := match ds with
  | [.int j] => iR 0 j h1
  | _ => .no
theorem w_Range : W (iRange as fr h) Sg = W (as fr h) (kB rgF Sg) := w_bind
theorem w_rgF : W (rgF [.int i] h) Sg = W (iR 0 i h) Sg := rfl
def sqF (d : D) (h1 : Hq) : Rs Src := match d with
  | .tup l => .ok (srcT l) h1
  | .ref m => match lstAt h1 m with
    | some l => .ok (srcC m l.length) h1
    | none => .no
  | _ => .no
theorem w_SeqI : W (iSeq a fr h) Sg = W (a fr h) (kB sqF Sg) := w_bind
theorem w_sqT {l : List D} : W (sqF (.tup l) h) Sg = Sg (.ok (srcT l) h) := rfl
theorem w_sqL {l : List D} (e : lstAt h n = some l) : W (sqF (.ref n) h) Sg = Sg (.ok (srcC n l.length) h) := by
  unfold sqF W
  simp only [e]
def zpF (ds : List D) (h1 : Hq) : Rs Src := match ds with
  | [.tup l, .tup m] => .ok (srcZ l m) h1
  | [.ref a, .ref b] => match lstAt h1 a, lstAt h1 b with
    | some l, some m => .ok (srcZL a b (min l.length m.length)) h1
    | _, _ => .no
  | _ => .no
theorem w_Zip : W (iZip2 as fr h) Sg = W (as fr h) (kB zpF Sg) := w_bind
theorem w_zpT {l r : List D} : W (zpF [.tup l, .tup r] h) Sg = Sg (.ok (srcZ l r) h) := rfl
theorem w_zpL {l r : List D} (e : lstAt h n = some l) (e2 : lstAt h m = some r) : W (zpF [.ref n, .ref m] h) Sg = Sg (.ok (srcZL n m (min l.length r.length)) h) := by
  unfold zpF W
  simp only [e, e2]
def kCo (own : List Nat) (t : Tg) (c : Sb) (e : Sx) (fr : Fr) (Φ : Rs D → Prop) : Rs Src → Prop := kB (fun S h1 => picks h1.length S.get S.fin t c e (wipeF fr own) S.n 0 (h1 ++ [.lst []])) Φ
theorem w_Comp {src : Si} {own : List Nat} {t : Tg} {c : Sb} : W (eComp src own t c a fr h) Φ = W (src fr h) (kCo own t c a fr Φ) := w_bind
theorem kCo_ok {own : List Nat} {t : Tg} {c : Sb} {S : Src} : kCo own t c a fr Φ (.ok S h) = W (picks h.length S.get S.fin t c a (wipeF fr own) S.n 0 (h ++ [.lst []])) Φ := rfl
theorem w_of (e : ds.length = n) : W (ofBody n k p ds h) Φ = Z (p (ds.map some ++ List.replicate k none) h) (kF Φ) := by
  rw [v_of e]; rfl
theorem kF_rt : kF Φ (.rt d h) = Φ (.ok d h) := rfl
theorem kF_nx : kF Φ (.nx fr h) = Φ (.ok .non h) := rfl
theorem kF_exc {x : Xn} : kF Φ (.exc x h) = Φ (.exc x h) := rfl
theorem w_add : W (dAdd (.int i) (.int j) h) Φ = Φ (.ok (.int (i + j)) h) := rfl
theorem w_sub : W (dSub (.int i) (.int j) h) Φ = Φ (.ok (.int (i - j)) h) := rfl
theorem w_mul (e : mulOk i j = true) : W (dMul (.int i) (.int j) h) Φ = Φ (.ok (.int (i * j)) h) := by unfold W; rw [v_mul e]
theorem w_pow10 (e0 : 0 ≤ j) (e1 : j ≤ 1000) : W (dPow (.int 10) (.int j) h) Φ = Φ (.ok (.int (10 ^ j.toNat)) h) := by unfold W; rw [v_pow10 e0 e1]
theorem w_neg : W (dNeg (.int i) h) Φ = Φ (.ok (.int (-i)) h) := rfl
theorem w_lt : W (dLt (.int i) (.int j) h) Φ = Φ (.ok (.bl (decide (i < j))) h) := rfl
theorem w_le : W (dLe (.int i) (.int j) h) Φ = Φ (.ok (.bl (decide (i ≤ j))) h) := rfl
theorem w_gt : W (dGt (.int i) (.int j) h) Φ = Φ (.ok (.bl (decide (j < i))) h) := rfl
theorem w_ge : W (dGe (.int i) (.int j) h) Φ = Φ (.ok (.bl (decide (j ≤ i))) h) := rfl
theorem w_ixT {l : List D} (e : atI l i = some d) : W (dIx (.tup l) (.int i) h) Φ = Φ (.ok d h) := by unfold W; rw [v_ixT e]
theorem w_ixL {l : List D} (e0 : lstAt h m = some l) (e : atI l i = some d) : W (dIx (.ref m) (.int i) h) Φ = Φ (.ok d h) := by unfold W; rw [v_ixL e0 e]
theorem atI0 {r : List D} : atI (d :: r) 0 = some d := by
  unfold atI ixN
  simp
theorem atI1 {r : List D} : atI (x :: d :: r) 1 = some d := by
  unfold atI ixN
  simp
  rw [if_pos (by omega)]
  rfl
theorem atI2 {r : List D} : atI (x :: y :: d :: r) 2 = some d := by
  unfold atI ixN
  simp
  rw [if_pos (by omega)]
  rfl
theorem atI3 {z : D} {r : List D} : atI (x :: y :: z :: d :: r) 3 = some d := by
  unfold atI ixN
  simp
  rw [if_pos (by omega)]
  rfl
theorem w_ix0 {r : List D} : W (dIx (.tup (d :: r)) (.int 0) h) Φ = Φ (.ok d h) := w_ixT atI0
theorem w_ix1 {r : List D} : W (dIx (.tup (x :: d :: r)) (.int 1) h) Φ = Φ (.ok d h) := w_ixT atI1
theorem w_ix2 {r : List D} : W (dIx (.tup (x :: y :: d :: r)) (.int 2) h) Φ = Φ (.ok d h) := w_ixT atI2
theorem w_ix3 {z : D} {r : List D} : W (dIx (.tup (x :: y :: z :: d :: r)) (.int 3) h) Φ = Φ (.ok d h) := w_ixT atI3
theorem w_eqI {b : Bool} : W (dEqs b (.int i) (.int j) h) Φ = Φ (.ok (.bl ((i == j) != b)) h) := by unfold W; rw [v_eqI]
theorem w_eqS {x y : Str} {b : Bool} : W (dEqs b (.str x) (.str y) h) Φ = Φ (.ok (.bl (decide (x = y) != b)) h) := by unfold W; rw [v_eqS]
theorem w_eqT2 {o u : Int} {b : Bool} : W (dEqs b (.tup [.int i, .int j]) (.tup [.int o, .int u]) h) Φ = Φ (.ok (.bl ((i == o && j == u) != b)) h) := by unfold W; rw [v_eqT2b]
theorem w_abs : W (gAbs [.int i] h) Φ = Φ (.ok (.int (if i < 0 then -i else i)) h) := rfl
theorem w_lenT {l : List D} : W (gLen [.tup l] h) Φ = Φ (.ok (.int l.length) h) := rfl
theorem w_lenS {l : List Int} : W (gLen [.scr l] h) Φ = Φ (.ok (.int l.length) h) := rfl
theorem w_lenL {l : List D} (e : lstAt h m = some l) : W (gLen [.ref m] h) Φ = Φ (.ok (.int l.length) h) := by unfold W; rw [v_lenL e]
theorem w_max : W (gMax [.int i, .int j] h) Φ = Φ (.ok (.int (if j > i then j else i)) h) := rfl
theorem w_min : W (gMin [.int i, .int j] h) Φ = Φ (.ok (.int (if j < i then j else i)) h) := rfl
theorem w_intT : W (gInt [.bl true] h) Φ = Φ (.ok (.int 1) h) := rfl
theorem w_intF : W (gInt [.bl false] h) Φ = Φ (.ok (.int 0) h) := rfl
theorem w_isBool {c : Bool} : W (gIsi "bool" (.bl c) h) Φ = Φ (.ok (.bl true) h) := by cases c <;> rfl
theorem w_isTup {l : List D} : W (gIsi "tuple" (.tup l) h) Φ = Φ (.ok (.bl true) h) := rfl
theorem w_tupT {l : List D} : W (gTuple [.tup l] h) Φ = Φ (.ok (.tup l) h) := rfl
theorem w_listT {l : List D} : W (gList [.tup l] h) Φ = Φ (.ok (.ref h.length) (h ++ [.lst l])) := rfl
theorem w_cutT {l : List D} {lo hi : Option Int} : W (dCut (.tup l) lo hi h) Φ = Φ (.ok (.tup (cutD l lo hi)) h) := rfl
theorem w_cutL {l : List D} {lo hi : Option Int} (e : lstAt h m = some l) : W (dCut (.ref m) lo hi h) Φ = Φ (.ok (.ref h.length) (h ++ [.lst (cutD l lo hi)])) := by unfold W; rw [v_cutL e]
theorem w_addL {l r : List D} (e1 : lstAt h m = some l) (e2 : lstAt h n = some r) (e : small (l.length + r.length) = true) : W (dAdd (.ref m) (.ref n) h) Φ = Φ (.ok (.ref h.length) (h ++ [.lst (l ++ r)])) := by unfold W; rw [v_addL e1 e2 e]
theorem w_rep {l : List D} (e1 : lstAt h m = some l) (e2 : 0 ≤ i ∧ i < 1000000 ∧ small (l.length * i.toNat) = true) : W (dMul (.ref m) (.int i) h) Φ = Φ (.ok (.ref h.length) (h ++ [.lst (List.replicate i.toNat l).flatten])) := by unfold W; rw [v_rep e1 e2]
end
/-- from what is wanted to what is so -/
theorem W.intro {r : Rs D} {P : D → Hq → Prop} (w : W r fun s => ∃ d h, s = .ok d h ∧ P d h) : ∃ d h, r = .ok d h ∧ P d h := w
theorem W.of {α : Type} {r s : Rs α} {Φ : Rs α → Prop} (e : r = s) (k : Φ s) : W r Φ := by rw [e]; exact k
theorem atI_in {l : List D} {i : Int} (h0 : 0 ≤ i) (h1 : i < l.length) : ∃ d, atI l i = some d ∧ d ∈ l := by
  have hj : i.toNat < l.length := by omega
  refine ⟨l[i.toNat], ?_, List.getElem_mem hj⟩
  unfold atI ixN
  have h3 : ¬ i < 0 := by omega
  simp [h0, h3, h1, hj]
/-- an item of a list that is known, at a place that isn't -/
theorem w_ixP {h : Hq} {m : Nat} {l : List D} {i : Int} {Φ : Rs D → Prop} (P : D → Prop) (e0 : lstAt h m = some l) (h0 : 0 ≤ i) (h1 : i < l.length) (hP : ∀ d ∈ l, P d) (k : ∀ d, P d → Φ (.ok d h)) : W (dIx (.ref m) (.int i) h) Φ := by
  obtain ⟨d, e, hd⟩ := atI_in h0 h1
  exact W.of (v_ixL e0 e) (k d (hP d hd))
section
variable {a b f : Sx} {as : Sa} {fr : Fr} {h : Hq} {m : Nat} {l ds dds xs r : List D} {Φ : Rs D → Prop} {Ξ : Rs (List D) → Prop}
theorem w_aStar : W (aStar a as fr h) Ξ = W (a fr h) (kB (stF as fr) Ξ) := w_bind
def kSt (l : List D) (Ξ : Rs (List D) → Prop) : Rs (List D) → Prop := kB (fun xs h2 => .ok (l ++ xs) h2) Ξ
theorem w_stT : W (stF as fr (.tup l) h) Ξ = W (as fr h) (kSt l Ξ) := w_bind
theorem kSt_ok : kSt l Ξ (.ok xs h) = Ξ (.ok (l ++ xs) h) := rfl
def kDf (dds : List D) (Ξ : Rs (List D) → Prop) : Rs (List D) → Prop := kB (fun ds h1 => .ok (ds ++ dds) h1) Ξ
theorem w_aDef : W (aDef as dds fr h) Ξ = W (as fr h) (kDf dds Ξ) := w_bind
theorem kDf_ok : kDf dds Ξ (.ok ds h) = Ξ (.ok (ds ++ dds) h) := rfl
theorem w_Cnt : W (eCnt a b fr h) Φ = W (a fr h) (kB (cntF b fr) Φ) := w_bind
theorem w_Ext : W (eExt a b fr h) Φ = W (a fr h) (kB (extF b fr) Φ) := w_bind
theorem w_Enum {Sg : Rs Src → Prop} : W (iEnum1 as fr h) Sg = W (as fr h) (kB enF Sg) := w_bind
theorem w_enT {Sg : Rs Src → Prop} : W (enF [.tup l] h) Sg = Sg (.ok (srcE l) h) := rfl
theorem w_isBB {c d neg : Bool} : W (dIsN neg (.bl c) (.bl d) h) Φ = Φ (.ok (.bl ((c == d) != neg)) h) := rfl
theorem w_isIB {i : Int} {d neg : Bool} : W (dIsN neg (.int i) (.bl d) h) Φ = Φ (.ok (.bl neg) h) := rfl
end
end MI
end
local macro_rules
  | `(tactic| simp? [$ts,*]) => `(tactic| simp only [↓MI.w_ok, ↓MI.kB_ok, ↓MI.kI_ok, ↓MI.w_K, ↓MI.w_V, ↓MI.w_vR, ↓MI.w_Op, ↓MI.kO1_ok, ↓MI.kO2_ok, ↓MI.w_Un, ↓MI.w_bOf, ↓MI.w_isB, ↓MI.kBl_ok, ↓MI.kBl_exc, ↓MI.kIf_ok, ↓MI.kIf_exc, ↓MI.w_okB, ↓MI.w_okD, ↓MI.w_bAnd, ↓MI.w_bOr, ↓MI.w_bNot, ↓MI.kNot_ok, ↓MI.kNot_exc, ↓MI.w_eAnd, ↓MI.w_eOr, ↓MI.w_eNot, ↓MI.kNotV_ok, ↓MI.w_eIf, ↓MI.w_aNil, ↓MI.w_aCons, ↓MI.kA1_ok, ↓MI.kA2_ok, ↓MI.kA1_exc, ↓MI.kA2_exc, ↓MI.w_Tup, ↓MI.w_Lst, ↓MI.w_mkT, ↓MI.w_mkL, ↓MI.w_Dct, ↓MI.w_Dct2, ↓MI.w_SoSe, ↓MI.w_Call, ↓MI.w_goS, ↓MI.w_Bi, ↓MI.w_Isi, ↓MI.w_Cut, ↓MI.kC1_ok, ↓MI.kC2_ok, ↓MI.kC3_ok, ↓MI.w_oNone, ↓MI.w_oSome, ↓MI.w_vO, ↓MI.w_Chain, ↓MI.kCh1_ok, ↓MI.kCh2_ok, ↓MI.kCh3_ok, ↓MI.w_chA, ↓MI.w_App, ↓MI.w_Ins, ↓MI.w_insG, ↓MI.z_nx, ↓MI.z_End, ↓MI.z_Seq, ↓MI.kT_nx, ↓MI.kT_rt, ↓MI.kT_bk, ↓MI.kT_ct, ↓MI.kT_exc, ↓MI.z_If, ↓MI.kIfS_ok, ↓MI.kIfS_exc, ↓MI.z_Ret, ↓MI.kRet_ok, ↓MI.kRet_exc, ↓MI.z_Expr, ↓MI.kNx_ok, ↓MI.kNx_exc, ↓MI.z_Asg, ↓MI.kAs_ok, ↓MI.kAs_exc, ↓MI.z_tgO, MI.t_N, MI.t_T, MI.t_nil, MI.t_cons, MI.t_G, MI.t_gnil, MI.t_gcons, MI.t_bind, ↓MI.z_Par, ↓MI.kPar_ok, ↓MI.z_Raise, ↓MI.z_Break, ↓MI.z_Cont, ↓MI.z_For, ↓MI.kSrc_ok, ↓MI.w_Range, ↓MI.w_rgF, ↓MI.w_SeqI, ↓MI.w_sqT, ↓MI.w_Zip, ↓MI.w_zpT, ↓MI.w_Comp, ↓MI.kCo_ok, ↓MI.w_of, ↓MI.kF_rt, ↓MI.kF_nx, ↓MI.kF_exc, ↓MI.w_add, ↓MI.w_sub, ↓MI.w_pow10, ↓MI.w_neg, ↓MI.w_lt, ↓MI.w_le, ↓MI.w_gt, ↓MI.w_ge, ↓MI.w_ix0, ↓MI.w_ix1, ↓MI.w_ix2, ↓MI.w_ix3, ↓MI.w_eqI, ↓MI.w_eqS, ↓MI.w_eqT2, ↓MI.w_abs, ↓MI.w_lenT, ↓MI.w_lenS, ↓MI.w_max, ↓MI.w_min, ↓MI.w_intT, ↓MI.w_intF, ↓MI.w_isBool, ↓MI.w_isTup, ↓MI.w_tupT, ↓MI.w_listT, ↓MI.w_cutT, ↓MI.brw_t, ↓MI.brw_f, ↓MI.brz_t, ↓MI.brz_f, List.getElem?_cons_zero, List.getElem?_cons_succ, List.set_cons_zero, List.set_cons_succ, List.length_cons, List.length_nil, List.map_cons, List.map_nil, List.replicate, List.cons_append, List.nil_append, MI.small, Nat.reduceAdd, Nat.reduceLeDiff, Nat.reduceEqDiff, Int.cast_ofNat_Int, Int.reduceBEq, BEq.rfl, ↓MI.w_Yes, ↓MI.w_bTru, ↓MI.augF_ok, ↓MI.z_Put, ↓MI.putF_ok, ↓MI.putG_ok, ↓MI.w_isNn, ↓MI.w_isNt, MI.wipeF_nil, MI.wipeF_cons, Int.reduceLE, Int.reduceLT, Int.reduceToNat, Int.reducePow, Int.reduceNeg, Int.reduceSub, Int.reduceAdd, Int.reduceMul, decide_true, decide_false, Bool.not_true, Bool.not_false, Bool.bne_false, Bool.bne_true, ↓MI.w_aStar, ↓MI.w_stT, ↓MI.kSt_ok, ↓MI.w_aDef, ↓MI.kDf_ok, ↓MI.w_Cnt, ↓MI.w_Ext, ↓MI.w_isBB, ↓MI.w_isIB, ↓MI.w_Enum, ↓MI.w_enT, $ts,*])
section
set_option Elab.async false
set_option linter.all false
set_option autoImplicit false
set_option maxRecDepth 100000
set_option maxHeartbeats 4000000
namespace MI
open PySem L2
end MI
end
section
set_option Elab.async false
set_option linter.all false
set_option autoImplicit false
set_option maxRecDepth 100000
set_option maxHeartbeats 4000000
open PySem L2
namespace MI
end MI
end
section
set_option Elab.async false
set_option linter.all false
set_option autoImplicit false
set_option maxRecDepth 100000
set_option maxHeartbeats 4000000
namespace MiZl
open PySem PyProof.Rows L2
def itAt (t : Bool) (h : Heap) (it a : Nat) (i : Nat) : Prop := if t = true then h.IsTupleIter it a i else h.IsListIter it a i
theorem itAt.data {t : Bool} {h : Heap} {it a i : Nat} (q : itAt t h it a i) : ∃ o, h.get? it = some o ∧ ∀ v, o.data ≠ .cell v := by
  cases t with
  | true => obtain ⟨o, e, _, d⟩ := q; exact ⟨o, e, fun v q => by rw [d] at q; cases q⟩
  | false => obtain ⟨o, e, _, d⟩ := q; exact ⟨o, e, fun v q => by rw [d] at q; cases q⟩
theorem itAt.at {t : Bool} {h h' : Heap} {it a i : Nat} (q : itAt t h it a i) (k : ∀ o, h.get? it = some o → h'.get? it = some o) : itAt t h' it a i := by
  cases t with
  | true => obtain ⟨o, e, r⟩ := q; exact ⟨o, k o e, r⟩
  | false => obtain ⟨o, e, r⟩ := q; exact ⟨o, k o e, r⟩
theorem itAt.new {t : Bool} {h : Heap} {it a : Nat} (e : h.get? it = some (itO t a)) : itAt t h it a 0 := by
  cases t with
  | true => exact ⟨_, e, rfl, rfl⟩
  | false => exact ⟨_, e, rfl, rfl⟩
section
variable {X : Cx}
theorem Sq.inj {pins : List (Addr × Obj)} {σ : L2.St} {H : Hp} {s : Shared} {t : Bool} {a : Nat} {xs ys : List V} (I : L2.Inv X pins σ H s) (h : Sq X.K H t a xs) (h' : Sq X.K H t a ys) : xs = ys := by
  cases t with
  | true => exact I.tuple_inj h h'
  | false => exact I.list_inj h h'
end
end MiZl
namespace MI
open PySem L2 MiZl
end MI
end
section
set_option Elab.async false
set_option linter.all false
set_option autoImplicit false
set_option maxRecDepth 100000
set_option maxHeartbeats 4000000
namespace L2
open PySem PySem.Spec PyProof.Rows
abbrev Cl := List Value × Option Nat × (Addr → TS)
end L2
end
section
set_option Elab.async false
set_option linter.all false
set_option autoImplicit false
set_option maxRecDepth 100000
set_option maxHeartbeats 4000000
namespace MI
open PySem L2
/-- of two ways: above 0 where the second turns left -/
def vx (d e : Zp) : Int := d.1 * e.2 - d.2 * e.1
def sub (a b : Zp) : Zp := (a.1 - b.1, a.2 - b.2)
def crs (a b c : Zp) : Int := (b.1 - a.1) * (c.2 - a.2) - (b.2 - a.2) * (c.1 - a.1)
/-- ahead in the order, or not at all -/
def pos (d : Zp) : Prop := 0 < d.1 ∨ (d.1 = 0 ∧ 0 < d.2)
def nng (d : Zp) : Prop := 0 < d.1 ∨ (d.1 = 0 ∧ 0 ≤ d.2)
theorem pos.nng {d : Zp} (h : pos d) : nng d := by unfold pos at h; unfold MI.nng; omega
theorem pos_sub {a b : Zp} : pos (sub b a) ↔ zlt a b := by unfold pos sub zlt; dsimp only; omega
theorem vx_id (d e f : Zp) : e.1 * vx d f = d.1 * vx e f + f.1 * vx d e := by unfold vx; grind
theorem vx_anti (d e : Zp) : vx e d = - vx d e := by unfold vx; grind
/-- weak: what turns left, or not at all, of what does -/
theorem tw {d e f : Zp} (pd : nng d) (pe : pos e) (pf : nng f) (h1 : 0 ≤ vx d e) (h2 : 0 ≤ vx e f) : 0 ≤ vx d f := by
  have id := vx_id d e f
  have d1 : 0 ≤ d.1 := by unfold nng at pd; omega
  have f1 : 0 ≤ f.1 := by unfold nng at pf; omega
  have a1 := Int.mul_nonneg d1 h2
  have a2 := Int.mul_nonneg f1 h1
  rcases pe with pe | ⟨e1, e2⟩
  · refine Int.not_lt.mp fun hn => ?_
    have := Int.mul_neg_of_pos_of_neg pe hn
    omega
  · have h2' : 0 ≤ -(e.2 * f.1) := by
      have : vx e f = -(e.2 * f.1) := by unfold vx; rw [e1]; grind
      omega
    have f0 : f.1 = 0 := by
      by_cases c : 0 < f.1
      · have := Int.mul_pos e2 c
        omega
      · omega
    have f2 : 0 ≤ f.2 := by unfold nng at pf; omega
    have : vx d f = d.1 * f.2 := by unfold vx; rw [f0]; grind
    rw [this]
    exact Int.mul_nonneg d1 f2
theorem ts {d e f : Zp} (pd : pos d) (pe : pos e) (pf : pos f) (h1 : 0 < vx d e) (h2 : 0 < vx e f) : 0 < vx d f := by
  have id := vx_id d e f
  have d1 : 0 ≤ d.1 := by unfold pos at pd; omega
  have f1 : 0 ≤ f.1 := by unfold pos at pf; omega
  rcases pe with pe | ⟨e1, e2⟩
  · have d0 : 0 < d.1 := by
      rcases pd with pd | ⟨z1, z2⟩
      · exact pd
      · exfalso
        have : vx d e = -(d.2 * e.1) := by unfold vx; rw [z1]; grind
        have := Int.mul_pos z2 pe
        omega
    have a1 := Int.mul_pos d0 h2
    have a2 := Int.mul_nonneg f1 (show 0 ≤ vx d e by omega)
    refine Int.not_le.mp fun hn => ?_
    have := Int.mul_nonneg (show 0 ≤ e.1 by omega) (show 0 ≤ - vx d f by omega)
    have e3 : e.1 * (- vx d f) = -(e.1 * vx d f) := by grind
    omega
  · exfalso
    have : vx e f = -(e.2 * f.1) := by unfold vx; rw [e1]; grind
    have := Int.mul_nonneg (show 0 ≤ e.2 by omega) f1
    omega
def popW (p : Zp) : List Zp → List Zp
  | t :: s :: r => if crs s t p ≤ 0 then popW p (s :: r) else t :: s :: r
  | l => l
/-- neighbours: newer, older -/
def Adj (P : Zp → Zp → Prop) : List Zp → Prop
  | t :: s :: r => P s t ∧ Adj P (s :: r)
  | _ => True
/-- each turns left -/
def LT : List Zp → Prop
  | t :: s :: r :: l => 0 < crs r s t ∧ LT (s :: r :: l)
  | _ => True
structure Ch (Q st : List Zp) : Prop where
  dn : st.Pairwise fun x y => zlt y x
  lt : LT st
  sub_ : ∀ z ∈ st, z ∈ Q
  lf : Adj (fun s t => ∀ q ∈ Q, 0 ≤ crs s t q) st
  least : ∀ m, st.getLast? = some m → ∀ q ∈ Q, ¬ zlt q m
  most : ∀ m, st.head? = some m → ∀ q ∈ Q, ¬ zlt m q
end MI
end
section
set_option Elab.async false
set_option linter.all false
set_option autoImplicit false
set_option maxRecDepth 100000
set_option maxHeartbeats 4000000
namespace MI
open PySem L2
theorem zlt_tr0 {a b : Zp} (h1 : ¬ zlt a b) (h2 : ¬ zlt b a) : a = b := by
  obtain ⟨a1, a2⟩ := a; obtain ⟨b1, b2⟩ := b
  unfold zlt at h1 h2; dsimp only at h1 h2
  have : a1 = b1 := by omega
  have : a2 = b2 := by omega
  subst a1 a2; rfl
theorem zlt_as {a b : Zp} (h : zlt a b) : ¬ zlt b a := by unfold zlt at h ⊢; omega
/-- of the newest, what lies ahead lies left of the new edge -/
def Ahd (Q : List Zp) (p : Zp) : List Zp → Prop
  | t :: _ => ∀ q ∈ Q, zlt t q → 0 ≤ crs t p q
  | [] => True
theorem low {p : Zp} : ∀ {l : List Zp} {s t : Zp}, LT (t :: s :: l) → (t :: s :: l).Pairwise (fun x y => zlt y x) →
    (zlt s p) → 0 ≤ crs s t p → Adj (fun a b => 0 ≤ crs a b p) (t :: s :: l)
  | [], s, t, _, _, _, h => ⟨h, trivial⟩
  | r :: l, s, t, hl, hd, hp, h => by
    refine ⟨h, ?_⟩
    have hl' : 0 < crs r s t ∧ LT (s :: r :: l) := hl
    have hd1 := List.pairwise_cons.1 hd
    have hd2 := List.pairwise_cons.1 hd1.2
    have rs : zlt r s := hd2.1 r (by simp)
    have st : zlt s t := hd1.1 s (by simp)
    have rp : zlt r p := by unfold zlt at *; omega
    refine low hl'.2 hd1.2 rp ?_
    have e1 : crs r s t = vx (sub s r) (sub t s) := by unfold crs vx sub; grind
    have e2 : crs r s p = vx (sub s r) (sub p s) := by unfold crs vx sub; grind
    have e3 : crs s t p = vx (sub t s) (sub p s) := rfl
    rw [e2]
    exact tw (pos_sub.2 rs).nng (pos_sub.2 st) (pos_sub.2 hp).nng (by rw [← e1]; omega) (by rw [← e3]; exact h)
theorem Adj.and {P R : Zp → Zp → Prop} : ∀ {l : List Zp}, Adj P l → Adj R l → Adj (fun a b => P a b ∧ R a b) l
  | [], _, _ => trivial
  | [_], _, _ => trivial
  | t :: s :: r, h1, h2 => ⟨⟨h1.1, h2.1⟩, Adj.and (l := s :: r) h1.2 h2.2⟩
theorem Adj.imp {P R : Zp → Zp → Prop} (h : ∀ a b, P a b → R a b) : ∀ {l : List Zp}, Adj P l → Adj R l
  | [], _ => trivial
  | [_], _ => trivial
  | t :: s :: r, h1 => ⟨h _ _ h1.1, Adj.imp h (l := s :: r) h1.2⟩
theorem popW_ch {Q : List Zp} {p : Zp} (hp : ∀ q ∈ Q, zlt q p) : ∀ (st : List Zp), st ≠ [] →
    st.Pairwise (fun x y => zlt y x) → LT st → (∀ z ∈ st, z ∈ Q) → Adj (fun s t => ∀ q ∈ Q, 0 ≤ crs s t q) st →
    (∀ m, st.getLast? = some m → ∀ q ∈ Q, ¬ zlt q m) → Ahd Q p st →
    popW p st <:+ st ∧ popW p st ≠ [] ∧ LT (p :: popW p st) ∧
      Adj (fun s t => ∀ q ∈ p :: Q, 0 ≤ crs s t q) (p :: popW p st)
  | [], h, _, _, _, _, _, _ => absurd rfl h
  | [t], _, hd, hl, hs, ha, hm, h1 => by
    have e : popW p [t] = [t] := by simp [popW]
    rw [e]
    refine ⟨List.suffix_refl _, by simp, trivial, ⟨?_, trivial⟩⟩
    intro q hq
    rcases List.mem_cons.1 hq with rfl | hq
    · have : crs t q q = 0 := by unfold crs; grind
      omega
    · by_cases c : zlt t q
      · exact h1 q hq c
      · have := zlt_tr0 c (hm t rfl q hq)
        subst this
        have : crs t p t = 0 := by unfold crs; grind
        omega
  | t :: s :: r, _, hd, hl, hs, ha, hm, h1 => by
    have hd1 := List.pairwise_cons.1 hd
    have st : zlt s t := hd1.1 s (by simp)
    have sp : zlt s p := hp s (hs s (by simp))
    have tp : zlt t p := hp t (hs t (by simp))
    have ha' : (∀ q ∈ Q, 0 ≤ crs s t q) ∧ Adj (fun s t => ∀ q ∈ Q, 0 ≤ crs s t q) (s :: r) := ha
    by_cases c : crs s t p ≤ 0
    · have e : popW p (t :: s :: r) = popW p (s :: r) := by rw [popW, if_pos c]
      have hl' : LT (s :: r) := by
        cases r with
        | nil => trivial
        | cons u r => exact (show 0 < crs u s t ∧ LT (s :: u :: r) from hl).2
      have ih := popW_ch hp (s :: r) (by simp) hd1.2 hl' (fun z hz => hs z (List.mem_cons_of_mem _ hz)) ha'.2
        (fun m h => hm m (by rw [List.getLast?_cons_cons]; exact h))
        (by
          intro q hq hz
          have k1 : 0 ≤ vx (sub p s) (sub t s) := by
            have := vx_anti (sub t s) (sub p s)
            have : crs s t p = vx (sub t s) (sub p s) := rfl
            omega
          exact tw (pos_sub.2 sp).nng (pos_sub.2 st) (pos_sub.2 hz).nng k1 (ha'.1 q hq))
      rw [e]
      exact ⟨ih.1.trans (List.suffix_cons _ _), ih.2⟩
    · have e : popW p (t :: s :: r) = t :: s :: r := by rw [popW, if_neg c]
      rw [e]
      refine ⟨List.suffix_refl _, by simp, ⟨by omega, hl⟩, ⟨?_, ?_⟩⟩
      · intro q hq
        rcases List.mem_cons.1 hq with rfl | hq
        · have : crs t q q = 0 := by unfold crs; grind
          omega
        · by_cases c1 : zlt t q
          · exact h1 q hq c1
          · by_cases c2 : zlt q t
            · have k0 := ha'.1 q hq
              have k1 : crs s t q = vx (sub t q) (sub t s) := by unfold crs vx sub; grind
              have k2 : crs s t p = vx (sub t s) (sub p t) := by unfold crs vx sub; grind
              have k3 : crs t p q = vx (sub t q) (sub p t) := by unfold crs vx sub; grind
              rw [k3]
              exact tw (pos_sub.2 c2).nng (pos_sub.2 st) (pos_sub.2 tp).nng (by omega) (by omega)
            · have := zlt_tr0 c1 c2
              subst this
              have : crs t p t = 0 := by unfold crs; grind
              omega
      · have k := low (p := p) (l := r) (s := s) (t := t) hl hd sp (by omega)
        refine (k.and ha).imp fun a b h q hq => ?_
        rcases List.mem_cons.1 hq with rfl | hq
        · exact h.1
        · exact h.2 q hq
theorem Ch.put {Q st : List Zp} (h : Ch Q st) (ne : st ≠ []) {p : Zp} (hp : ∀ q ∈ Q, zlt q p) :
    Ch (p :: Q) (p :: popW p st) := by
  obtain ⟨a1, a2, a3, a4⟩ := popW_ch hp st ne h.dn h.lt h.sub_ h.lf h.least (by
    cases st with
    | nil => exact absurd rfl ne
    | cons t r => intro q hq hz; exact absurd hz (h.most t rfl q hq))
  have lst : ∀ m, (popW p st).getLast? = some m → st.getLast? = some m := by
    intro m hm
    obtain ⟨w, hw⟩ := a1
    rw [← hw, List.getLast?_append, hm]; rfl
  constructor
  · exact List.pairwise_cons.2 ⟨fun z hz => hp z (h.sub_ z (a1.subset hz)), h.dn.sublist a1.sublist⟩
  · exact a3
  · intro z hz
    rcases List.mem_cons.1 hz with rfl | hz
    · simp
    · exact List.mem_cons_of_mem _ (h.sub_ z (a1.subset hz))
  · exact a4
  · intro m hm q hq
    obtain ⟨u, v, huv⟩ := List.exists_cons_of_ne_nil a2
    rw [huv, List.getLast?_cons_cons, ← huv] at hm
    have hm' := lst m hm
    have mQ : m ∈ Q := h.sub_ m (List.mem_of_getLast? hm')
    rcases List.mem_cons.1 hq with rfl | hq
    · exact zlt_as (hp m mQ)
    · exact h.least m hm' q hq
  · intro m hm q hq
    have : p = m := by simpa using hm
    subst this
    rcases List.mem_cons.1 hq with rfl | hq
    · unfold zlt; omega
    · exact zlt_as (hp q hq)
theorem Ch.one (p : Zp) : Ch [p] [p] := by
  refine ⟨by simp, trivial, by simp, trivial, ?_, ?_⟩
  · intro m hm q hq
    simp at hm hq; subst hm hq; unfold zlt; omega
  · intro m hm q hq
    simp at hm hq; subst hm hq; unfold zlt; omega
end MI
end
section
set_option Elab.async false
set_option linter.all false
set_option autoImplicit false
set_option maxRecDepth 100000
set_option maxHeartbeats 4000000
namespace MI
open PySem L2
def ng (a : Zp) : Zp := (-a.1, -a.2)
theorem ng_ng (a : Zp) : ng (ng a) = a := by unfold ng; simp
theorem crs_ng (a b c : Zp) : crs (ng a) (ng b) (ng c) = crs a b c := by unfold crs ng; grind
theorem zlt_ng {a b : Zp} : zlt (ng a) (ng b) ↔ zlt b a := by unfold zlt ng; dsimp only; omega
end MI
end
section
set_option Elab.async false
set_option linter.all false
set_option autoImplicit false
set_option maxRecDepth 100000
set_option maxHeartbeats 4000000
namespace MI
open PySem L2
def wk : Zp → Zp → List Zp → Prop
  | _, _, [] => True
  | a, b, c :: l => 0 < crs a b c ∧ wk b c l
def ups : Zp → Zp → List Zp → Nat
  | _, _, [] => 0
  | a, b, c :: l => (if b.2 < c.2 ∧ ¬ a.2 < b.2 then 1 else 0) + ups b c l
def en : Zp → Zp → List Zp → Zp × Zp
  | a, b, [] => (a, b)
  | _, b, c :: l => en b c l
/-- what is asked of three corners or more -/
def Rg (c : List Zp) : Prop := ∃ X a b, c = X ++ [a, b] ∧ wk a b c ∧ ups a b c = 1
/-- rising: from not up to up once at most, never back -/
theorem rise : ∀ (X : List Zp) (a b p q : Zp), wk a b X → (a :: b :: X).Pairwise zlt → en a b X = (p, q) →
    (a.2 < b.2 → p.2 < q.2 ∧ a.2 < q.2) ∧ ups a b X = (if p.2 < q.2 ∧ ¬ a.2 < b.2 then 1 else 0) ∧
    (¬ p.2 < q.2 → q.2 ≤ a.2 ∧ (q.2 = a.2 → p.2 = q.2))
  | [], a, b, p, q, _, hp, e => by
    simp only [en, Prod.mk.injEq] at e
    obtain ⟨rfl, rfl⟩ := e
    refine ⟨fun h => ⟨h, h⟩, ?_, fun h => ⟨by omega, fun h => by omega⟩⟩
    simp [ups]
  | c :: X, a, b, p, q, hw, hp, e => by
    have hp1 := List.pairwise_cons.1 hp
    have hp2 := List.pairwise_cons.1 hp1.2
    have ih := rise X b c p q hw.2 hp1.2 e
    have ab : zlt a b := hp1.1 b (by simp)
    have bc : zlt b c := hp2.1 c (by simp)
    have key : a.2 < b.2 → b.2 < c.2 := by
      intro h
      refine Int.not_le.mp fun hn => ?_
      have k := hw.1
      have e1 : crs a b c = (b.1 - a.1) * (c.2 - b.2) - (b.2 - a.2) * (c.1 - b.1) := by unfold crs; grind
      have k1 : 0 ≤ (b.2 - a.2) * (c.1 - b.1) := Int.mul_nonneg (by omega) (by unfold zlt at bc; omega)
      have k2 : 0 ≤ (b.1 - a.1) * (b.2 - c.2) := Int.mul_nonneg (by unfold zlt at ab; omega) (by omega)
      have k3 : (b.1 - a.1) * (c.2 - b.2) = -((b.1 - a.1) * (b.2 - c.2)) := by grind
      omega
    refine ⟨fun h => ?_, ?_, fun h => ?_⟩
    · have := ih.1 (key h); omega
    · simp only [ups]; rw [ih.2.1]
      have i1 := ih.1
      by_cases h1 : a.2 < b.2 <;> by_cases h2 : b.2 < c.2 <;> by_cases h3 : p.2 < q.2 <;> simp [h1, h2, h3] <;> omega
    · have i3 := ih.2.2 h
      have i1 := ih.1
      omega
end MI
end
section
set_option Elab.async false
set_option linter.all false
set_option autoImplicit false
set_option maxRecDepth 100000
set_option maxHeartbeats 4000000
namespace MI
open PySem L2
/-- both halves of two points and more -/
structure Hs (l st up : List Zp) : Prop where
  lo : Ch l st
  hi : Ch (l.map ng) (up.map ng)
  n1 : st ≠ []
  n2 : up ≠ []
theorem Hs.sw {l st up : List Zp} (h : Hs l st up) : Hs (l.map ng) (up.map ng) (st.map ng) := by
  have e : ∀ k : List Zp, (k.map ng).map ng = k := by
    intro k; rw [List.map_map]
    exact (List.map_congr_left fun x _ => ng_ng x).trans (List.map_id' k)
  exact ⟨h.hi, by rw [e, e]; exact h.lo, by simpa using h.n2, by simpa using h.n1⟩
theorem Ch.ne {Q st : List Zp} (h : Ch Q st) {a b : Zp} (ha : a ∈ Q) (hb : b ∈ Q) (ab : zlt a b) (n : st ≠ []) : ∃ M t r, st = M :: t :: r := by
  match st, h with
  | [], _ => exact absurd rfl n
  | [x], h =>
    exfalso
    have k1 := h.most x rfl b hb
    have k2 := h.least x rfl a ha
    unfold zlt at *; omega
  | M :: t :: r, _ => exact ⟨M, t, r, rfl⟩
/-- the last of the one is the first of the other -/
theorem Hs.ends {l st up : List Zp} (h : Hs l st up) {m u : Zp} (h1 : st.getLast? = some m) (h2 : up.head? = some u) : m = u := by
  have mQ : m ∈ l := h.lo.sub_ m (List.mem_of_getLast? h1)
  have uU : u ∈ up := List.mem_of_head? h2
  have uQ : u ∈ l := by
    obtain ⟨y, hy, e⟩ := List.mem_map.1 (h.hi.sub_ (ng u) (List.mem_map_of_mem uU))
    have := congrArg ng e
    rw [ng_ng, ng_ng] at this
    exact this ▸ hy
  have k1 := h.lo.least m h1 u uQ
  have k2 := h.hi.most (ng u) (by rw [List.head?_map, h2]; rfl) (ng m) (List.mem_map_of_mem mQ)
  have k2' : ¬ zlt m u := fun h => k2 (zlt_ng.2 h)
  exact zlt_tr0 k2' k1
theorem Hs.start {l st up : List Zp} (h : Hs l st up) {m u : Zp} (h1 : st.head? = some m) (h2 : up.getLast? = some u) : m = u := by
  have := h.sw.ends (m := ng u) (u := ng m) (by rw [List.getLast?_map, h2]; rfl) (by rw [List.head?_map, h1]; rfl)
  have := congrArg ng this
  rw [ng_ng, ng_ng] at this
  exact this.symm
end MI
end
section
set_option Elab.async false
set_option linter.all false
set_option autoImplicit false
set_option maxRecDepth 100000
set_option maxHeartbeats 4000000
namespace MI
open PySem L2
end MI
end
section
set_option Elab.async false
set_option linter.all false
set_option autoImplicit false
set_option maxRecDepth 100000
set_option maxHeartbeats 4000000
namespace MI
open PySem L2
def pr (P : Zp → Zp → Prop) : List Zp → Prop
  | a :: b :: l => P a b ∧ pr P (b :: l)
  | _ => True
theorem pr_app {P : Zp → Zp → Prop} : ∀ (X : List Zp) (a : Zp) (Y : List Zp), pr P (X ++ a :: Y) ↔ pr P (X ++ [a]) ∧ pr P (a :: Y)
  | [], a, Y => by simp [pr]
  | [x], a, Y => by simp [pr]
  | x :: y :: X, a, Y => by
    have := pr_app (P := P) (y :: X) a Y
    simp only [List.cons_append, pr] at this ⊢
    rw [this, and_assoc]
theorem pr_imp {P Q : Zp → Zp → Prop} (h : ∀ a b, P a b → Q a b) : ∀ {l : List Zp}, pr P l → pr Q l
  | [], _ => trivial
  | [_], _ => trivial
  | _ :: _ :: _, k => ⟨h _ _ k.1, pr_imp h k.2⟩
theorem pr_map {P : Zp → Zp → Prop} (f : Zp → Zp) : ∀ {l : List Zp}, pr P (l.map f) ↔ pr (fun a b => P (f a) (f b)) l
  | [] => Iff.rfl
  | [_] => Iff.rfl
  | a :: b :: l => by
    have := pr_map (P := P) f (l := b :: l)
    simp only [List.map_cons, pr] at this ⊢
    rw [this]
theorem adj_pr {P : Zp → Zp → Prop} : ∀ {l : List Zp}, Adj P l → pr P l.reverse
  | [], _ => trivial
  | [_], _ => trivial
  | t :: s :: r, h => by
    have ih := adj_pr (l := s :: r) h.2
    rw [List.reverse_cons, List.reverse_cons, List.append_assoc]
    rw [List.reverse_cons] at ih
    exact (pr_app _ _ _).2 ⟨ih, h.1, trivial⟩
def Cyc (P : Zp → Zp → Prop) : List Zp → Prop
  | [] => True
  | a :: l => pr P (a :: l ++ [a])
theorem Cyc.imp {P Q : Zp → Zp → Prop} (h : ∀ a b, P a b → Q a b) {c : List Zp} (k : Cyc P c) : Cyc Q c := by
  cases c with
  | nil => trivial
  | cons a l => exact pr_imp h k
theorem cyc_map {P : Zp → Zp → Prop} (f : Zp → Zp) {c : List Zp} : Cyc P (c.map f) ↔ Cyc (fun a b => P (f a) (f b)) c := by
  cases c with
  | nil => exact Iff.rfl
  | cons a l =>
    have := pr_map (P := P) f (l := a :: l ++ [a])
    simpa [Cyc] using this
/-- no corner is right of a side -/
def Lf (c : List Zp) : Prop := Cyc (fun a b => ∀ q ∈ c, 0 ≤ crs a b q) c
theorem Lf.of {c : List Zp} {Q : List Zp} (h : Cyc (fun a b => ∀ q ∈ Q, 0 ≤ crs a b q) c) (hs : ∀ q ∈ c, q ∈ Q) : Lf c := Cyc.imp (fun _ _ k q hq => k q (hs q hq)) h
theorem Hs.lf {l st up : List Zp} (h : Hs l st up) : Cyc (fun a b => ∀ q ∈ l, 0 ≤ crs a b q) (st.reverse.dropLast ++ up.reverse.dropLast) := by
  have p1 := adj_pr h.lo.lf
  have p2 : pr (fun a b => ∀ q ∈ l, 0 ≤ crs a b q) up.reverse := by
    have := adj_pr h.hi.lf
    rw [← List.map_reverse, pr_map] at this
    refine pr_imp (fun a b k q hq => ?_) this
    have := k (ng q) (List.mem_map_of_mem hq)
    rwa [crs_ng] at this
  have n1 : st.reverse ≠ [] := by simpa using h.n1
  have n2 : up.reverse ≠ [] := by simpa using h.n2
  have e1 : ∀ m u, st.reverse.getLast? = some m → up.reverse.head? = some u → m = u := fun m u a b => h.start (by rw [List.getLast?_reverse] at a; exact a) (by rw [List.head?_reverse] at b; exact b)
  have e2 : ∀ m u, st.reverse.head? = some m → up.reverse.getLast? = some u → m = u := fun m u a b => h.ends (by rw [List.head?_reverse] at a; exact a) (by rw [List.getLast?_reverse] at b; exact b)
  generalize st.reverse = L at *
  generalize up.reverse = U at *
  have eL : L = L.dropLast ++ [L.getLast n1] := (List.dropLast_concat_getLast n1).symm
  have eU : U = U.dropLast ++ [U.getLast n2] := (List.dropLast_concat_getLast n2).symm
  obtain ⟨M, U', rfl⟩ : ∃ M U', U = M :: U' := by
    cases U with
    | nil => exact absurd rfl n2
    | cons a b => exact ⟨a, b, rfl⟩
  have hM : L.getLast n1 = M := e1 _ _ (List.getLast?_eq_some_getLast n1) rfl
  rw [hM] at eL
  cases hX : L.dropLast with
  | nil =>
    rw [hX] at eL
    have eL' : L = [M] := eL
    have hm : M = (M :: U').getLast n2 := e2 _ _ (by rw [eL']; rfl) (List.getLast?_eq_some_getLast n2)
    rw [List.nil_append]
    cases hY : (M :: U').dropLast with
    | nil => trivial
    | cons y Y =>
      have : y = M := by
        have e3 := eU
        rw [hY] at e3
        exact (List.cons.inj e3).1.symm
      subst this
      show pr _ (y :: Y ++ [y])
      rw [← hY]
      conv => arg 2; rhs; rw [hm]
      rw [← eU]
      exact p2
  | cons x X =>
    rw [hX] at eL
    have hm : x = (M :: U').getLast n2 := e2 _ _ (by rw [eL]; rfl) (List.getLast?_eq_some_getLast n2)
    show pr _ ((x :: X ++ (M :: U').dropLast) ++ [x])
    rw [List.append_assoc]
    conv => arg 2; rhs; rhs; rw [hm]
    rw [← eU]
    refine (pr_app _ _ _).2 ⟨?_, p2⟩
    rw [← eL]
    exact p1
end MI
end
section
set_option Elab.async false
set_option linter.all false
set_option autoImplicit false
set_option maxRecDepth 100000
set_option maxHeartbeats 4000000
namespace MI
open PySem L2
structure Rn (c : List Zp) : Prop where
  ne : c ≠ []
  le : c.length ≤ 8
  nd : c.Nodup
  rg : 3 ≤ c.length → Rg c
  lf : Lf c
theorem Hs.two {l st up : List Zp} (h : Hs l st up) {a b : Zp} (ha : a ∈ l) (hb : b ∈ l) (ab : zlt a b) :
    2 ≤ (st.reverse.dropLast ++ up.reverse.dropLast).length := by
  obtain ⟨M, t, r, es⟩ := h.lo.ne ha hb ab h.n1
  obtain ⟨m', u', r', eu'⟩ := h.hi.ne (List.mem_map_of_mem hb) (List.mem_map_of_mem ha) (zlt_ng.2 ab) (by simpa using h.n2)
  have k1 := congrArg List.length es
  have k2 := congrArg List.length eu'
  simp at k1 k2 ⊢
  omega
end MI
end
section
set_option Elab.async false
set_option linter.all false
set_option autoImplicit false
set_option maxRecDepth 100000
set_option exponentiation.threshold 20000
set_option maxHeartbeats 4000000
open PySem L2
namespace MI
section
variable {h : Hq} {p : Nat} {n many : Int} {Φ : Rs D → Prop}
theorem take_w (P : PotAt h p n) (hn : n < 1000000) (hm : 0 < many) (hb : many < 2 ^ 8000) (k : ∀ r h1, 0 ≤ r → r < many → PotAt h1 p (n + 1) → Step p h h1 → Φ (.ok (.int r) h1)) : W (S__law_take [.ref p, .int many] h) Φ := by
  obtain ⟨r, h1, e, r0, r1, P1, S1⟩ := take_ok P hn hm hb
  exact W.of e (k r h1 r0 r1 P1 S1)
theorem low_w {a b : Int} {B : Nat} (hb : 0 < b) (b2 : Bd B b) (hB : B ≤ 8000) (k : Φ (.ok (dq (lowQ a b)) h)) : W (S__law_lowest [.int a, .int b] h) Φ := W.of (low_ok hb b2 hB) k
theorem less_w {a b c d : Int} {A : Nat} (ha : Bd A a) (hb : Bd A b) (hc : Bd A c) (hd : Bd A d) (hA : A < 400000 := by decide) : W (S__law_less [.tup [.int a, .int b], .tup [.int c, .int d]] h) Φ = Φ (.ok (.bl (decide (a * d < c * b))) h) := by
  unfold W
  rw [less_ok ha hb hc hd hA]
structure Spl where
  b : Qp
  wb : Bool
  e : Qp
  we : Bool
abbrev dsp (s : Spl) : D := .tup [dq s.b, .bl s.wb, dq s.e, .bl s.we]
/-- one moment at least -/
def Spl.live (s : Spl) : Prop := qlt s.b s.e ∨ (s.b = s.e ∧ s.wb = true ∧ s.we = true)
structure SpOk (B : Nat) (s : Spl) : Prop where
  fb : Fq B s.b
  fe : Fq B s.e
  mb : mom s.b
  me : mom s.e
  live : s.live
theorem Fq.ext {A B : Nat} {a b : Qp} (fa : Fq A a) (fb : Fq B b) (h1 : ¬ qlt a b) (h2 : ¬ qlt b a) : a = b := by
  have := Fq.eq (by have := fa.pos; omega) (by have := fb.pos; omega) fa.low fb.low (show a.1 * b.2 = b.1 * a.2 by
    have g1 : ¬ a.1 * b.2 < b.1 * a.2 := h1
    have g2 : ¬ b.1 * a.2 < a.1 * b.2 := h2
    omega)
  exact Prod.ext this.1 this.2
theorem qp_eq {a b : Qp} (h : (a.1 == b.1 && a.2 == b.2) = true) : a = b := by
  simp at h
  exact Prod.ext h.1 h.2
end
end MI
end
section
set_option Elab.async false
set_option linter.all false
set_option autoImplicit false
set_option maxRecDepth 100000
set_option exponentiation.threshold 20000
set_option maxHeartbeats 4000000
open PySem L2
namespace MI
def kLoop (I : Fr → Hq → Prop) (Ψ : SR → Prop) : SR → Prop
  | .nx fr h => I fr h
  | .ct fr h => I fr h
  | .bk fr h => Ψ (.nx fr h)
  | .rt d h => Ψ (.rt d h)
  | .exc x h => Ψ (.exc x h)
  | .no => False
theorem turns_w {get : Nat → Hq → Option D} {fin : Nat → Hq → Bool} {t : Tg} {b : Ss} {I : Nat → Fr → Hq → Prop} {Ψ : SR → Prop} {n : Nat}
    (step : ∀ i fr h, i < n → I i fr h → ∃ d fr1, get i h = some d ∧ t d fr = some fr1 ∧ Z (b fr1 h) (kLoop (I (i + 1)) Ψ)) (done : ∀ fr h, I n fr h → fin n h = true ∧ Ψ (.nx fr h)) :
    ∀ (k i : Nat) (fr : Fr) (h : Hq), i + k = n → I i fr h → Z (turns get fin t b k i fr h) Ψ
  | 0, i, fr, h, hk, hI => by
    have e : i = n := by omega
    subst e
    obtain ⟨f, q⟩ := done fr h hI
    unfold turns Z
    rw [if_pos f]
    exact q
  | k + 1, i, fr, h, hk, hI => by
    obtain ⟨d, fr1, e1, e2, q⟩ := step i fr h (by omega) hI
    have ih := turns_w step done k (i + 1)
    unfold turns Z
    rw [e1]
    dsimp only
    rw [e2]
    dsimp only
    revert q
    unfold Z
    cases b fr1 h with
    | nx fr2 h2 => exact fun q => ih fr2 h2 (by omega) q
    | ct fr2 h2 => exact fun q => ih fr2 h2 (by omega) q
    | bk fr2 h2 => exact fun q => q
    | rt d h2 => exact fun q => q
    | exc x h2 => exact fun q => q
    | no => exact fun q => q.elim
/-- a while's test -/
def kWh (b : Ss) (fr : Fr) (I : Fr → Hq → Prop) (Ψ : SR → Prop) : Rs Bool → Prop
  | .ok c h => (c = true → Z (b fr h) (kLoop I Ψ)) ∧ (c = false → Ψ (.nx fr h))
  | .exc x h => Ψ (.exc x h)
  | .no => False
theorem while_w {c : Sb} {b : Ss} {I : Nat → Fr → Hq → Prop} {Ψ : SR → Prop} (step : ∀ m fr h, I m fr h → W (c fr h) (kWh b fr (fun fr2 h2 => ∃ m2, m2 < m ∧ I m2 fr2 h2) Ψ)) {m : Nat} {fr : Fr} {h : Hq} (hI : I m fr h) : Z (sWhile c b fr h) Ψ := by
  have key : ∀ (m : Nat) (fr : Fr) (h : Hq), I m fr h → ∃ n r, whileN c b n fr h = some r ∧ Ψ r := by
    intro m
    induction m using Nat.strongRecOn with
    | _ m ih =>
      intro fr h hI
      have q := step m fr h hI
      unfold W at q
      cases hc : c fr h with
      | no => rw [hc] at q; exact q.elim
      | exc x h1 => rw [hc] at q; exact ⟨1, _, by unfold whileN; rw [hc], q⟩
      | ok v h1 =>
        rw [hc] at q
        cases v with
        | false => exact ⟨1, _, by unfold whileN; rw [hc], q.2 rfl⟩
        | true =>
          have q1 := q.1 rfl
          unfold Z at q1
          cases hb : b fr h1 with
          | nx fr2 h2 =>
            rw [hb] at q1
            obtain ⟨m2, hm, hI2⟩ := q1
            obtain ⟨n, r, e, hr⟩ := ih m2 hm fr2 h2 hI2
            exact ⟨n + 1, r, by unfold whileN; rw [hc]; dsimp only; rw [hb]; exact e, hr⟩
          | ct fr2 h2 =>
            rw [hb] at q1
            obtain ⟨m2, hm, hI2⟩ := q1
            obtain ⟨n, r, e, hr⟩ := ih m2 hm fr2 h2 hI2
            exact ⟨n + 1, r, by unfold whileN; rw [hc]; dsimp only; rw [hb]; exact e, hr⟩
          | bk fr2 h2 => rw [hb] at q1; exact ⟨1, _, by unfold whileN; rw [hc]; dsimp only; rw [hb], q1⟩
          | rt d h2 => rw [hb] at q1; exact ⟨1, _, by unfold whileN; rw [hc]; dsimp only; rw [hb], q1⟩
          | exc x h2 => rw [hb] at q1; exact ⟨1, _, by unfold whileN; rw [hc]; dsimp only; rw [hb], q1⟩
          | no => rw [hb] at q1; exact q1.elim
  obtain ⟨n, r, e, hr⟩ := key m fr h hI
  unfold Z
  rw [sWhile_eq e]
  exact hr
theorem picks_w {m : Nat} {get : Nat → Hq → Option D} {fin : Nat → Hq → Bool} {t : Tg} {c : Sb} {e : Sx} {fr : Fr} {I : Nat → List D → Hq → Prop} {Φ : Rs D → Prop} {n : Nat} (hn : n ≤ 1000000)
    (len : ∀ i acc h, I i acc h → acc.length ≤ i ∧ lstAt h m = some acc)
    (step : ∀ i acc h, i < n → I i acc h → ∃ d fr1, get i h = some d ∧ t d fr = some fr1 ∧ W (c fr1 h) fun s => ∃ b h1, s = .ok b h1 ∧ (b = true → W (e fr1 h1) fun s => ∃ y h2, s = .ok y h2 ∧ lstAt h2 m = some acc ∧ I (i + 1) (acc ++ [y]) (h2.set m (.lst (acc ++ [y])))) ∧ (b = false → I (i + 1) acc h1))
    (done : ∀ acc h, I n acc h → fin n h = true ∧ Φ (.ok (.ref m) h)) :
    ∀ (k i : Nat) (acc : List D) (h : Hq), i + k = n → I i acc h → W (picks m get fin t c e fr k i h) Φ
  | 0, i, acc, h, hk, hI => by
    have e : i = n := by omega
    subst e
    obtain ⟨f, q⟩ := done acc h hI
    unfold picks W
    rw [if_pos f]
    exact q
  | k + 1, i, acc, h, hk, hI => by
    obtain ⟨d, fr1, e1, e2, b, h1, e3, q1, q2⟩ := step i acc h (by omega) hI
    have ih := picks_w (Φ := Φ) hn len step done k (i + 1)
    unfold picks W
    rw [e1]
    dsimp only
    rw [e2]
    dsimp only
    rw [e3]
    cases b with
    | false => exact ih acc h1 (by omega) (q2 rfl)
    | true =>
      obtain ⟨y, h2, e4, e5, hI2⟩ := q1 rfl
      dsimp only
      rw [e4]
      dsimp only
      rw [e5]
      dsimp only
      have := (len i acc h hI).1
      rw [if_pos (show small (acc.length + 1) = true from decide_eq_true (by omega))]
      exact ih _ _ (by omega) hI2
/-- what has only grown -/
def Gr (h h' : Hq) : Prop := ∃ T, h' = h ++ T
theorem Gr.refl (h : Hq) : Gr h h := ⟨[], by simp⟩
theorem Gr.app (h : Hq) (T : List Cell) : Gr h (h ++ T) := ⟨T, rfl⟩
theorem Gr.trans {h h1 h2 : Hq} (a : Gr h h1) (b : Gr h1 h2) : Gr h h2 := by
  obtain ⟨T, rfl⟩ := a
  obtain ⟨U, rfl⟩ := b
  exact ⟨T ++ U, by rw [List.append_assoc]⟩
theorem Gr.lst {h h' : Hq} (g : Gr h h') {q : Nat} {l : List D} (e : lstAt h q = some l) : lstAt h' q = some l := by
  obtain ⟨T, rfl⟩ := g
  exact lstAt_app e T
theorem Gr.len {h h' : Hq} (g : Gr h h') : h.length ≤ h'.length := by
  obtain ⟨T, rfl⟩ := g
  simp
theorem set_mid (h : Hq) (c c' : Cell) (T : List Cell) : (h ++ [c] ++ T).set h.length c' = h ++ [c'] ++ T := by
  rw [List.append_assoc, List.append_assoc]
  have := List.set_append_right (s := h) (t := [c] ++ T) h.length c' (Nat.le_refl _)
  rw [show (h ++ ([c] ++ T)).set h.length c' = _ from this]
  simp
theorem lst_mid (h : Hq) (l : List D) (T : List Cell) : lstAt (h ++ [.lst l] ++ T) h.length = some l := lstAt_app (lst_new h l) T
/-- a comprehension whose test and worth change nothing but for new cells -/
theorem comp_typed {α : Type} {h0 : Hq} {S : Src} {t : Tg} {c : Sb} {e : Sx} {fr : Fr} {Φ : Rs D → Prop} (xs : List α) (enc : α → D) (hn : S.n = xs.length) (hs : xs.length ≤ 1000000) (hget : ∀ i h', Gr h0 h' → S.get i h' = (xs.map enc)[i]?) (hfin : ∀ h', Gr h0 h' → S.fin xs.length h' = true) (p : α → Bool) (f : α → D)
    (hc : ∀ x ∈ xs, ∃ fr1, t (enc x) fr = some fr1 ∧ (∀ h' (Θ : Rs Bool → Prop), Gr h0 h' → (∀ h2, Gr h' h2 → Θ (.ok (p x) h2)) → W (c fr1 h') Θ) ∧ (p x = true → ∀ h' (Φ : Rs D → Prop), Gr h0 h' → (∀ h2, Gr h' h2 → Φ (.ok (f x) h2)) → W (e fr1 h') Φ))
    (k : ∀ T, Φ (.ok (.ref h0.length) (h0 ++ [.lst ((xs.filter p).map f)] ++ T))) : W (picks h0.length S.get S.fin t c e fr S.n 0 (h0 ++ [.lst []])) Φ := by
  rw [hn]
  refine picks_w (I := fun i acc h => acc = ((xs.take i).filter p).map f ∧ i ≤ xs.length ∧ ∃ T, h = h0 ++ [.lst acc] ++ T) hs ?_ ?_ ?_ xs.length 0 [] _ (by omega) ⟨by simp, by omega, [], by simp⟩
  · rintro i acc h ⟨rfl, hi, T, rfl⟩
    refine ⟨?_, lst_mid _ _ _⟩
    have := List.length_filter_le p (xs.take i)
    simp at this ⊢
    omega
  · rintro i acc h hi ⟨ea, hi', T, rfl⟩
    have gr : Gr h0 (h0 ++ [.lst acc] ++ T) := ⟨[.lst acc] ++ T, by simp⟩
    obtain ⟨fr1, e1, e2, e3⟩ := hc xs[i] (List.getElem_mem hi)
    refine ⟨enc xs[i], fr1, by rw [hget _ _ gr, List.getElem?_map, List.getElem?_eq_getElem hi]; rfl, e1, ?_⟩
    have tk : xs.take (i + 1) = xs.take i ++ [xs[i]] := by rw [List.take_succ, List.getElem?_eq_getElem hi]; rfl
    refine e2 _ _ gr fun h2 g2 => ?_
    obtain ⟨U, rfl⟩ := g2
    refine ⟨p xs[i], _, rfl, fun hp => ?_, fun hp => ?_⟩
    · refine e3 hp _ _ (gr.trans (Gr.app _ U)) fun h3 g3 => ?_
      obtain ⟨V', rfl⟩ := g3
      have e4 : h0 ++ [Cell.lst acc] ++ T ++ U ++ V' = h0 ++ [.lst acc] ++ (T ++ U ++ V') := by simp
      refine ⟨_, _, rfl, by rw [e4]; exact lst_mid _ _ _, ?_, by omega, T ++ U ++ V', by rw [e4]; exact set_mid _ _ _ _⟩
      rw [tk, List.filter_append, List.map_append, ← ea]
      simp [hp]
    · refine ⟨?_, by omega, T ++ U, by simp⟩
      rw [tk, List.filter_append, List.map_append, ← ea]
      simp [hp]
  · rintro acc h ⟨ea, _, T, rfl⟩
    have gr : Gr h0 (h0 ++ [.lst acc] ++ T) := ⟨[.lst acc] ++ T, by simp⟩
    refine ⟨hfin _ gr, ?_⟩
    have := k T
    rw [List.take_of_length_le (Nat.le_refl _)] at ea
    rw [← ea] at this
    exact this
theorem srcC_get {h0 : Hq} {q : Nat} {l : List D} (e : lstAt h0 q = some l) (i : Nat) (h' : Hq) (g : Gr h0 h') : (srcC q l.length).get i h' = l[i]? := by
  show (lstAt h' q).bind _ = _
  rw [g.lst e]; rfl
theorem srcC_fin {h0 : Hq} {q : Nat} {l : List D} (e : lstAt h0 q = some l) (h' : Hq) (g : Gr h0 h') : (srcC q l.length).fin l.length h' = true := by
  show (match lstAt h' q with | some l => decide (l.length ≤ _) | none => false) = true
  rw [g.lst e]; simp
end MI
end
section
set_option Elab.async false
set_option linter.all false
set_option autoImplicit false
set_option maxRecDepth 100000
set_option exponentiation.threshold 20000
set_option maxHeartbeats 4000000
open PySem L2
namespace MI
def pq (q : Qp) : PyData := .tuple [.int q.1, .int q.2]
theorem toPy_dq {h : Hq} {n : Nat} (q : Qp) : toPy h (n + 2) (dq q) = some (pq q) := by
  simp [toPy, opts, pq]
theorem opts_dq {h : Hq} {n : Nat} : ∀ qs : List Qp, opts (toPy h (n + 2)) (qs.map dq) = some (qs.map pq)
  | [] => rfl
  | q :: qs => by
    have ih := opts_dq (h := h) (n := n) qs
    simp only [List.map_cons, opts, toPy_dq, ih]
theorem pq_eqv (a b : Qp) : PyData.eqv (pq a) (pq b) = decide (a = b) := by
  obtain ⟨a1, a2⟩ := a
  obtain ⟨b1, b2⟩ := b
  simp [pq, PyData.eqv, PyData.eqvAll]
  by_cases h1 : a1 = b1 <;> by_cases h2 : a2 = b2 <;> simp [h1, h2]
theorem pq_shaped (q : Qp) : SeqAt.shaped (pq q) = true := by simp [pq, SeqAt.shaped, PyData.canLay0, PyData.canLayAll0, PyData.depth, PyData.depthAll]
theorem pqs_lay : ∀ qs : List Qp, PyData.canLayAll0 (qs.map pq) = true
  | [] => by simp [PyData.canLayAll0]
  | q :: qs => by simp [PyData.canLayAll0, pqs_lay qs, pq, PyData.canLay0]
theorem pqs_depth : ∀ qs : List Qp, PyData.depthAll (qs.map pq) ≤ 1
  | [] => by simp [PyData.depthAll]
  | q :: qs => by
    have := pqs_depth qs
    simp only [List.map_cons, PyData.depthAll]
    have h : (pq q).depth = 1 := by simp [pq, PyData.depth, PyData.depthAll]
    omega
theorem pqs_shaped (qs : List Qp) : SeqAt.shaped (.list (qs.map pq)) = true := by
  have h1 := pqs_depth qs
  have h2 : PyData.depth (.list (qs.map pq)) ≤ 64 := by
    simp only [PyData.depth]
    omega
  show (PyData.canLay0 (.list (qs.map pq)) && decide (PyData.depth (.list (qs.map pq)) ≤ 64)) = true
  rw [Bool.and_eq_true]
  exact ⟨by simp only [PyData.canLay0]; exact pqs_lay qs, decide_eq_true h2⟩
theorem any_pq (qs : List Qp) (q : Qp) : (qs.map pq).any (fun z => PyData.eqv z (pq q)) = decide (q ∈ qs) := by
  induction qs with
  | nil => simp
  | cons a qs ih =>
    rw [List.map_cons, List.any_cons, ih, pq_eqv]
    by_cases h1 : a = q
    · subst h1; simp
    · have : ¬ q = a := fun z => h1 z.symm
      simp [h1, this]
section
variable {h : Hq} {m : Nat} {Φ : Rs D → Prop}
theorem in_q {qs : List Qp} {q : Qp} {b : Bool} (e : lstAt h m = some (qs.map dq)) : W (dIn b (.tup [.int q.1, .int q.2]) (.ref m) h) Φ = Φ (.ok (.bl (decide (q ∈ qs) != b)) h) := by
  unfold W dIn
  have e1 : toPy h 60 (.tup [.int q.1, .int q.2]) = some (pq q) := toPy_dq q
  have e2 : toPy h 60 (.ref m) = some (.list (qs.map pq)) := by
    show (match lstAt h m with | some l => (opts (toPy h 59) l).map PyData.list | none => none) = _
    rw [e]
    simp only [opts_dq (n := 57) qs, Option.map_some]
  simp only [e1, e2]
  rw [if_pos ⟨pq_shaped q, pqs_shaped qs⟩, any_pq]
/-- a moment in a spell -/
def inS (s : Spl) (t : Qp) : Bool := if qlt t s.b ∨ qlt s.e t then false else (s.wb || decide (t ≠ s.b)) && (s.we || decide (t ≠ s.e))
theorem beq_q {a b : Qp} : (a.1 == b.1 && a.2 == b.2) = decide (a = b) := by
  by_cases e : a = b
  · subst e; simp
  · rw [decide_eq_false e]
    cases hq : (a.1 == b.1 && a.2 == b.2)
    · rfl
    · exact absurd (qp_eq hq) e
/-- what is small enough to be reckoned with -/
structure Bq (B : Nat) (q : Qp) : Prop where
  b1 : Bd B q.1
  b2 : Bd B q.2
theorem Fq.bq {B : Nat} {q : Qp} (f : Fq B q) : Bq B q := ⟨f.b1, f.b2⟩
theorem in_w {A : Nat} {s : Spl} {t : Qp} (b : Bq A s.b) (e : Bq A s.e) (c : Bq A t) (hA : A < 400000) (k : Φ (.ok (.bl (inS s t)) h)) : W (S__law_in [dsp s, dq t] h) Φ := by
  unfold S__law_in
  simp? [less_w c.b1 c.b2 b.b1 b.b2 hA]
  refine brwP (fun h1 => ?_) fun h1 => ?_
  · have h1' : qlt t s.b := h1
    simp? []
    simpa [inS, h1'] using k
  · have h1' : ¬ qlt t s.b := h1
    simp? [less_w e.b1 e.b2 c.b1 c.b2 hA]
    refine brzP (fun h2 => ?_) fun h2 => ?_
    · have h2' : qlt s.e t := h2
      simp? []
      simpa [inS, h1', h2'] using k
    · have h2' : ¬ qlt s.e t := h2
      obtain ⟨sb, wb, se, we⟩ := s
      dsimp only at *
      cases e1 : decide (t = sb) <;> cases e2 : decide (t = se) <;> cases wb <;> cases we <;> simp? [beq_q, e1, e2] <;> simpa [inS, h1', h2', e1, e2] using k
end
theorem qlt_trans {a b c : Qp} (ha : 1 ≤ a.2) (hb : 1 ≤ b.2) (hc : 1 ≤ c.2) (h1 : qlt a b) (h2 : qlt b c) : qlt a c := by
  have h1' : a.1 * b.2 < b.1 * a.2 := h1
  have h2' : b.1 * c.2 < c.1 * b.2 := h2
  have g1 := Int.mul_lt_mul_of_pos_right h1' (show 0 < c.2 by omega)
  have g2 := Int.mul_lt_mul_of_pos_right h2' (show 0 < a.2 by omega)
  have g3 : a.1 * c.2 * b.2 < c.1 * a.2 * b.2 := by grind
  exact Int.lt_of_mul_lt_mul_right g3 (by omega)
theorem qlt_irr {a : Qp} : ¬ qlt a a := fun h => Int.lt_irrefl _ h
theorem qlt_asy {a b : Qp} (h1 : qlt a b) : ¬ qlt b a := fun h2 => by
  have h1' : a.1 * b.2 < b.1 * a.2 := h1
  have h2' : b.1 * a.2 < a.1 * b.2 := h2
  omega
/-- the points between, as the roots are gone through -/
structure PtI (s : Spl) (rs mid : List Qp) : Prop where
  srt : (s.b :: mid).Pairwise qlt
  frm : ∀ q ∈ mid, q ∈ rs ∧ qlt s.b q ∧ qlt q s.e
  all : ∀ q ∈ rs, qlt s.b q → qlt q s.e → q ∈ mid
theorem map_take {α β : Type} (f : α → β) (l : List α) (n : Nat) : (l.map f).take n = (l.take n).map f := (List.map_take).symm
theorem map_drop {α β : Type} (f : α → β) (l : List α) (n : Nat) : (l.map f).drop n = (l.drop n).map f := (List.map_drop).symm
/-- put in where it belongs -/
theorem ins_srt {B : Nat} {l : List Qp} {r : Qp} {n : Nat} (hl : ∀ q ∈ l, Fq B q) (hr : Fq B r) (s : l.Pairwise qlt) (hn : n ≤ l.length) (lo : ∀ j, j < n → ∀ q, l[j]? = some q → qlt q r) (hi : ∀ q, l[n]? = some q → qlt r q) :
    (l.take n ++ [r] ++ l.drop n).Pairwise qlt := by
  have hlo : ∀ q ∈ l.take n, qlt q r := fun q hq => by
    obtain ⟨j, hj, e⟩ := List.getElem_of_mem hq
    rw [List.length_take] at hj
    exact lo j (by omega) q (by rw [← e, List.getElem_take]; exact List.getElem?_eq_getElem (by omega))
  have hhi : ∀ q ∈ l.drop n, qlt r q := fun q hq => by
    cases hd : l.drop n with
    | nil => rw [hd] at hq; cases hq
    | cons a t =>
      have e0 : l[n]? = some a := by
        have := congrArg (fun z => z[0]?) hd
        simpa using this
      have h0 := hi a e0
      rw [hd] at hq
      rcases List.mem_cons.mp hq with rfl | hq
      · exact h0
      · have sd : (a :: t).Pairwise qlt := by rw [← hd]; exact List.Pairwise.sublist (List.drop_sublist n l) s
        have ha : a ∈ l := List.mem_of_getElem? e0
        have hq' : q ∈ l := List.mem_of_mem_drop (by rw [hd]; exact List.mem_cons_of_mem _ hq)
        exact qlt_trans hr.pos (hl a ha).pos (hl q hq').pos h0 (List.rel_of_pairwise_cons sd hq)
  refine List.pairwise_append.mpr ⟨List.pairwise_append.mpr ⟨List.Pairwise.sublist (List.take_sublist n l) s, by simp, ?_⟩, List.Pairwise.sublist (List.drop_sublist n l) s, ?_⟩
  · intro a ha b hb
    rw [List.mem_singleton.mp hb]
    exact hlo a ha
  · intro a ha b hb
    rcases List.mem_append.mp ha with ha | ha
    · exact qlt_trans (hl a (List.mem_of_mem_take ha)).pos hr.pos (hl b (List.mem_of_mem_drop hb)).pos (hlo a ha) (hhi b hb)
    · rw [List.mem_singleton.mp ha]; exact hhi b hb
section
variable {h : Hq} {m : Nat} {Φ : Rs D → Prop}
/-- the points of a spell: its ends, and the roots between, rising -/
def ptl (s : Spl) (mid : List Qp) : List Qp := s.b :: mid ++ (if s.e = s.b then [] else [s.e])
theorem points_w {B : Nat} {s : Spl} {r : Nat} {rs : List Qp} (hB : B ≤ 8000) (fb : Fq B s.b) (fe : Fq B s.e) (hrs : ∀ q ∈ rs, Fq B q) (hl : rs.length ≤ 1000) (er : lstAt h r = some (rs.map dq))
    (k : ∀ (mid : List Qp) (n : Nat) (h1 : Hq), Gr h h1 → h.length ≤ n → lstAt h1 n = some ((ptl s mid).map dq) → mid.length ≤ rs.length → PtI s rs mid → Φ (.ok (.ref n) h1)) : W (S__law_points [dsp s, .ref r] h) Φ := by
  unfold S__law_points
  simp? []
  simp? [w_sqL ((Gr.app h _).lst er)]
  have rl := lstAt_lt er
  rw [show (srcC r (rs.map dq).length).n = rs.length by simp [srcC]]
  refine turns_w (n := rs.length) (I := fun i fr h' => ∃ (mid F : List Qp) (T : List Cell) (x y : Option D), F = s.b :: mid ∧ h' = h ++ [.lst (F.map dq)] ++ T ∧ fr = [some (dsp s), some (.ref r), some (.ref h.length), x, y] ∧ mid.length ≤ i ∧ PtI s (rs.take i) mid) ?_ ?_ rs.length 0 _ _ (by omega) ⟨[], [s.b], [], none, none, rfl, by simp, rfl, by simp, ⟨by simp, by simp, by simp⟩⟩
  · rintro i fr h' hi ⟨mid, F, T, x, y, hF, rfl, rfl, hm, pt⟩
    have gr : Gr h (h ++ [.lst (F.map dq)] ++ T) := ⟨[.lst (F.map dq)] ++ T, by simp⟩
    have lm : lstAt (h ++ [.lst (F.map dq)] ++ T) h.length = some (F.map dq) := lst_mid _ _ _
    have hg : (srcC r (rs.map dq).length).get i (h ++ [.lst (F.map dq)] ++ T) = some (dq rs[i]) := by
      rw [srcC_get er i _ gr, List.getElem?_map, List.getElem?_eq_getElem hi]; rfl
    rw [hg]
    clear hg
    have hq : rs[i] ∈ rs := List.getElem_mem hi
    have fq := hrs _ hq
    have tk : rs.take (i + 1) = rs.take i ++ [rs[i]] := by rw [List.take_succ, List.getElem?_eq_getElem hi]; rfl
    generalize rs[i] = q at *
    have fl : ∀ z ∈ F, Fq B z := fun z hz => by
      rw [hF] at hz
      rcases List.mem_cons.mp hz with rfl | hz
      · exact fb
      · exact hrs z (List.mem_of_mem_take (pt.frm z hz).1)
    have stay : (qlt s.b q → qlt q s.e → q ∈ mid) → PtI s (rs.take (i + 1)) mid := fun hh => ⟨pt.srt, fun z hz => ⟨by rw [tk]; exact List.mem_append_left _ (pt.frm z hz).1, (pt.frm z hz).2⟩, fun z hz => by
      rw [tk] at hz
      rcases List.mem_append.mp hz with hz | hz
      · exact pt.all z hz
      · rw [List.mem_singleton.mp hz]; exact hh⟩
    have hFl : F.length = mid.length + 1 := by rw [hF]; simp
    have hA : B < 400000 := by omega
    refine ⟨_, _, rfl, rfl, ?_⟩
    simp? [in_q lm]
    refine brw (fun h1 => ?_) fun h1 => ?_
    rotate_left
    · have h1' : q ∈ F := by simpa using h1
      simp? []
      refine ⟨mid, F, T, _, _, hF, rfl, rfl, by omega, stay fun a b => ?_⟩
      rw [hF] at h1'
      rcases List.mem_cons.mp h1' with rfl | hz
      · exact absurd a qlt_irr
      · exact hz
    have h1' : q ∉ F := by simpa using h1
    simp? [less_w fb.b1 fb.b2 fq.b1 fq.b2 hA]
    refine brwP (fun h2 => ?_) fun h2 => ?_
    rotate_left
    · simp? []
      exact ⟨mid, F, T, _, _, hF, rfl, rfl, by omega, stay fun a b => absurd a h2⟩
    have h2' : qlt s.b q := h2
    simp? [less_w fq.b1 fq.b2 fe.b1 fe.b2 hA]
    refine brzP (fun h3 => ?_) fun h3 => ?_
    rotate_left
    · simp? []
      exact ⟨mid, F, T, _, _, hF, rfl, rfl, by omega, stay fun a b => absurd b h3⟩
    have h3' : qlt q s.e := h3
    simp? []
    refine while_w (I := fun m fr h2 => ∃ (n : Nat), n + m = F.length ∧ (∀ j, j < n → ∀ z, F[j]? = some z → qlt z q) ∧ h2 = h ++ [.lst (F.map dq)] ++ T ∧ fr = [some (dsp s), some (.ref r), some (.ref h.length), some (dq q), some (.int (n : Int))]) ?_ (m := F.length) ⟨0, by omega, fun j hj => by omega, rfl, rfl⟩
    rintro m fr h2 ⟨n, hn, lo, rfl, rfl⟩
    have ln : n ≤ F.length := by omega
    have fin : (∀ z, F[n]? = some z → qlt q z) → ∀ Ψ : SR → Prop, (∀ mid', F.take n ++ [q] ++ F.drop n = s.b :: mid' → mid'.length = mid.length + 1 → PtI s (rs.take (i + 1)) mid' → Ψ (.nx [some (dsp s), some (.ref r), some (.ref h.length), some (dq q), some (.int (n : Int))] (h ++ [.lst ((F.take n ++ [q] ++ F.drop n).map dq)] ++ T))) →
        Z (sSeq (sExpr (eIns (eV 2) (eV 4) (eV 3))) sEnd [some (dsp s), some (.ref r), some (.ref h.length), some (dq q), some (.int (n : Int))] (h ++ [.lst (F.map dq)] ++ T)) Ψ := by
      intro hi' Ψ kk
      have n0 : n ≠ 0 := fun e => by
        subst e
        have := hi' s.b (by rw [hF]; rfl)
        exact qlt_asy h2' this
      obtain ⟨n', rfl⟩ : ∃ n', n = n' + 1 := ⟨n - 1, by omega⟩
      have srt := ins_srt fl fq (by rw [hF]; exact pt.srt) ln lo hi'
      have e1 : F.take (n' + 1) ++ [q] ++ F.drop (n' + 1) = s.b :: (mid.take n' ++ [q] ++ mid.drop n') := by rw [hF]; simp
      simp? [w_insF lm, w_insH lm (show (0 : Int) ≤ ((n' + 1 : Nat) : Int) by omega) (show ((n' + 1 : Nat) : Int) < 2 ^ 63 by omega) (show small ((F.map dq).length + 1) = true from decide_eq_true (by simp; omega))]
      rw [set_mid]
      have e2 : (F.map dq).take ((n' + 1 : Nat) : Int).toNat ++ [dq q] ++ (F.map dq).drop ((n' + 1 : Nat) : Int).toNat = (F.take (n' + 1) ++ [q] ++ F.drop (n' + 1)).map dq := by
        rw [Int.toNat_natCast, map_take, map_drop, List.map_append, List.map_append]; rfl
      rw [e2]
      refine kk _ e1 (by simp; omega) ?_
      rw [e1] at srt
      have mem : ∀ z, z ∈ mid.take n' ++ [q] ++ mid.drop n' ↔ z = q ∨ z ∈ mid := fun z => by
        rw [List.append_assoc, List.mem_append, List.mem_append, List.mem_singleton]
        have : z ∈ mid ↔ z ∈ mid.take n' ∨ z ∈ mid.drop n' := by rw [← List.mem_append, List.take_append_drop]
        rw [this]
        constructor
        · rintro (a | a | a)
          · exact .inr (.inl a)
          · exact .inl a
          · exact .inr (.inr a)
        · rintro (a | a | a)
          · exact .inr (.inl a)
          · exact .inl a
          · exact .inr (.inr a)
      refine ⟨srt, fun z hz => ?_, fun z hz a b => ?_⟩
      · rcases (mem z).mp hz with rfl | hz
        · exact ⟨by rw [tk]; simp, h2', h3'⟩
        · exact ⟨by rw [tk]; exact List.mem_append_left _ (pt.frm z hz).1, (pt.frm z hz).2⟩
      · rw [tk] at hz
        rcases List.mem_append.mp hz with hz | hz
        · exact (mem z).mpr (.inr (pt.all z hz a b))
        · exact (mem z).mpr (.inl (List.mem_singleton.mp hz))
    simp? [w_lenL lm, List.length_map]
    refine brwP (fun hc => ?_) fun hc => ?_
    rotate_left
    · simp? []
      refine ⟨fun e => (nomatch e), fun _ => ?_⟩
      rw [kT_nx]
      refine fin (fun z hz => ?_) _ fun mid' e1 e2 e3 => ?_
      · have := (List.getElem?_eq_some_iff.mp hz).1
        omega
      · simp? []
        exact ⟨mid', _, T, _, _, e1, rfl, rfl, by omega, e3⟩
    have hc' : n < F.length := by omega
    have ix : atI (F.map dq) (n : Int) = some (dq F[n]) := by
      unfold atI ixN
      have : ¬ ((n : Int) < 0) := by omega
      simp [this, hc']
    have fz := fl F[n] (List.getElem_mem hc')
    simp? [w_ixL lm ix, less_w fz.b1 fz.b2 fq.b1 fq.b2 hA]
    refine ⟨fun hd => ?_, fun hd => ?_⟩
    · have hd' : qlt F[n] q := of_decide_eq_true hd
      simp? []
      refine ⟨m - 1, by omega, n + 1, by omega, fun j hj z hz => ?_, rfl, by simp⟩
      by_cases ej : j = n
      · subst ej
        rw [List.getElem?_eq_getElem hc'] at hz
        cases hz
        exact hd'
      · exact lo j (by omega) z hz
    · have hd' : ¬ qlt F[n] q := of_decide_eq_false hd
      rw [kT_nx]
      refine fin (fun z hz => ?_) _ fun mid' e1 e2 e3 => ?_
      · rw [List.getElem?_eq_getElem hc'] at hz
        cases hz
        by_cases hq' : qlt q F[n]
        · exact hq'
        · exact absurd (List.getElem_mem hc') (by rw [← fq.ext fz hq' hd']; exact h1')
      · simp? []
        exact ⟨mid', _, T, _, _, e1, rfl, rfl, by omega, e3⟩
  · rintro fr h' ⟨mid, F, T, x, y, hF, rfl, rfl, hm, pt⟩
    rw [List.take_of_length_le (Nat.le_refl _)] at pt
    have gr : Gr h (h ++ [.lst (F.map dq)] ++ T) := ⟨[.lst (F.map dq)] ++ T, by simp⟩
    have lm : lstAt (h ++ [.lst (F.map dq)] ++ T) h.length = some (F.map dq) := lst_mid _ _ _
    refine ⟨by have := srcC_fin er _ gr; simpa using this, ?_⟩
    have hFl : F.length = mid.length + 1 := by rw [hF]; simp
    simp? []
    generalize h ++ [.lst (F.map dq)] ++ T = h2 at *
    have l3 : lstAt (h2 ++ [.lst [dq s.e]]) h2.length = some [dq s.e] := lst_new _ _
    cases he : decide (s.e = s.b) with
    | true =>
      have he' : s.e = s.b := of_decide_eq_true he
      simp? [beq_q, he]
      have l4 := lst_new (h2 ++ [.lst [dq s.e]]) []
      have l5 : lstAt (h2 ++ [.lst [dq s.e]] ++ [.lst []]) h.length = some (F.map dq) := lstAt_app (lstAt_app lm _) _
      simp? [w_rep l3 (i := 0) (by simp [small]), List.flatten_nil, w_addL l5 l4 (show small ((F.map dq).length + ([] : List D).length) = true from decide_eq_true (by simp; omega))]
      refine k mid _ _ (((gr.trans (Gr.app _ _)).trans (Gr.app _ _)).trans (Gr.app _ _)) ?_ ?_ (by omega) pt
      · have := gr.len
        simp
        omega
      · rw [lst_new]
        simp [ptl, he', hF]
    | false =>
      have he' : ¬ s.e = s.b := of_decide_eq_false he
      simp? [beq_q, he]
      have l4 := lst_new (h2 ++ [.lst [dq s.e]]) [dq s.e]
      have l5 : lstAt (h2 ++ [.lst [dq s.e]] ++ [.lst [dq s.e]]) h.length = some (F.map dq) := lstAt_app (lstAt_app lm _) _
      simp? [w_rep l3 (i := 1) (by simp [small]), List.flatten_cons, List.flatten_nil, List.append_nil, w_addL l5 l4 (show small ((F.map dq).length + [dq s.e].length) = true from decide_eq_true (by simp; omega))]
      refine k mid _ _ (((gr.trans (Gr.app _ _)).trans (Gr.app _ _)).trans (Gr.app _ _)) ?_ ?_ (by omega) pt
      · have := gr.len
        simp
        omega
      · rw [lst_new]
        simp [ptl, he', hF]
end
end MI
end
section
set_option Elab.async false
set_option linter.all false
set_option autoImplicit false
set_option maxRecDepth 100000
set_option exponentiation.threshold 20000
set_option maxHeartbeats 4000000
open PySem L2
namespace MI
structure Ln where
  a : Qp
  b : Qp
abbrev Cn := Ln × Bool
def lv (x y : Int) (q : Qp) : Int := x * q.2 + y * q.1
end MI
end
section
set_option Elab.async false
set_option linter.all false
set_option autoImplicit false
set_option maxRecDepth 100000
set_option exponentiation.threshold 20000
set_option maxHeartbeats 4000000
open PySem L2
namespace MI
/-- what the law asks of a moment -/
def hold (x y : Int) (ab : Bool) (t : Qp) : Bool := decide (0 < lv x y t) || (decide (lv x y t = 0) && !ab)
end MI
end
section
set_option Elab.async false
set_option linter.all false
set_option autoImplicit false
set_option maxRecDepth 100000
set_option exponentiation.threshold 20000
set_option maxHeartbeats 4000000
open PySem L2
namespace MI
section
variable {h : Hq} {Φ : Rs D → Prop} {A B : Nat} {l : Ln} {t : Qp} {s : Spl}
def mdl (a b : Qp) : Qp := lowQ (a.1 * b.2 + b.1 * a.2) (2 * a.2 * b.2)
theorem middle_w {a b : Qp} (fa : Fq B a) (fb : Fq B b) (hB : B ≤ 2000) (kk : Φ (.ok (dq (mdl a b)) h)) : W (S__law_middle [dq a, dq b] h) Φ := by
  have lt : ∀ n, n ≤ 6001 → n < 400000 := fun n h => by omega
  have pa := fa.pos
  have pb := fb.pos
  have p := Int.mul_pos (show 0 < 2 * a.2 by omega) (show 0 < b.2 by omega)
  have b2 : Bd 3 2 := by unfold Bd; decide
  unfold S__law_middle
  simp? [w_mul (fa.b1.mk fb.b2 (lt _ (by omega)) (lt _ (by omega))), w_mul (fb.b1.mk fa.b2 (lt _ (by omega)) (lt _ (by omega))), w_mul (b2.mk fa.b2 (lt _ (by omega)) (lt _ (by omega))), w_mul ((b2.mul fa.b2).mk fb.b2 (lt _ (by omega)) (lt _ (by omega)))]
  refine low_w p ((b2.mul fa.b2).mul fb.b2) (by omega) ?_
  simp? []
  exact kk
theorem cutD_from1 (l : List D) : cutD l (some 1) none = l.drop 1 := by
  unfold cutD HT.sIx
  cases l with
  | nil => simp
  | cons a l => simp
theorem zip_get (l m : List D) (i : Nat) (h' : Hq) : (srcZ l m).get i h' = ((l.zip m).map fun z => D.tup [z.1, z.2])[i]? := by
  show (match l[i]?, m[i]? with | some x, some y => some (D.tup [x, y]) | _, _ => none) = _
  rw [List.getElem?_map, List.zip, List.getElem?_zipWith]
  cases l[i]? <;> cases m[i]? <;> rfl
theorem zipL_get {h0 : Hq} {a b : Nat} {l m : List D} (e1 : lstAt h0 a = some l) (e2 : lstAt h0 b = some m) (i : Nat) (h' : Hq) (g : Gr h0 h') : (srcZL a b (min l.length m.length)).get i h' = ((l.zip m).map fun z => D.tup [z.1, z.2])[i]? := by
  show (match lstAt h' a, lstAt h' b with | some l, some m => (srcZ l m).get i h' | _, _ => none) = _
  rw [g.lst e1, g.lst e2]
  exact zip_get l m i h'
theorem zipL_fin {h0 : Hq} {a b : Nat} {l m : List D} (e1 : lstAt h0 a = some l) (e2 : lstAt h0 b = some m) (h' : Hq) (g : Gr h0 h') (n : Nat) (hn : n = (l.zip m).length) : (srcZL a b (min l.length m.length)).fin n h' = true := by
  show (match lstAt h' a, lstAt h' b with | some l, some m => (srcZ l m).fin n h' | _, _ => false) = true
  rw [g.lst e1, g.lst e2]
  show (decide (l.length ≤ n) || decide (m.length ≤ n)) = true
  rw [List.length_zip] at hn
  have : l.length ≤ n ∨ m.length ≤ n := by omega
  simpa using this
theorem filter_yes {α : Type} (l : List α) : l.filter (fun _ => true) = l := List.filter_eq_self.mpr (fun _ _ => rfl)
def mids (P : List Qp) : List Qp := (P.zip (P.drop 1)).map fun z => mdl z.1 z.2
def mks (s : Spl) (P : List Qp) : List Qp := P.filter (inS s) ++ mids P
theorem marks_w {r : Nat} {rs : List Qp} (hB : B ≤ 2000) (fb : Fq B s.b) (fe : Fq B s.e) (hrs : ∀ q ∈ rs, Fq B q) (hl : rs.length ≤ 1000) (er : lstAt h r = some (rs.map dq))
    (k : ∀ (mid : List Qp) (n : Nat) (h1 : Hq), Gr h h1 → h.length ≤ n → lstAt h1 n = some ((mks s (ptl s mid)).map dq) → mid.length ≤ rs.length → PtI s rs mid → (∀ q ∈ ptl s mid, Fq B q) → Φ (.ok (.ref n) h1)) : W (S__law_marks [dsp s, .ref r] h) Φ := by
  unfold S__law_marks
  simp? []
  refine points_w (by omega) fb fe hrs hl er fun mid n h1 g1 n1 e1 ml pt => ?_
  have fP : ∀ q ∈ ptl s mid, Fq B q := fun q hq => by
    unfold ptl at hq
    rcases List.mem_append.mp hq with hq | hq
    · rcases List.mem_cons.mp hq with rfl | hq
      · exact fb
      · exact hrs q (pt.frm q hq).1
    · split at hq
      · cases hq
      · rw [List.mem_singleton.mp hq]; exact fe
  have lP : (ptl s mid).length ≤ 1002 := by
    unfold ptl
    split <;> simp <;> omega
  have hA : B < 400000 := by omega
  have k' := k mid
  clear k
  generalize ptl s mid = P at *
  simp? [w_sqL e1]
  refine comp_typed P dq (by simp [srcC]) (by omega) (fun i h' g => srcC_get e1 i h' g) (fun h' g => by have := srcC_fin e1 h' g; simpa using this) (inS s) dq (fun q hq => ⟨_, rfl, fun h' Θ g hΘ => ?_, fun _ h' Ψ g hΨ => ?_⟩) fun T => ?_
  · simp? []
    refine in_w (A := B) fb.bq fe.bq (fP q hq).bq hA ?_
    simp? []
    exact hΘ h' (Gr.refl _)
  · simp? []
    exact hΨ h' (Gr.refl _)
  · have g2 : Gr h1 (h1 ++ [.lst ((P.filter (inS s)).map dq)] ++ T) := ⟨[.lst ((P.filter (inS s)).map dq)] ++ T, by simp⟩
    have e2 : lstAt (h1 ++ [.lst ((P.filter (inS s)).map dq)] ++ T) h1.length = some ((P.filter (inS s)).map dq) := lst_mid _ _ _
    have e3 := g2.lst e1
    generalize h1 ++ [.lst ((P.filter (inS s)).map dq)] ++ T = h3 at *
    simp? [w_cutL e3, cutD_from1]
    have e4 := lst_new h3 ((P.map dq).drop 1)
    have e5 : lstAt (h3 ++ [.lst ((P.map dq).drop 1)]) n = some (P.map dq) := lstAt_app e3 _
    have e6 : lstAt (h3 ++ [.lst ((P.map dq).drop 1)]) h1.length = some ((P.filter (inS s)).map dq) := lstAt_app e2 _
    have g4 : Gr h3 (h3 ++ [.lst ((P.map dq).drop 1)]) := Gr.app _ _
    generalize h3.length = n4 at *
    generalize h3 ++ [.lst ((P.map dq).drop 1)] = h4 at *
    simp? [w_zpL e5 e4]
    refine comp_typed (P.zip (P.drop 1)) (fun z => .tup [dq z.1, dq z.2]) (by simp [srcZL]) (by simp; omega) (fun i h' g => ?_) (fun h' g => zipL_fin e5 e4 h' g _ (by simp)) (fun _ => true) (fun z => dq (mdl z.1 z.2)) (fun z hz => ⟨_, rfl, fun h' Θ g hΘ => ?_, fun _ h' Ψ g hΨ => ?_⟩) fun U => ?_
    · rw [zipL_get e5 e4 i h' g, map_drop, List.zip_map, List.map_map]
      rfl
    · simp? []
      exact hΘ h' (Gr.refl _)
    · simp? []
      obtain ⟨a, b⟩ := z
      have hz' := List.of_mem_zip hz
      refine middle_w (fP a hz'.1) (fP b (List.mem_of_mem_drop hz'.2)) hB ?_
      simp? []
      exact hΨ h' (Gr.refl _)
    · rw [filter_yes] 
      have e7 := lst_mid h4 ((P.zip (P.drop 1)).map fun z => dq (mdl z.1 z.2)) U
      have g5 : Gr h4 (h4 ++ [.lst ((P.zip (P.drop 1)).map fun z => dq (mdl z.1 z.2))] ++ U) := ⟨[.lst ((P.zip (P.drop 1)).map fun z => dq (mdl z.1 z.2))] ++ U, by simp⟩
      have e8 := g5.lst e6
      generalize h4 ++ [.lst ((P.zip (P.drop 1)).map fun z => dq (mdl z.1 z.2))] ++ U = h5 at *
      have sm : small (((P.filter (inS s)).map dq).length + ((P.zip (P.drop 1)).map fun z => dq (mdl z.1 z.2)).length) = true := by
        have := List.length_filter_le (inS s) P
        refine decide_eq_true ?_
        simp
        omega
      simp? [w_addL e8 e7 sm]
      have gg := (((g1.trans g2).trans g4).trans g5)
      refine k' _ _ (gg.trans (Gr.app _ _)) ?_ ?_ ml pt fP
      · exact gg.len
      · rw [lst_new]
        simp [mks, mids, Function.comp_def]
end
end MI
end
section
set_option Elab.async false
set_option linter.all false
set_option autoImplicit false
set_option maxRecDepth 100000
set_option exponentiation.threshold 20000
set_option maxHeartbeats 4000000
open PySem L2
namespace MI
section
variable {h : Hq} {Φ : Rs D → Prop} {p : Nat} {n : Int}
theorem pot_w {ns : List Int} {k : Nat} (hk : k < 100) (kk : ∀ l, PotAt (h ++ [.lst l]) h.length 0 → Φ (.ok (.ref h.length) (h ++ [.lst l]))) : W (S__law_pot [.scr ns, .int k] h) Φ := by
  obtain ⟨l, e, P⟩ := pot_ok (h := h) (ns := ns) hk
  exact W.of e (kk l P)
theorem Sh.intB {B : Nat} {i : Int} (b : Bd B i) (hB : B ≤ 1900) : Sh (.int i) 0 (B + 1) := by
  have h1 : i.natAbs.log2 ≤ B := by
    unfold Bd at b
    by_cases h0 : i.natAbs = 0
    · rw [h0]; exact Nat.zero_le _
    · have := (Nat.log2_lt h0).mpr b; omega
  have h2 : ¬ i = 0 → i.natAbs.log2 < B := fun z => by
    unfold Bd at b
    exact (Nat.log2_lt (by omega)).mpr b
  refine ⟨decide_eq_true (by omega), rfl, Nat.le_refl _, decide_eq_true ?_, ?_⟩
  · exact Nat.le_trans (PyProof.Rows.int_text_len_1921 (by omega)) (by decide)
  · show (if i == 0 then 0 else i.natAbs.log2 + 1) ≤ B + 1
    split
    · omega
    · omega
theorem Sh.q {B : Nat} {q : Qp} (f : Bq B q) (hB : B ≤ 1900) : Sh (pq q) 1 (2 * (B + 2)) := by
  have := Sh.tup (k := 0) (w := B + 1) (ps := [.int q.1, .int q.2]) (fun x hx => by
    simp at hx
    rcases hx with rfl | rfl
    · exact Sh.intB f.b1 hB
    · exact Sh.intB f.b2 hB)
  exact this
/-- a range -/
def rgS (m : Nat) : Src := ⟨m, fun i _ => if i < m then some (.int (0 + (i : Int))) else none, fun i _ => decide (m ≤ i)⟩
theorem iR_ok {m : Nat} (hm : m < 1000000) : iR 0 (m : Int) h = .ok (rgS m) h := by
  have c : (m : Int) < 2 ^ 61 ∧ -(2 ^ 61) < (m : Int) ∧ (0 : Int) < 2 ^ 61 ∧ -(2 ^ 61) < (0 : Int) := by omega
  unfold iR
  rw [if_pos c]
  unfold rgS
  have e : ((m : Int) - 0).toNat = m := by omega
  rw [e]
theorem range_t {b : Ss} {fr : Fr} {Ψ : SR → Prop} {m j : Nat} {I : Nat → Fr → Hq → Prop} (h0 : I 0 fr h) (step : ∀ i fr h, i < m → I i fr h → Z (b (fr.set j (some (.int (i : Int)))) h) (kLoop (I (i + 1)) Ψ)) (done : ∀ fr h, I m fr h → Ψ (.nx fr h)) :
    Z (turns (rgS m).get (rgS m).fin (tgN j) b (rgS m).n 0 fr h) Ψ := by
  have e0 : (rgS m).n = m := rfl
  rw [e0]
  refine turns_w (I := I) (n := m) (fun i fr h hi hI => ⟨.int (i : Int), _, ?_, rfl, step i fr h hi hI⟩) (fun fr h hI => ⟨by simp [rgS], done fr h hI⟩) m 0 fr h (by omega) h0
  simp [rgS, hi]
/-- how many cells are gone through: max(1, min(most, len(script))) -/
theorem cells_n (len : Nat) (most : Int) (h0 : 1 ≤ most) (h1 : most ≤ 100) : ∃ m : Nat, (if (if (len : Int) < most then (len : Int) else most) > 1 then (if (len : Int) < most then (len : Int) else most) else 1) = (m : Int) ∧ m ≤ most.toNat := by
  refine ⟨((if (if (len : Int) < most then (len : Int) else most) > 1 then (if (len : Int) < most then (len : Int) else most) else 1)).toNat, ?_, ?_⟩ <;> split <;> split <;> omega
theorem SpOk.mono {A B : Nat} {s : Spl} (k : SpOk A s) (h : A ≤ B) : SpOk B s := ⟨k.fb.mono h, k.fe.mono h, k.mb, k.me, k.live⟩
theorem toPy_bl {h : Hq} {m : Nat} : ∀ bs : List Bool, opts (toPy h (m + 1)) (bs.map D.bl) = some (bs.map PyData.bool)
  | [] => rfl
  | b :: bs => by
    have ih := toPy_bl (h := h) (m := m) bs
    simp only [List.map_cons, opts, toPy, ih]
theorem bls_lay : ∀ bs : List Bool, PyData.canLayAll0 (bs.map PyData.bool) = true
  | [] => by simp [PyData.canLayAll0]
  | b :: bs => by simp [PyData.canLayAll0, bls_lay bs, PyData.canLay0]
theorem bls_depth : ∀ bs : List Bool, PyData.depthAll (bs.map PyData.bool) ≤ 0
  | [] => by simp [PyData.depthAll]
  | b :: bs => by
    have := bls_depth bs
    simp only [List.map_cons, PyData.depthAll]
    have h : (PyData.bool b).depth = 0 := by simp [PyData.depth]
    omega
theorem bls_shaped (bs : List Bool) : SeqAt.shaped (.list (bs.map PyData.bool)) = true := by
  have h1 := bls_depth bs
  have h2 : PyData.depth (.list (bs.map PyData.bool)) ≤ 64 := by
    simp only [PyData.depth]
    omega
  show (PyData.canLay0 (.list (bs.map PyData.bool)) && decide (PyData.depth (.list (bs.map PyData.bool)) ≤ 64)) = true
  rw [Bool.and_eq_true]
  exact ⟨by simp only [PyData.canLay0]; exact bls_lay bs, decide_eq_true h2⟩
theorem eqv_bls : ∀ as bs : List Bool, PyData.eqvAll (as.map PyData.bool) (bs.map PyData.bool) = (as == bs)
  | [], [] => by simp [PyData.eqvAll]
  | [], _ :: _ => by simp [PyData.eqvAll]
  | _ :: _, [] => by simp [PyData.eqvAll]
  | a :: as, b :: bs => by
    simp only [List.map_cons, PyData.eqvAll, eqv_bls as bs]
    have : PyData.eqv (.bool a) (.bool b) = (a == b) := by cases a <;> cases b <;> rfl
    rw [this]; rfl
/-- lists of truths, == -/
theorem eq_bls {m k : Nat} {as bs : List Bool} {neg : Bool} (e1 : lstAt h m = some (as.map D.bl)) (e2 : lstAt h k = some (bs.map D.bl)) : W (dEqs neg (.ref m) (.ref k) h) Φ = Φ (.ok (.bl ((as == bs) != neg)) h) := by
  have p1 : toPy h 60 (.ref m) = some (.list (as.map PyData.bool)) := by
    show (match lstAt h m with | some l => (opts (toPy h 59) l).map PyData.list | none => none) = _
    rw [e1]
    simp only [toPy_bl (m := 58) as, Option.map_some]
  have p2 : toPy h 60 (.ref k) = some (.list (bs.map PyData.bool)) := by
    show (match lstAt h k with | some l => (opts (toPy h 59) l).map PyData.list | none => none) = _
    rw [e2]
    simp only [toPy_bl (m := 58) bs, Option.map_some]
  unfold W dEqs
  have e3 : eqQ neg (.ref m) (.ref k) h = none := by unfold eqQ; rfl
  rw [e3]
  unfold dEqP
  simp only [p1, p2]
  rw [if_pos ⟨bls_shaped as, bls_shaped bs⟩]
  have : PyData.eqv (.list (as.map PyData.bool)) (.list (bs.map PyData.bool)) = (as == bs) := by simp only [PyData.eqv]; exact eqv_bls as bs
  rw [this]
end
end MI
end
section
set_option Elab.async false
set_option linter.all false
set_option autoImplicit false
set_option maxRecDepth 100000
set_option exponentiation.threshold 20000
set_option maxHeartbeats 4000000
open PySem L2
namespace MI
/-- a fraction that is reckoned with -/
structure Qf where
  q : Qp
  ok : Fq 7000 q
/-- an edge: just ahead of a moment (false), or just behind it (true) -/
structure Ed where
  q : Qp
  s : Bool
  ok : Fq 7000 q
def Ed.lt (a b : Ed) : Prop := qlt a.q b.q ∨ (a.q = b.q ∧ a.s = false ∧ b.s = true)
instance (a b : Ed) : Decidable (a.lt b) := inferInstanceAs (Decidable (_ ∨ _))
namespace Ed
theorem pos (a : Ed) : 1 ≤ a.q.2 := a.ok.pos
theorem irr (a : Ed) : ¬ a.lt a := by
  rintro (h | ⟨_, h1, h2⟩)
  · exact qlt_irr h
  · rw [h1] at h2; cases h2
theorem trans {a b c : Ed} (h1 : a.lt b) (h2 : b.lt c) : a.lt c := by
  rcases h1 with h1 | ⟨e1, s1, s2⟩
  · rcases h2 with h2 | ⟨e2, s3, s4⟩
    · exact .inl (qlt_trans a.pos b.pos c.pos h1 h2)
    · exact .inl (e2 ▸ h1)
  · rcases h2 with h2 | ⟨e2, s3, s4⟩
    · exact .inl (e1 ▸ h2)
    · rw [s2] at s3; cases s3
theorem eq_of {a b : Ed} (h1 : ¬ a.lt b) (h2 : ¬ b.lt a) : a = b := by
  have e : a.q = b.q := a.ok.ext b.ok (fun z => h1 (.inl z)) fun z => h2 (.inl z)
  have s : a.s = b.s := by
    cases ha : a.s <;> cases hb : b.s
    · rfl
    · exact absurd (.inr ⟨e, ha, hb⟩) h1
    · exact absurd (.inr ⟨e.symm, hb, ha⟩) h2
    · rfl
  cases a; cases b
  dsimp only at e s
  subst e s
  rfl
/-- ¬ b < a, that is a ≤ b -/
theorem le_lt {a b c : Ed} (h1 : ¬ b.lt a) (h2 : b.lt c) : a.lt c := by
  by_cases h : a.lt b
  · exact trans h h2
  · rw [eq_of h h1]; exact h2
theorem lt_le {a b c : Ed} (h1 : a.lt b) (h2 : ¬ c.lt b) : a.lt c := by
  by_cases h : b.lt c
  · exact trans h1 h
  · rw [← eq_of h h2]; exact h1
theorem le_trans {a b c : Ed} (h1 : ¬ b.lt a) (h2 : ¬ c.lt b) : ¬ c.lt a := fun h => h2 (lt_le h h1)
theorem asy {a b : Ed} (h : a.lt b) : ¬ b.lt a := fun k => irr a (trans h k)
end Ed
def Qf.pre (m : Qf) : Ed := ⟨m.q, false, m.ok⟩
def Qf.post (m : Qf) : Ed := ⟨m.q, true, m.ok⟩
theorem Qf.lt (m : Qf) : m.pre.lt m.post := .inr ⟨rfl, rfl, rfl⟩
/-- nothing between -/
theorem Qf.adj (m : Qf) (x : Ed) : x.lt m.post ↔ ¬ m.pre.lt x := by
  constructor
  · intro h k
    rcases h with h | ⟨e1, s1, _⟩
    · rcases k with k | ⟨e2, _, s2⟩
      · exact qlt_asy h k
      · exact qlt_irr (show qlt m.q m.q from by have := h; rw [show x.q = m.q from e2.symm] at this; exact this)
    · rcases k with k | ⟨_, _, s2⟩
      · rw [e1] at k; exact qlt_irr k
      · rw [s1] at s2; cases s2
  · intro h
    by_cases h1 : qlt x.q m.q
    · exact .inl h1
    · by_cases h2 : qlt m.q x.q
      · exact absurd (.inl h2) h
      · have e := x.ok.ext m.ok h1 h2
        cases hs : x.s
        · exact .inr ⟨e, hs, rfl⟩
        · exact absurd (.inr ⟨e.symm, rfl, hs⟩) h
/-- a spell by its edges -/
structure Sg where
  lo : Ed
  hi : Ed
  live : lo.lt hi
namespace Sg
def mem (m : Qf) (s : Sg) : Prop := ¬ m.pre.lt s.lo ∧ ¬ s.hi.lt m.post
instance (m : Qf) (s : Sg) : Decidable (mem m s) := inferInstanceAs (Decidable (_ ∧ _))
end Sg
/-- one behind another, with something between -/
def Sep (l : List Sg) : Prop := l.Pairwise fun a b => a.hi.lt b.lo
def anyM (m : Qf) (l : List Sg) : Prop := ∃ s ∈ l, Sg.mem m s
theorem anyM_nil {m : Qf} : ¬ anyM m [] := fun ⟨_, h, _⟩ => nomatch h
theorem anyM_app {m : Qf} {l k : List Sg} : anyM m (l ++ k) ↔ anyM m l ∨ anyM m k := by
  constructor
  · rintro ⟨s, h, k⟩
    rcases List.mem_append.mp h with h | h
    · exact .inl ⟨s, h, k⟩
    · exact .inr ⟨s, h, k⟩
  · rintro (⟨s, h, k⟩ | ⟨s, h, k⟩)
    · exact ⟨s, List.mem_append_left _ h, k⟩
    · exact ⟨s, List.mem_append_right _ h, k⟩
theorem anyM_one {m : Qf} {s : Sg} : anyM m [s] ↔ Sg.mem m s := by
  constructor
  · rintro ⟨t, h, k⟩
    rw [List.mem_singleton.mp h] at k; exact k
  · exact fun h => ⟨s, by simp, h⟩
/-- what is found of rows that go by their begins -/
structure OneW (rows found : List Sg) : Prop where
  sep : Sep found
  mem : ∀ m, anyM m found ↔ anyM m rows
  los : ∀ s ∈ found, ∃ r ∈ rows, s.lo = r.lo
  his : ∀ s ∈ found, ∃ r ∈ rows, s.hi = r.hi
theorem OneW.nil : OneW [] [] := ⟨List.Pairwise.nil, fun m => Iff.rfl, fun s h => (nomatch h), fun s h => (nomatch h)⟩
theorem OneW.more {rows pre : List Sg} {l r : Sg} (o : OneW rows (pre ++ [l])) (h : l.hi.lt r.lo) : OneW (rows ++ [r]) (pre ++ [l] ++ [r]) := by
  refine ⟨?_, fun m => ?_, fun s hs => ?_, fun s hs => ?_⟩
  · refine List.pairwise_append.mpr ⟨o.sep, by simp, fun a ha b hb => ?_⟩
    rw [List.mem_singleton.mp hb]
    rcases List.mem_append.mp ha with ha | ha
    · have := (List.pairwise_append.mp o.sep).2.2 a ha l (by simp)
      exact Ed.trans (Ed.trans this l.live) h
    · rw [List.mem_singleton.mp ha]; exact h
  · rw [anyM_app, anyM_app (l := rows), o.mem m]
  · rcases List.mem_append.mp hs with hs | hs
    · obtain ⟨t, ht, e⟩ := o.los s hs
      exact ⟨t, by simp [ht], e⟩
    · exact ⟨r, by simp, by rw [List.mem_singleton.mp hs]⟩
  · rcases List.mem_append.mp hs with hs | hs
    · obtain ⟨t, ht, e⟩ := o.his s hs
      exact ⟨t, by simp [ht], e⟩
    · exact ⟨r, by simp, by rw [List.mem_singleton.mp hs]⟩
/-- it is within the last one -/
theorem OneW.stay {rows pre : List Sg} {l r : Sg} (o : OneW rows (pre ++ [l])) (h0 : ¬ r.lo.lt l.lo) (h2 : ¬ l.hi.lt r.hi) : OneW (rows ++ [r]) (pre ++ [l]) := by
  refine ⟨o.sep, fun m => ?_, fun s hs => ?_, fun s hs => ?_⟩
  · rw [anyM_app (l := rows), ← o.mem m, anyM_one]
    refine ⟨.inl, fun h => h.elim id fun ⟨a, b⟩ => ⟨l, by simp, fun z => a (Ed.lt_le z h0), fun z => b (Ed.le_lt h2 z)⟩⟩
  · obtain ⟨t, ht, e⟩ := o.los s hs
    exact ⟨t, by simp [ht], e⟩
  · obtain ⟨t, ht, e⟩ := o.his s hs
    exact ⟨t, by simp [ht], e⟩
/-- a common spell of the two that stand -/
def lateE (a b : Ed) : Ed := if a.lt b then b else a
def earlyE (a b : Ed) : Ed := if b.lt a then b else a
theorem late_le (a b c : Ed) : (lateE a b).lt c ↔ a.lt c ∧ b.lt c := by
  unfold lateE
  by_cases h : a.lt b
  · rw [if_pos h]; exact ⟨fun k => ⟨Ed.trans h k, k⟩, fun k => k.2⟩
  · rw [if_neg h]; exact ⟨fun k => ⟨k, Ed.le_lt h k⟩, fun k => k.1⟩
theorem lt_late (a b c : Ed) : c.lt (lateE a b) ↔ c.lt a ∨ c.lt b := by
  unfold lateE
  by_cases h : a.lt b
  · rw [if_pos h]; exact ⟨.inr, fun k => k.elim (fun z => Ed.trans z h) id⟩
  · rw [if_neg h]; exact ⟨.inl, fun k => k.elim id fun z => Ed.lt_le z h⟩
theorem early_lt (a b c : Ed) : (earlyE a b).lt c ↔ a.lt c ∨ b.lt c := by
  unfold earlyE
  by_cases h : b.lt a
  · rw [if_pos h]; exact ⟨.inr, fun k => k.elim (fun z => Ed.trans h z) id⟩
  · rw [if_neg h]; exact ⟨.inl, fun k => k.elim id fun z => Ed.le_lt h z⟩
theorem lt_early (a b c : Ed) : c.lt (earlyE a b) ↔ c.lt a ∧ c.lt b := by
  unfold earlyE
  by_cases h : b.lt a
  · rw [if_pos h]; exact ⟨fun k => ⟨Ed.trans k h, k⟩, fun k => k.2⟩
  · rw [if_neg h]; exact ⟨fun k => ⟨k, Ed.lt_le k h⟩, fun k => k.1⟩
theorem mem_common {a b : Sg} (lv : (lateE a.lo b.lo).lt (earlyE a.hi b.hi)) (m : Qf) : Sg.mem m ⟨lateE a.lo b.lo, earlyE a.hi b.hi, lv⟩ ↔ Sg.mem m a ∧ Sg.mem m b := by
  unfold Sg.mem
  dsimp only
  rw [lt_late, early_lt]
  constructor
  · rintro ⟨h1, h2⟩
    exact ⟨⟨fun z => h1 (.inl z), fun z => h2 (.inl z)⟩, ⟨fun z => h1 (.inr z), fun z => h2 (.inr z)⟩⟩
  · rintro ⟨⟨h1, h2⟩, ⟨h3, h4⟩⟩
    exact ⟨fun z => z.elim h1 h3, fun z => z.elim h2 h4⟩
theorem Sep.at {l : List Sg} (s : Sep l) {i j : Nat} {a b : Sg} (h : i < j) (ha : l[i]? = some a) (hb : l[j]? = some b) : a.hi.lt b.lo := by
  obtain ⟨h1, e1⟩ := List.getElem?_eq_some_iff.mp ha
  obtain ⟨h2, e2⟩ := List.getElem?_eq_some_iff.mp hb
  have := List.pairwise_iff_getElem.mp s i j h1 h2 h
  rw [e1, e2] at this
  exact this
/-- f is the common spell -/
structure IsCom (a b f : Sg) : Prop where
  lo : f.lo = lateE a.lo b.lo
  hi : f.hi = earlyE a.hi b.hi
theorem IsCom.mem {a b f : Sg} (c : IsCom a b f) (m : Qf) : Sg.mem m f ↔ Sg.mem m a ∧ Sg.mem m b := by
  have lv : (lateE a.lo b.lo).lt (earlyE a.hi b.hi) := by rw [← c.lo, ← c.hi]; exact f.live
  have := mem_common lv m
  rw [← this]
  unfold Sg.mem
  rw [c.lo, c.hi]
/-- what is found of two sets when some first ones of each are gone through -/
structure Bth (A B : List Sg) (i j : Nat) (found : List Sg) : Prop where
  sep : Sep found
  frm : ∀ f ∈ found, ∃ (k l : Nat) (a b : Sg), A[k]? = some a ∧ B[l]? = some b ∧ k ≤ i ∧ l ≤ j ∧ (k < i ∨ l < j) ∧ IsCom a b f
  all : ∀ k l a b, A[k]? = some a → B[l]? = some b → k < i ∨ l < j → ∀ m, Sg.mem m a → Sg.mem m b → anyM m found
theorem Bth.nil (A B : List Sg) : Bth A B 0 0 [] := ⟨List.Pairwise.nil, fun f h => (nomatch h), fun k l a b _ _ h => by omega⟩
/-- what is left of all from the edge lo on, some first ones gone through -/
structure Lft (lo edge : Ed) (gone found : List Sg) : Prop where
  sep : Sep found
  mem : ∀ m : Qf, anyM m found ↔ (¬ m.pre.lt lo ∧ ¬ edge.lt m.post ∧ ¬ anyM m gone)
  beg : ¬ edge.lt lo
  ends : ∀ g ∈ gone, ¬ edge.lt g.hi
  frm : edge = lo ∨ ∃ g ∈ gone, edge = g.hi
  los : ∀ f ∈ found, f.lo = lo ∨ ∃ g ∈ gone, f.lo = g.hi
  his : ∀ f ∈ found, ∃ g ∈ gone, f.hi = g.lo
theorem Lft.nil (lo : Ed) : Lft lo lo [] [] := by
  refine ⟨List.Pairwise.nil, fun m => ⟨fun h => absurd h anyM_nil, fun ⟨h1, h2, _⟩ => absurd ((m.adj lo).mpr h1) h2⟩, Ed.irr _, fun g h => (nomatch h), .inl rfl, fun f h => (nomatch h), fun f h => (nomatch h)⟩
/-- the gap ahead of the next one, where there is one -/
structure Gap (edge lo : Ed) (found F : List Sg) : Prop where
  is : (edge.lt lo ∧ ∃ c : Sg, c.lo = edge ∧ c.hi = lo ∧ F = found ++ [c]) ∨ (¬ edge.lt lo ∧ F = found)
theorem Gap.any {edge lo : Ed} {found F : List Sg} (g : Gap edge lo found F) (m : Qf) : anyM m F ↔ anyM m found ∨ (edge.lt m.post ∧ ¬ lo.lt m.post) := by
  rcases g.is with ⟨h, c, e1, e2, rfl⟩ | ⟨h, rfl⟩
  · rw [anyM_app, anyM_one]
    unfold Sg.mem
    rw [e1, e2, m.adj edge]
  · exact ⟨.inl, fun k => k.elim id fun ⟨k1, k2⟩ => absurd (Ed.le_lt h k1) k2⟩
end MI
end
section
set_option Elab.async false
set_option linter.all false
set_option autoImplicit false
set_option maxRecDepth 100000
set_option exponentiation.threshold 20000
set_option maxHeartbeats 4000000
open PySem L2
namespace MI
section
variable {h : Hq} {Φ : Rs D → Prop} {a b : Ed} {s t : Sg}
/-- by their begins -/
def Srt (l : List Sg) : Prop := l.Pairwise fun a b => ¬ b.lo.lt a.lo
theorem atI_nat {l : List D} {n : Nat} (hn : n < l.length) : atI l (n : Int) = some l[n] := by
  unfold atI ixN
  have : ¬ ((n : Int) < 0) := by omega
  simp [this, hn]
theorem Srt.at {l : List Sg} (s : Srt l) {i j : Nat} (hj : j < l.length) (hij : i ≤ j) : ¬ l[j].lo.lt (l[i]'(by omega)).lo := by
  by_cases e : i = j
  · subst e; exact Ed.irr _
  · exact List.pairwise_iff_getElem.mp s i j (by omega) hj (by omega)
/-- rows, as a list or a tuple -/
inductive SeqD (h : Hq) : D → List D → Prop
  | tup (l : List D) : SeqD h (.tup l) l
  | lst (m : Nat) (l : List D) : lstAt h m = some l → SeqD h (.ref m) l
theorem SeqD.gr {h h' : Hq} {d : D} {l : List D} (q : SeqD h d l) (g : Gr h h') : SeqD h' d l := by
  cases q with
  | tup => exact .tup _
  | lst m => rename_i e; exact .lst m _ (g.lst e)
end
end MI
end
section
set_option Elab.async false
set_option linter.all false
set_option autoImplicit false
set_option maxRecDepth 100000
set_option exponentiation.threshold 20000
set_option maxHeartbeats 4000000
open PySem L2
namespace MI
end MI
end
section
set_option Elab.async false
set_option linter.all false
set_option autoImplicit false
set_option maxRecDepth 100000
set_option exponentiation.threshold 20000
set_option maxHeartbeats 4000000
open PySem L2
namespace MI
section
variable {h : Hq} {Φ : Rs D → Prop} {s t : Sg} {d : D} {a : Sx} {fr : Fr} {Ψ : SR → Prop}
/-- within what is reckoned with -/
def SgOk (s : Sg) : Prop := mom s.lo.q ∧ mom s.hi.q
end
end MI
end
section
set_option Elab.async false
set_option linter.all false
set_option autoImplicit false
set_option maxRecDepth 100000
set_option exponentiation.threshold 20000
set_option maxHeartbeats 4000000
open PySem L2
namespace MI
section
variable {h : Hq} {p : Nat} {n many : Int} {Φ : Rs D → Prop}
/-- a comprehension over range(m) whose turns draw -/
theorem comp_draw {m j : Nat} {e : Sx} {fr : Fr} (J : Nat → List D → Hq → Prop) (hm : m ≤ 1000) (h0 : J 0 [] (h ++ [.lst []])) (hJ : ∀ i acc h', J i acc h' → acc.length = i ∧ lstAt h' h.length = some acc)
    (step : ∀ i acc h', i < m → J i acc h' → W (e (fr.set j (some (.int (i : Int)))) h') fun s => ∃ y h2, s = .ok y h2 ∧ lstAt h2 h.length = some acc ∧ J (i + 1) (acc ++ [y]) (h2.set h.length (.lst (acc ++ [y])))) (k : ∀ acc h', J m acc h' → Φ (.ok (.ref h.length) h')) :
    W (picks h.length (rgS m).get (rgS m).fin (tgN j) cYes e fr (rgS m).n 0 (h ++ [.lst []])) Φ := by
  have e0 : (rgS m).n = m := rfl
  rw [e0]
  refine picks_w (n := m) (I := J) (by omega) (fun i acc h' hI => ⟨by have := (hJ i acc h' hI).1; omega, (hJ i acc h' hI).2⟩) (fun i acc h' hi hI => ⟨.int (i : Int), _, by simp [rgS, hi], rfl, ?_⟩) (fun acc h' hI => ⟨by simp [rgS], k acc h' hI⟩) m 0 [] _ (by omega) h0
  exact ⟨true, h', rfl, fun _ => step i acc h' hi hI, fun z => (nomatch z)⟩
end
end MI
end
section
set_option Elab.async false
set_option linter.all false
set_option autoImplicit false
set_option maxRecDepth 100000
set_option exponentiation.threshold 20000
set_option maxHeartbeats 4000000
open PySem L2
namespace MI
theorem Gr.of {h h' : Hq} (l : h.length ≤ h'.length) (e : ∀ r, r < h.length → h'[r]? = h[r]?) : Gr h h' := by
  refine ⟨h'.drop h.length, ?_⟩
  apply List.ext_getElem?
  intro r
  by_cases hr : r < h.length
  · rw [List.getElem?_append_left hr, e r hr]
  · rw [List.getElem?_append_right (by omega), List.getElem?_drop]
    congr 1
    omega
theorem Gr.set {h h' : Hq} (g : Gr h h') {a : Nat} (ha : h.length ≤ a) (c : Cell) : Gr h (h'.set a c) := by
  refine Gr.of (by simpa using g.len) fun r hr => ?_
  rw [List.getElem?_set_ne (by omega)]
  obtain ⟨T, rfl⟩ := g
  rw [List.getElem?_append_left hr]
end MI
end
section
set_option Elab.async false
set_option linter.all false
set_option autoImplicit false
set_option maxRecDepth 100000
set_option exponentiation.threshold 20000
set_option maxHeartbeats 4000000
open PySem L2
namespace MI
end MI
end
section
set_option Elab.async false
set_option linter.all false
set_option autoImplicit false
set_option maxRecDepth 100000
set_option exponentiation.threshold 20000
set_option maxHeartbeats 4000000
open PySem L2
namespace MI
theorem med_lt {a b : Qp} (pa : 1 ≤ a.2) (pb : 1 ≤ b.2) (h : qlt a b) : qlt a (lowQ (a.1 + b.1) (a.2 + b.2)) ∧ qlt (lowQ (a.1 + b.1) (a.2 + b.2)) b := by
  have hg := gI_pos (o := a.1 + b.1) (u := a.2 + b.2) (by omega)
  have e1 := lowQ_x (x := a.1 + b.1) (y := a.2 + b.2)
  have e2 := lowQ_y (x := a.1 + b.1) (y := a.2 + b.2)
  unfold qlt at *
  generalize lowQ (a.1 + b.1) (a.2 + b.2) = q at *
  generalize gI (a.1 + b.1) (a.2 + b.2) = g at *
  constructor
  · refine Int.lt_of_mul_lt_mul_left (a := g) ?_ (by omega)
    have h1 : g * (a.1 * q.2) = a.1 * (a.2 + b.2) := by rw [← e2]; grind
    have h2 : g * (q.1 * a.2) = (a.1 + b.1) * a.2 := by rw [← e1]; grind
    rw [h1, h2]
    grind
  · refine Int.lt_of_mul_lt_mul_left (a := g) ?_ (by omega)
    have h1 : g * (q.1 * b.2) = (a.1 + b.1) * b.2 := by rw [← e1]; grind
    have h2 : g * (b.1 * q.2) = b.1 * (a.2 + b.2) := by rw [← e2]; grind
    rw [h1, h2]
    grind
theorem Ed.between {a e : Ed} (fa : Fq 3000 a.q) (fe : Fq 3000 e.q) (h : a.lt e) : ∃ m : Qf, a.lt m.post ∧ m.pre.lt e := by
  rcases h with h | ⟨h1, h2, h3⟩
  · have p := med_lt fa.pos fe.pos h
    have f : Fq 7000 (lowQ (a.q.1 + e.q.1) (a.q.2 + e.q.2)) := (lowQ_ok (by have := fa.pos; have := fe.pos; omega) (fa.b1.add fe.b1) (fa.b2.add fe.b2)).mono (by decide)
    exact ⟨⟨_, f⟩, .inl p.1, .inl p.2⟩
  · exact ⟨⟨a.q, a.ok⟩, .inr ⟨rfl, h2, rfl⟩, .inr ⟨h1, rfl, h3⟩⟩
theorem mem_iff (m : Qf) (s : Sg) : Sg.mem m s ↔ s.lo.lt m.post ∧ m.pre.lt s.hi := by
  unfold Sg.mem
  rw [m.adj s.lo, m.adj s.hi]
  exact ⟨fun h => ⟨h.1, Decidable.not_not.mp h.2⟩, fun h => ⟨h.1, fun k => k h.2⟩⟩
def Low (s : Sg) : Prop := Fq 3000 s.lo.q ∧ Fq 3000 s.hi.q
theorem early_low {a b : Ed} (fa : Fq 3000 a.q) (fb : Fq 3000 b.q) : Fq 3000 (earlyE a b).q := by
  unfold earlyE
  split
  · exact fb
  · exact fa
theorem first_le {f : Sg} {F : List Sg} (s : Sep (f :: F)) : ∀ g ∈ f :: F, ¬ g.lo.lt f.lo := by
  intro g hg
  rcases List.mem_cons.mp hg with rfl | hg
  · exact Ed.irr _
  · have := (List.pairwise_cons.mp s).1 g hg
    exact Ed.asy (Ed.trans f.live this)
/-- the first begins no earlier -/
theorem un_lo {f g : Sg} {F G : List Sg} (sG : Sep (g :: G)) (lf : Low f) (lg : Low g) (e : ∀ m, anyM m (f :: F) → anyM m (g :: G)) : ¬ f.lo.lt g.lo := by
  intro h
  obtain ⟨m, m1, m2⟩ := Ed.between lf.1 (early_low lf.2 lg.1) ((lt_early f.hi g.lo f.lo).mpr ⟨f.live, h⟩)
  obtain ⟨m3, m4⟩ := (lt_early f.hi g.lo m.pre).mp m2
  obtain ⟨s, hs, ms⟩ := e m ⟨f, by simp, (mem_iff m f).mpr ⟨m1, m3⟩⟩
  have := (m.adj s.lo).mp ((mem_iff m s).mp ms).1
  exact this (Ed.lt_le m4 (first_le sG s hs))
/-- nor ends earlier -/
theorem un_hi {f g : Sg} {F G : List Sg} (sF : Sep (f :: F)) (lF : ∀ s ∈ f :: F, Low s) (lg : Low g) (h0 : f.lo = g.lo) (e : ∀ m, anyM m (g :: G) → anyM m (f :: F)) : ¬ f.hi.lt g.hi := by
  intro h
  have lf := lF f (by simp)
  obtain ⟨x, fx, x1, x2, x3⟩ : ∃ x : Ed, Fq 3000 x.q ∧ f.hi.lt x ∧ (∀ c : Ed, c.lt x → c.lt g.hi) ∧ ∀ s ∈ F, ¬ s.lo.lt x := by
    cases F with
    | nil => exact ⟨g.hi, lg.2, h, fun _ k => k, fun s hs => (nomatch hs)⟩
    | cons f' F' =>
      have sp := (List.pairwise_cons.mp sF)
      refine ⟨earlyE g.hi f'.lo, early_low lg.2 (lF f' (by simp)).1, (lt_early _ _ _).mpr ⟨h, sp.1 f' (by simp)⟩, fun c k => ((lt_early _ _ _).mp k).1, fun s hs k => ?_⟩
      exact first_le sp.2 s hs ((lt_early _ _ _).mp k).2
  obtain ⟨m, m1, m2⟩ := Ed.between lf.2 fx x1
  have mg : Sg.mem m g := (mem_iff m g).mpr ⟨by rw [← h0]; exact Ed.trans f.live m1, x2 _ m2⟩
  obtain ⟨s, hs, ms⟩ := e m ⟨g, by simp, mg⟩
  obtain ⟨s1, s2⟩ := (mem_iff m s).mp ms
  rcases List.mem_cons.mp hs with rfl | hs
  · exact (m.adj s.hi).mp m1 s2
  · exact (m.adj s.lo).mp s1 (Ed.lt_le m2 (x3 s hs))
theorem sg_eq {f g : Sg} (h1 : f.lo = g.lo) (h2 : f.hi = g.hi) : f = g := by
  cases f; cases g
  dsimp only at h1 h2
  subst h1 h2
  rfl
theorem some_m {f : Sg} (lf : Low f) : ∃ m, Sg.mem m f := by
  obtain ⟨m, m1, m2⟩ := Ed.between lf.1 lf.2 f.live
  exact ⟨m, (mem_iff m f).mpr ⟨m1, m2⟩⟩
theorem tail_m {f : Sg} {F : List Sg} (s : Sep (f :: F)) (m : Qf) : anyM m F ↔ anyM m (f :: F) ∧ ¬ Sg.mem m f := by
  constructor
  · rintro ⟨g, hg, mg⟩
    refine ⟨⟨g, List.mem_cons_of_mem _ hg, mg⟩, fun mf => ?_⟩
    have h1 := (List.pairwise_cons.mp s).1 g hg
    have h2 := ((mem_iff m g).mp mg).1
    have h3 := ((mem_iff m f).mp mf).2
    exact (m.adj g.lo).mp h2 (Ed.trans h3 h1)
  · rintro ⟨⟨g, hg, mg⟩, nf⟩
    rcases List.mem_cons.mp hg with rfl | hg
    · exact absurd mg nf
    · exact ⟨g, hg, mg⟩
theorem un_eq : ∀ (F G : List Sg), Sep F → Sep G → (∀ s ∈ F, Low s) → (∀ s ∈ G, Low s) → (∀ m, anyM m F ↔ anyM m G) → F = G
  | [], [], _, _, _, _, _ => rfl
  | [], g :: G, _, _, _, lG, e => by
    obtain ⟨m, hm⟩ := some_m (lG g (by simp))
    exact absurd ((e m).mpr ⟨g, by simp, hm⟩) anyM_nil
  | f :: F, [], _, _, lF, _, e => by
    obtain ⟨m, hm⟩ := some_m (lF f (by simp))
    exact absurd ((e m).mp ⟨f, by simp, hm⟩) anyM_nil
  | f :: F, g :: G, sF, sG, lF, lG, e => by
    have lf := lF f (by simp)
    have lg := lG g (by simp)
    have h1 : f.lo = g.lo := Ed.eq_of (un_lo sG lf lg fun m => (e m).mp) (un_lo sF lg lf fun m => (e m).mpr)
    have h2 : f.hi = g.hi := Ed.eq_of (un_hi sF lF lg h1 fun m => (e m).mpr) (un_hi sG lG lf h1.symm fun m => (e m).mp)
    have h3 := sg_eq h1 h2
    subst h3
    have := un_eq F G (List.pairwise_cons.mp sF).2 (List.pairwise_cons.mp sG).2 (fun s hs => lF s (List.mem_cons_of_mem _ hs)) (fun s hs => lG s (List.mem_cons_of_mem _ hs)) fun m => by
      rw [tail_m sF m, tail_m sG m, e m]
    rw [this]
end MI
end
section
set_option Elab.async false
set_option linter.all false
set_option autoImplicit false
set_option maxRecDepth 100000
set_option exponentiation.threshold 20000
set_option maxHeartbeats 4000000
open PySem L2
namespace MI
abbrev Gw (s : Sg) : Prop := SgOk s ∧ Low s
end MI
end
section
set_option Elab.async false
set_option linter.all false
set_option autoImplicit false
set_option maxRecDepth 100000
set_option exponentiation.threshold 20000
set_option maxHeartbeats 4000000
open PySem L2
namespace MI
abbrev Pr := Sg × D
/-- pairs from an edge to an edge, the spell of each straight ahead of the next -/
def Run (a b : Ed) : List Pr → Prop
  | [] => a = b
  | p :: ps => p.1.lo = a ∧ Run p.1.hi b ps
theorem Run.app {a b c : Ed} : ∀ {ps qs : List Pr}, Run a b ps → Run b c qs → Run a c (ps ++ qs)
  | [], _, r, s => by cases r; exact s
  | p :: ps, _, r, s => ⟨r.1, Run.app r.2 s⟩
theorem Run.le {a b : Ed} : ∀ {ps : List Pr}, Run a b ps → ¬ b.lt a
  | [], r => by cases r; exact Ed.irr _
  | p :: ps, r => fun h => by
    have h1 := Run.le r.2
    have := p.1.live
    rw [r.1] at this
    exact h1 (Ed.trans h this)
theorem Run.ne {a b : Ed} {ps : List Pr} (r : Run a b ps) (h : a.lt b) : ps ≠ [] := fun e => by
  subst e; cases r; exact Ed.irr _ h
theorem Run.lo {a b : Ed} : ∀ {ps : List Pr}, Run a b ps → ∀ p ∈ ps, ¬ p.1.lo.lt a
  | [], _, p, h => nomatch h
  | q :: ps, r, p, h => by
    rcases List.mem_cons.mp h with rfl | h
    · rw [r.1]; exact Ed.irr _
    · have h1 := Run.lo r.2 p h
      have := q.1.live
      rw [r.1] at this
      exact fun z => h1 (Ed.trans z this)
theorem Run.hi {a b : Ed} : ∀ {ps : List Pr}, Run a b ps → ∀ p ∈ ps, ¬ b.lt p.1.hi
  | [], _, p, h => nomatch h
  | q :: ps, r, p, h => by
    rcases List.mem_cons.mp h with rfl | h
    · exact Run.le r.2
    · exact Run.hi r.2 p h
section
variable {κ : D → Nat} {m : Qf} {c : Nat}
/-- one answer at a moment -/
theorem Run.fn {a b : Ed} : ∀ {ps : List Pr}, Run a b ps → ∀ {p q : Pr}, p ∈ ps → q ∈ ps → Sg.mem m p.1 → Sg.mem m q.1 → p = q
  | [], _, p, q, hp, _, _, _ => nomatch hp
  | x :: ps, r, p, q, hp, hq, mp, mq => by
    have key : ∀ z ∈ ps, Sg.mem m x.1 → Sg.mem m z.1 → False := fun z hz h1 h2 => by
      have a1 := ((mem_iff m x.1).mp h1).2
      have a2 := ((mem_iff m z.1).mp h2).1
      have a3 := Run.lo r.2 z hz
      exact (m.adj _).mp a2 (Ed.lt_le a1 a3)
    rcases List.mem_cons.mp hp with rfl | hp'
    · rcases List.mem_cons.mp hq with rfl | hq'
      · rfl
      · exact (key q hq' mp mq).elim
    · rcases List.mem_cons.mp hq with rfl | hq'
      · exact (key p hp' mq mp).elim
      · exact Run.fn r.2 hp' hq' mp mq
end
/-- no two alike beside one another -/
def Canon (κ : D → Nat) (ps : List Pr) : Prop := ∀ (i : Nat) (p q : Pr), ps[i]? = some p → ps[i + 1]? = some q → κ p.2 ≠ κ q.2
theorem Canon.tail {κ : D → Nat} {p : Pr} {ps : List Pr} (k : Canon κ (p :: ps)) : Canon κ ps := fun i x y h1 h2 => k (i + 1) x y (by simpa using h1) (by simpa using h2)
end MI
end
section
set_option Elab.async false
set_option linter.all false
set_option autoImplicit false
set_option maxRecDepth 100000
set_option exponentiation.threshold 20000
set_option maxHeartbeats 4000000
open PySem L2
namespace MI
section
variable {h : Hq} {Φ : Rs D → Prop} {d : D}
theorem Ed.ext' {a b : Ed} (h1 : a.q = b.q) (h2 : a.s = b.s) : a = b := by
  cases a; cases b
  simp only at h1 h2
  subst h1 h2; rfl
instance : DecidableEq Ed := fun a b => if h : a.q = b.q ∧ a.s = b.s then isTrue (Ed.ext' h.1 h.2) else isFalse fun e => h (by subst e; exact ⟨rfl, rfl⟩)
/-- what answers are: known ones, == by their class -/
structure AnsOk (h : Hq) (κ : D → Nat) (A : D → Prop) : Prop where
  eq : ∀ x y, A x → A y → ∀ h', Gr h h' → ∀ (Φ : Rs D → Prop), W (dEqs false x y h') Φ = Φ (.ok (.bl (decide (κ x = κ y))) h')
theorem AnsOk.gr {κ : D → Nat} {A : D → Prop} {h h' : Hq} (a : AnsOk h κ A) (g : Gr h h') : AnsOk h' κ A := ⟨fun x y ax ay h2 g2 => a.eq x y ax ay h2 (g.trans g2)⟩
variable {κ : D → Nat} {A : D → Prop}
end
end MI
end
section
set_option Elab.async false
set_option linter.all false
set_option autoImplicit false
set_option maxRecDepth 100000
set_option exponentiation.threshold 20000
set_option maxHeartbeats 4000000
open PySem L2
namespace MI
end MI
end
section
set_option Elab.async false
set_option linter.all false
set_option autoImplicit false
set_option maxRecDepth 100000
set_option exponentiation.threshold 20000
set_option maxHeartbeats 4000000
open PySem L2
namespace MI
end MI
end
section
set_option Elab.async false
set_option linter.all false
set_option autoImplicit false
set_option maxRecDepth 100000
set_option exponentiation.threshold 20000
set_option maxHeartbeats 4000000
open PySem L2
namespace MI
structure IsSet (F : List Sg) (w : Qf → Prop) : Prop where
  sep : Sep F
  ok : ∀ s ∈ F, Gw s
  mem : ∀ m, anyM m F ↔ w m
theorem IsSet.eq {F G : List Sg} {v w : Qf → Prop} (a : IsSet F v) (b : IsSet G w) (e : ∀ m, v m ↔ w m) : F = G :=
  un_eq F G a.sep b.sep (fun s hs => (a.ok s hs).2) (fun s hs => (b.ok s hs).2) fun m => (a.mem m).trans ((e m).trans (b.mem m).symm)
theorem IsSet.nil {w : Qf → Prop} (h : ∀ m, ¬ w m) : IsSet [] w := ⟨List.Pairwise.nil, fun s hs => (nomatch hs), fun m => ⟨fun z => absurd z anyM_nil, fun z => absurd z (h m)⟩⟩
end MI
end
section
set_option Elab.async false
set_option linter.all false
set_option autoImplicit false
set_option maxRecDepth 100000
set_option exponentiation.threshold 20000
set_option maxHeartbeats 4000000
open PySem L2
namespace MI
section
variable {κ : D → Nat}
theorem Canon.cons {p : Pr} {ps : List Pr} (k : Canon κ ps) (h : ∀ q, ps[0]? = some q → κ p.2 ≠ κ q.2) : Canon κ (p :: ps) := by
  intro i x y h1 h2
  cases i with
  | zero =>
    simp at h1
    subst h1
    exact h y (by simpa using h2)
  | succ i => exact k i x y (by simpa using h1) (by simpa using h2)
end
structure AnsPy (h : Hq) (κ : D → Nat) (A : D → Prop) (π : D → PyData) : Prop where
  py : ∀ x, A x → ∀ h', Gr h h' → ∀ n, toPy h' (n + 20) x = some (π x)
  lay : ∀ x, A x → (π x).canLay0 = true
  dep : ∀ x, A x → (π x).depth ≤ 20
  eqv : ∀ x y, A x → A y → PyData.eqv (π x) (π y) = decide (κ x = κ y)
theorem AnsPy.gr {κ : D → Nat} {A : D → Prop} {π : D → PyData} {h h' : Hq} (a : AnsPy h κ A π) (g : Gr h h') : AnsPy h' κ A π := ⟨fun x ax h2 g2 n => a.py x ax h2 (g.trans g2) n, a.lay, a.dep, a.eqv⟩
end MI
end
section
set_option Elab.async false
set_option linter.all false
set_option autoImplicit false
set_option maxRecDepth 100000
set_option exponentiation.threshold 20000
set_option maxHeartbeats 4000000
open PySem L2
namespace MI
abbrev sA : D := .str "a"
abbrev sB : D := .str "b"
def plains : List D := [.int 0, .int 2, .tup [], .tup [sA], .tup [sA, sB], .tup [.tup [sA, sB]], sA, .non, .bl false, .bl true, .int 1, .tup [.int 0], .tup [.bl false]]
def dAB2 : List (L2.Key × D) := [(.inr "a", .int 2), (.inr "b", .int 0)]
def dBA2 : List (L2.Key × D) := [(.inr "b", .int 0), (.inr "a", .int 2)]
inductive Rpl (h : Hq) : D → Prop
  | pl {d : D} : d ∈ plains → Rpl h d
  | lst {m : Nat} : h[m]? = some (.lst [.int 2]) → Rpl h (.ref m)
  | ab {m : Nat} : h[m]? = some (.dct dAB2) → Rpl h (.ref m)
  | ba {m : Nat} : h[m]? = some (.dct dBA2) → Rpl h (.ref m)
section
variable {h : Hq}
theorem Rpl.gr {d : D} {h h' : Hq} (r : Rpl h d) (g : Gr h h') : Rpl h' d := by
  obtain ⟨t, rfl⟩ := g
  have key : ∀ {m : Nat} {c : Cell}, h[m]? = some c → (h ++ t)[m]? = some c := fun e => by
    rw [List.getElem?_append_left (List.getElem?_eq_some_iff.mp e).1]; exact e
  cases r with
  | pl hd => exact .pl hd
  | lst e => exact .lst (key e)
  | ab e => exact .ab (key e)
  | ba e => exact .ba (key e)
end
end MI
end
section
set_option Elab.async false
set_option linter.all false
set_option autoImplicit false
set_option maxRecDepth 100000
set_option exponentiation.threshold 20000
set_option maxHeartbeats 4000000
open PySem L2
namespace MI
end MI
end
section
set_option Elab.async false
set_option linter.all false
set_option autoImplicit false
set_option maxRecDepth 100000
set_option exponentiation.threshold 20000
set_option maxHeartbeats 4000000
open PySem L2
namespace MI
def isRp (c : Cell) : Prop := c = .lst [.int 2] ∨ c = .dct dAB2 ∨ c = .dct dBA2
def Kp (h h' : Hq) : Prop := ∀ (m : Nat) (c : Cell), isRp c → h[m]? = some c → h'[m]? = some c
theorem Kp.trans {h h1 h2 : Hq} (a : Kp h h1) (b : Kp h1 h2) : Kp h h2 := fun m c r e => b m c r (a m c r e)
theorem Kp.gr {h h' : Hq} (g : Gr h h') : Kp h h' := fun m c _ e => by
  obtain ⟨t, rfl⟩ := g
  rw [List.getElem?_append_left (List.getElem?_eq_some_iff.mp e).1]; exact e
theorem Kp.set {h : Hq} {m : Nat} {l : List D} (e : lstAt h m = some l) (hl : l ≠ [.int 2]) (c : Cell) : Kp h (h.set m c) := fun k d r ek => by
  have hm : m ≠ k := fun z => by
    subst z
    rw [lstAt_some e] at ek
    cases ek
    rcases r with r | r | r
    · cases r; exact hl rfl
    · cases r
    · cases r
  rw [List.getElem?_set_ne hm]; exact ek
theorem Rpl.kp {d : D} {h h' : Hq} (r : Rpl h d) (g : Kp h h') : Rpl h' d := by
  cases r with
  | pl hd => exact .pl hd
  | lst e => exact .lst (g _ _ (.inl rfl) e)
  | ab e => exact .ab (g _ _ (.inr (.inl rfl)) e)
  | ba e => exact .ba (g _ _ (.inr (.inr rfl)) e)
def Ed15 (e : Ed) : Prop := Fq 150 e.q ∧ mom e.q
structure Rw (h : Hq) (a b : Ed) (ps : List Pr) : Prop where
  run : Run a b ps
  ed : ∀ p ∈ ps, Ed15 p.1.lo ∧ Ed15 p.1.hi
  an : ∀ p ∈ ps, Rpl h p.2
theorem Rw.kp {h h' : Hq} {a b : Ed} {ps : List Pr} (r : Rw h a b ps) (g : Kp h h') : Rw h' a b ps := ⟨r.run, r.ed, fun p hp => (r.an p hp).kp g⟩
end MI
end
section
set_option Elab.async false
set_option linter.all false
set_option autoImplicit false
set_option maxRecDepth 100000
set_option exponentiation.threshold 20000
set_option maxHeartbeats 4000000
open PySem L2
namespace MI
end MI
end
section
set_option Elab.async false
set_option linter.all false
set_option autoImplicit false
set_option maxRecDepth 100000
set_option exponentiation.threshold 20000
set_option maxHeartbeats 4000000
open PySem L2
namespace MI
end MI
end
section
set_option Elab.async false
set_option linter.all false
set_option autoImplicit false
set_option maxRecDepth 100000
set_option exponentiation.threshold 20000
set_option maxHeartbeats 4000000
open PySem L2
namespace MI
theorem lv_at {x y : Int} {q z : Qp} (hz : lv x y z = 0) : z.2 * lv x y q = y * (q.1 * z.2 - z.1 * q.2) := by
  unfold lv at *
  have : x * z.2 = - (y * z.1) := by omega
  grind
theorem lv_up {x y : Int} {q z : Qp} (hy : 0 < y) (pz : 1 ≤ z.2) (hz : lv x y z = 0) : (lv x y q < 0 ↔ qlt q z) ∧ (0 < lv x y q ↔ qlt z q) := by
  have e := lv_at (q := q) hz
  unfold qlt
  constructor
  · constructor
    · intro h
      have h1 : z.2 * lv x y q < 0 := Int.mul_neg_of_pos_of_neg (by omega) h
      rw [e] at h1
      have : q.1 * z.2 - z.1 * q.2 < 0 := by
        refine Int.not_le.mp fun hn => ?_
        have := Int.mul_nonneg (show 0 ≤ y by omega) hn
        omega
      omega
    · intro h
      have h1 : y * (q.1 * z.2 - z.1 * q.2) < 0 := Int.mul_neg_of_pos_of_neg hy (by omega)
      rw [← e] at h1
      refine Int.not_le.mp fun hn => ?_
      have := Int.mul_nonneg (show 0 ≤ z.2 by omega) hn
      omega
  · constructor
    · intro h
      have h1 : 0 < z.2 * lv x y q := Int.mul_pos (by omega) h
      rw [e] at h1
      have := Int.pos_of_mul_pos_right h1 hy
      omega
    · intro h
      have h1 : 0 < y * (q.1 * z.2 - z.1 * q.2) := Int.mul_pos hy (by omega)
      rw [← e] at h1
      exact Int.pos_of_mul_pos_right h1 (by omega)
theorem lv_neg {x y : Int} {q : Qp} : lv (-x) (-y) q = - lv x y q := by unfold lv; grind
theorem lv_dn {x y : Int} {q z : Qp} (hy : y < 0) (pz : 1 ≤ z.2) (hz : lv x y z = 0) : (lv x y q < 0 ↔ qlt z q) ∧ (0 < lv x y q ↔ qlt q z) := by
  have h0 : lv (-x) (-y) z = 0 := by rw [lv_neg, hz]; rfl
  have := lv_up (q := q) (show 0 < -y by omega) pz h0
  rw [lv_neg] at this
  exact ⟨⟨fun h => this.2.mp (by omega), fun h => by have := this.2.mpr h; omega⟩, ⟨fun h => this.1.mp (by omega), fun h => by have := this.1.mpr h; omega⟩⟩
inductive Half where
  | up (e : Ed)
  | dn (e : Ed)
  | all
  | non
def Half.holds : Half → Qf → Prop
  | .up e, m => e.lt m.post
  | .dn e, m => m.pre.lt e
  | .all, _ => True
  | .non, _ => False
def lft : Half → Sg → Option Sg
  | .up e, s => if h : (lateE s.lo e).lt s.hi then some ⟨lateE s.lo e, s.hi, h⟩ else none
  | .dn e, s => if h : s.lo.lt (earlyE s.hi e) then some ⟨s.lo, earlyE s.hi e, h⟩ else none
  | .all, s => some s
  | .non, _ => none
theorem lft_up {e : Ed} {s : Sg} : lft (.up e) s = if h : (lateE s.lo e).lt s.hi then some ⟨lateE s.lo e, s.hi, h⟩ else none := rfl
theorem lft_dn {e : Ed} {s : Sg} : lft (.dn e) s = if h : s.lo.lt (earlyE s.hi e) then some ⟨s.lo, earlyE s.hi e, h⟩ else none := rfl
theorem holds_up {e : Ed} {m : Qf} : Half.holds (.up e) m = e.lt m.post := rfl
theorem holds_dn {e : Ed} {m : Qf} : Half.holds (.dn e) m = m.pre.lt e := rfl
theorem lft_mem {k : Half} {s : Sg} {m : Qf} : (∃ t, lft k s = some t ∧ Sg.mem m t) ↔ Sg.mem m s ∧ k.holds m := by
  cases k with
  | all => exact ⟨fun ⟨t, e, h⟩ => by cases e; exact ⟨h, trivial⟩, fun h => ⟨s, rfl, h.1⟩⟩
  | non => exact ⟨fun ⟨t, e, h⟩ => (nomatch e), fun h => h.2.elim⟩
  | up e =>
    rw [lft_up, holds_up]
    constructor
    · rintro ⟨t, et, h⟩
      split at et
      · cases et
        obtain ⟨h1, h2⟩ := (mem_iff m _).mp h
        obtain ⟨h3, h4⟩ := (late_le _ _ _).mp h1
        exact ⟨(mem_iff m s).mpr ⟨h3, h2⟩, h4⟩
      · cases et
    · rintro ⟨h, h4⟩
      obtain ⟨h1, h2⟩ := (mem_iff m s).mp h
      have h5 := (late_le s.lo e m.post).mpr ⟨h1, h4⟩
      have lv : (lateE s.lo e).lt s.hi := Ed.le_lt ((m.adj _).mp h5) h2
      exact ⟨_, dif_pos lv, (mem_iff m _).mpr ⟨h5, h2⟩⟩
  | dn e =>
    rw [lft_dn, holds_dn]
    constructor
    · rintro ⟨t, et, h⟩
      split at et
      · cases et
        obtain ⟨h1, h2⟩ := (mem_iff m _).mp h
        obtain ⟨h3, h4⟩ := (lt_early _ _ _).mp h2
        exact ⟨(mem_iff m s).mpr ⟨h1, h3⟩, h4⟩
      · cases et
    · rintro ⟨h, h4⟩
      obtain ⟨h1, h2⟩ := (mem_iff m s).mp h
      have h5 := (lt_early s.hi e m.pre).mpr ⟨h2, h4⟩
      have lv : s.lo.lt (earlyE s.hi e) := Ed.le_lt ((m.adj _).mp h1) h5
      exact ⟨_, dif_pos lv, (mem_iff m _).mpr ⟨h1, h5⟩⟩
/-- a condition by its signs -/
inductive IsHalf (x y : Int) (ab : Bool) : Half → Prop
  | up (z : Ed) : 0 < y → z.q = lowQ (-x) y → z.s = ab → IsHalf x y ab (.up z)
  | dn (z : Ed) : y < 0 → z.q = lowQ x (-y) → z.s = (!ab) → IsHalf x y ab (.dn z)
  | all : y = 0 → 0 < x ∨ (x = 0 ∧ ab = false) → IsHalf x y ab .all
  | non : y = 0 → ¬ (0 < x ∨ (x = 0 ∧ ab = false)) → IsHalf x y ab .non
section
variable {x y : Int} {ab : Bool} {k : Half}
theorem up_zero {z : Qp} (hy : 0 < y) (e : z = lowQ (-x) y) : lv x y z = 0 := by
  have c := lowQ_cross (x := -x) hy
  rw [e]
  unfold lv
  generalize lowQ (-x) y = q at *
  grind
theorem dn_zero {z : Qp} (hy : y < 0) (e : z = lowQ x (-y)) : lv x y z = 0 := by
  have c := lowQ_cross (x := x) (show 0 < -y by omega)
  rw [e]
  unfold lv
  generalize lowQ x (-y) = q at *
  grind
theorem lv_eq0 {q z : Qp} {A B : Nat} (fq : Fq A q) (fz : Fq B z) (hy : y ≠ 0) (hz : lv x y z = 0) : lv x y q = 0 ↔ q = z := by
  constructor
  · intro h
    have pz := fz.pos
    rcases Int.lt_or_gt_of_ne hy with hy | hy
    · have := lv_dn (q := q) hy pz hz
      exact fq.ext fz (fun z => by have := this.2.mpr z; omega) fun z => by have := this.1.mpr z; omega
    · have := lv_up (q := q) hy pz hz
      exact fq.ext fz (fun z => by have := this.1.mpr z; omega) fun z => by have := this.2.mpr z; omega
  · intro h; rw [h]; exact hz
theorem IsHalf.holds (i : IsHalf x y ab k) (m : Qf) : hold x y ab m.q = true ↔ k.holds m := by
  unfold hold
  cases i with
  | up z hy e s =>
    have hz := up_zero hy e
    have u := lv_up (q := m.q) hy z.pos hz
    have v := lv_eq0 m.ok z.ok (by omega) hz
    show _ ↔ qlt z.q m.q ∨ (z.q = m.q ∧ z.s = false ∧ true = true)
    rw [Bool.or_eq_true, Bool.and_eq_true, decide_eq_true_eq, decide_eq_true_eq, u.2, v, s]
    cases ab <;> simp [eq_comm]
  | dn z hy e s =>
    have hz := dn_zero hy e
    have u := lv_dn (q := m.q) hy z.pos hz
    have v := lv_eq0 m.ok z.ok (by omega) hz
    show _ ↔ qlt m.q z.q ∨ (m.q = z.q ∧ false = false ∧ z.s = true)
    rw [Bool.or_eq_true, Bool.and_eq_true, decide_eq_true_eq, decide_eq_true_eq, u.2, v, s]
    cases ab <;> simp
  | all hy h =>
    subst hy
    have pm := m.ok.pos
    have e : lv x 0 m.q = x * m.q.2 := by unfold lv; omega
    rw [e]
    simp only [Half.holds, iff_true]
    rcases h with h | ⟨h, h2⟩
    · have := Int.mul_pos h (show 0 < m.q.2 by omega)
      simp [this]
    · subst h h2; simp
  | non hy h =>
    subst hy
    have pm := m.ok.pos
    have e : lv x 0 m.q = x * m.q.2 := by unfold lv; omega
    rw [e]
    simp only [Half.holds, iff_false]
    intro hh
    apply h
    rw [Bool.or_eq_true, Bool.and_eq_true, decide_eq_true_eq, decide_eq_true_eq] at hh
    rcases hh with hh | ⟨hh, h2⟩
    · exact .inl (Int.pos_of_mul_pos_left hh (by omega))
    · rcases Int.mul_eq_zero.mp hh with h3 | h3
      · exact .inr ⟨h3, by simpa using h2⟩
      · omega
end
end MI
end
section
set_option Elab.async false
set_option linter.all false
set_option autoImplicit false
set_option maxRecDepth 100000
set_option exponentiation.threshold 20000
set_option maxHeartbeats 4000000
open PySem L2
namespace MI
abbrev Cq := Cn × Half
end MI
end
section
set_option Elab.async false
set_option linter.all false
set_option autoImplicit false
set_option maxRecDepth 100000
set_option exponentiation.threshold 20000
set_option maxHeartbeats 4000000
open PySem L2
namespace MI
/-- an edge that is reckoned with -/
def E301 (e : Ed) : Prop := Fq 301 e.q
structure PI (ps : List Cq) (s : Sg) (i : Nat) (front back : List Pr) (rest : Sg) : Prop where
  fr : Run s.lo rest.lo front
  bk : Run rest.hi s.hi back
  fails : ∀ p ∈ front ++ back, ∃ (n : Nat) (c : Cq), p.2 = .int (n : Int) ∧ ps[n]? = some c ∧ ∀ m, Sg.mem m p.1 → ¬ c.2.holds m
  holds : ∀ c ∈ ps.take i, ∀ m, Sg.mem m rest → c.2.holds m
  ed : ∀ p ∈ front ++ back, E301 p.1.lo ∧ E301 p.1.hi
  er : E301 rest.lo ∧ E301 rest.hi
  lf : front.length ≤ i
  lb : back.length ≤ i
structure PartsOk (ps : List Cq) (s : Sg) (L : List Pr) : Prop where
  run : Run s.lo s.hi L
  each : ∀ p ∈ L, (p.2 = .non ∧ ∀ c ∈ ps, ∀ m, Sg.mem m p.1 → c.2.holds m) ∨ ∃ (n : Nat) (c : Cq), p.2 = .int (n : Int) ∧ ps[n]? = some c ∧ ∀ m, Sg.mem m p.1 → ¬ c.2.holds m
  ed : ∀ p ∈ L, E301 p.1.lo ∧ E301 p.1.hi
  len : L.length ≤ 2 * ps.length + 1
theorem PI.stop {ps : List Cq} {s rest : Sg} {i : Nat} {front back : List Pr} {c : Cq} (q : PI ps s i front back rest) (hc : ps[i]? = some c) (e : lft c.2 rest = none) : PartsOk ps s (front ++ ((rest, .int (i : Int)) :: back)) where
  run := q.fr.app ⟨rfl, q.bk⟩
  each p hp := by
    have no : ∀ m, Sg.mem m rest → ¬ c.2.holds m := fun m hm hh => by
      obtain ⟨t, et, _⟩ := lft_mem.mpr ⟨hm, hh⟩
      rw [e] at et; cases et
    rcases List.mem_append.mp hp with hp | hp
    · exact .inr (q.fails p (List.mem_append_left _ hp))
    · rcases List.mem_cons.mp hp with rfl | hp
      · exact .inr ⟨i, c, rfl, hc, no⟩
      · exact .inr (q.fails p (List.mem_append_right _ hp))
  ed p hp := by
    rcases List.mem_append.mp hp with hp | hp
    · exact q.ed p (List.mem_append_left _ hp)
    · rcases List.mem_cons.mp hp with rfl | hp
      · exact q.er
      · exact q.ed p (List.mem_append_right _ hp)
  len := by
    have h1 := q.lf
    have h2 := q.lb
    have h3 : i < ps.length := (List.getElem?_eq_some_iff.mp hc).1
    simp only [List.length_append, List.length_cons]
    omega
end MI
end
section
set_option Elab.async false
set_option linter.all false
set_option autoImplicit false
set_option maxRecDepth 100000
set_option exponentiation.threshold 20000
set_option maxHeartbeats 4000000
open PySem L2
namespace MI
end MI
end
section
set_option Elab.async false
set_option linter.all false
set_option autoImplicit false
set_option maxRecDepth 100000
set_option exponentiation.threshold 20000
set_option maxHeartbeats 4000000
open PySem L2
namespace MI
end MI
end
section
set_option Elab.async false
set_option linter.all false
set_option autoImplicit false
set_option maxRecDepth 100000
set_option exponentiation.threshold 20000
set_option maxHeartbeats 4000000
open PySem L2
namespace MI
section
variable {h : Hq} {Φ : Rs D → Prop}
def In9 (q : Zp) : Prop := -1000000000 ≤ q.1 ∧ q.1 ≤ 1000000000 ∧ -1000000000 ≤ q.2 ∧ q.2 ≤ 1000000000
end
end MI
end
section
set_option Elab.async false
set_option linter.all false
set_option autoImplicit false
set_option maxRecDepth 100000
set_option exponentiation.threshold 20000
set_option maxHeartbeats 4000000
open PySem L2
namespace MI
end MI
end
section
set_option Elab.async false
set_option linter.all false
set_option autoImplicit false
set_option maxRecDepth 100000
set_option exponentiation.threshold 20000
set_option maxHeartbeats 4000000
open PySem L2
namespace MI
end MI
end
section
set_option Elab.async false
set_option linter.all false
set_option autoImplicit false
set_option maxRecDepth 100000
set_option exponentiation.threshold 20000
set_option maxHeartbeats 4000000
open PySem L2
namespace MI
end MI
end
section
set_option Elab.async false
set_option linter.all false
set_option autoImplicit false
set_option maxRecDepth 100000
set_option exponentiation.threshold 20000
set_option maxHeartbeats 4000000
open PySem L2
namespace MI
end MI
end
section
set_option Elab.async false
set_option linter.all false
set_option autoImplicit false
set_option maxRecDepth 100000
set_option exponentiation.threshold 20000
set_option maxHeartbeats 4000000
open PySem L2
namespace MI
section
variable {h : Hq} {Φ : Rs D → Prop} {m p : Nat} {n : Int}
def mnz : List Int → Int
  | [] => 0
  | i :: l => mnL i l
def mxz : List Int → Int
  | [] => 0
  | i :: l => mxL i l
theorem mxz_mem {l : List Int} (h : l ≠ []) : mxz l ∈ l := by
  cases l with
  | nil => exact absurd rfl h
  | cons i l => exact mxL_mem l i
def sel (i : Nat) (q : Zp) : Int := if i = 0 then q.1 else q.2
end
end MI
end
section
set_option Elab.async false
set_option linter.all false
set_option autoImplicit false
set_option maxRecDepth 100000
set_option exponentiation.threshold 20000
set_option maxHeartbeats 4000000
open PySem L2
namespace MI
/-- d, in h, is the data q, at most k deep, of weight at most w -/
structure Tz (h : Hq) (d : D) (q : PyData) (k w : Nat) : Prop where
  py : ∀ n, k < n → toPy h n d = some q
  pr : ∀ n, k < n → toPyR h n d = some q
  sh : q.showable = true
  nd : q.hasDict = false
  dp : q.depth ≤ k
  ls : q.leavesShort 610 = true
  wt : q.weight ≤ w
  cl : q.canLay0 = true
  rf : PyData.eqv q q = true
structure Tzs (h : Hq) (l : List D) (ps : List PyData) (k w : Nat) : Prop where
  py : ∀ n, k < n → opts (toPy h n) l = some ps
  pr : ∀ n, k < n → opts (toPyR h n) l = some ps
  sh : PyData.showableAll ps = true
  nd : PyData.hasDictAll ps = false
  dp : PyData.depthAll ps ≤ k
  ls : PyData.leavesShortAll 610 ps = true
  wt : PyData.weightAll ps ≤ w
  cl : PyData.canLayAll0 ps = true
  rf : PyData.eqvAll ps ps = true
section
variable {h : Hq} {d : D} {q : PyData} {l : List D} {ps : List PyData} {k w v : Nat}
theorem Tz.more {k' w' : Nat} (t : Tz h d q k w) (hk : k ≤ k') (hw : w ≤ w') : Tz h d q k' w' := ⟨fun n hn => t.py n (by omega), fun n hn => t.pr n (by omega), t.sh, t.nd, Nat.le_trans t.dp hk, t.ls, Nat.le_trans t.wt hw, t.cl, t.rf⟩
theorem Tzs.nil : Tzs h [] [] k 0 := ⟨fun _ _ => rfl, fun _ _ => rfl, rfl, rfl, Nat.zero_le _, rfl, Nat.le_refl _, rfl, by simp [PyData.eqvAll]⟩
theorem Tzs.cons (t : Tz h d q k w) (s : Tzs h l ps k v) : Tzs h (d :: l) (q :: ps) k (w + 1 + v) where
  py n hn := by
    simp only [opts, t.py n hn, s.py n hn]
  pr n hn := by
    simp only [opts, t.pr n hn, s.pr n hn]
  sh := by simp [PyData.showableAll, t.sh, s.sh]
  nd := by simp [PyData.hasDictAll, t.nd, s.nd]
  dp := by
    have h1 := t.dp
    have h2 := s.dp
    simp only [PyData.depthAll]
    omega
  ls := by simp [PyData.leavesShortAll, t.ls, s.ls]
  wt := by
    have h1 := t.wt
    have h2 := s.wt
    simp only [PyData.weightAll]
    omega
  cl := by simp [PyData.canLayAll0, t.cl, s.cl]
  rf := by simp [PyData.eqvAll, t.rf, s.rf]
theorem Tz.tup (s : Tzs h l ps k w) : Tz h (.tup l) (.tuple ps) (k + 1) w where
  py n hn := by
    obtain ⟨m, rfl⟩ : ∃ m, n = m + 1 := ⟨n - 1, by omega⟩
    show (opts (toPy h m) l).map PyData.tuple = _
    rw [s.py m (by omega)]; rfl
  pr n hn := by
    obtain ⟨m, rfl⟩ : ∃ m, n = m + 1 := ⟨n - 1, by omega⟩
    show (opts (toPyR h m) l).map PyData.tuple = _
    rw [s.pr m (by omega)]; rfl
  sh := by simpa [PyData.showable] using s.sh
  nd := by simpa [PyData.hasDict] using s.nd
  dp := by
    have := s.dp
    simp only [PyData.depth]; omega
  ls := by simpa [PyData.leavesShort] using s.ls
  wt := by simpa [PyData.weight] using s.wt
  cl := by simpa [PyData.canLay0] using s.cl
  rf := by simp only [PyData.eqv]; exact s.rf
theorem Tz.lst {m : Nat} (e : lstAt h m = some l) (s : Tzs h l ps k w) : Tz h (.ref m) (.list ps) (k + 1) w where
  py n hn := by
    obtain ⟨m', rfl⟩ : ∃ m, n = m + 1 := ⟨n - 1, by omega⟩
    show (match lstAt h m with | some l => (opts (toPy h m') l).map PyData.list | none => none) = _
    rw [e]
    simp only [s.py m' (by omega), Option.map_some]
  pr n hn := by
    obtain ⟨m', rfl⟩ : ∃ m, n = m + 1 := ⟨n - 1, by omega⟩
    simp only [toPyR, lstAt_some e, s.pr m' (by omega), Option.map_some]
  sh := by simpa [PyData.showable] using s.sh
  nd := by simpa [PyData.hasDict] using s.nd
  dp := by
    have := s.dp
    simp only [PyData.depth]; omega
  ls := by simpa [PyData.leavesShort] using s.ls
  wt := by simpa [PyData.weight] using s.wt
  cl := by simpa [PyData.canLay0] using s.cl
  rf := by simp only [PyData.eqv]; exact s.rf
theorem toPy_one {n : Nat} {i : Int} (hn : 0 < n) : toPy h n (.int i) = some (.int i) ∧ toPyR h n (.int i) = some (.int i) := by
  obtain ⟨m, rfl⟩ : ∃ m, n = m + 1 := ⟨n - 1, by omega⟩
  exact ⟨rfl, rfl⟩
theorem Tz.intB {B : Nat} {i : Int} (b : Bd B i) (hB : B ≤ 590) : Tz h (.int i) (.int i) 0 (B + 1) := by
  have h1 : i.natAbs.log2 < 600 := by
    unfold Bd at b
    by_cases h0 : i.natAbs = 0
    · rw [h0]; decide
    · have := (Nat.log2_lt h0).mpr b; omega
  refine ⟨fun n hn => (toPy_one hn).1, fun n hn => (toPy_one hn).2, decide_eq_true (by omega), rfl, Nat.le_refl _, decide_eq_true ?_, ?_, rfl, by simp [PyData.eqv]⟩
  · have := PySem.int_text_length_le (k := 600) (by decide) h1
    show (Str.ofString (toString i)).length ≤ 610
    rw [PySem.ofString_length]
    omega
  · show (if i == 0 then 0 else i.natAbs.log2 + 1) ≤ B + 1
    split
    · omega
    · rename_i h0
      have h0' : i.natAbs ≠ 0 := by simpa using h0
      have := (Nat.log2_lt h0').mpr b
      omega
theorem Tz.int {i : Int} (b : Bd 190 i) : Tz h (.int i) (.int i) 0 201 := (Tz.intB b (by decide)).more (Nat.le_refl _) (by decide)
theorem Tz.non : Tz h .non .none 0 201 := by
  refine ⟨fun n hn => ?_, fun n hn => ?_, rfl, rfl, Nat.le_refl _, rfl, Nat.zero_le _, rfl, by simp [PyData.eqv]⟩
  all_goals
    obtain ⟨m, rfl⟩ : ∃ m, n = m + 1 := ⟨n - 1, by omega⟩
    rfl
theorem Tz.bl (b : Bool) : Tz h (.bl b) (.bool b) 0 201 := by
  refine ⟨fun n hn => ?_, fun n hn => ?_, rfl, rfl, Nat.le_refl _, rfl, Nat.zero_le _, rfl, by simp [PyData.eqv]⟩
  all_goals
    obtain ⟨m, rfl⟩ : ∃ m, n = m + 1 := ⟨n - 1, by omega⟩
    rfl
theorem Tzs.map {α : Type} {enc : α → D} {dec : α → PyData} : ∀ {xs : List α}, (∀ x ∈ xs, Tz h (enc x) (dec x) k w) → Tzs h (xs.map enc) (xs.map dec) k (xs.length * (w + 1))
  | [], _ => by simpa using Tzs.nil
  | x :: xs, hx => by
    have := Tzs.cons (hx x (by simp)) (Tzs.map (xs := xs) fun y hy => hx y (by simp [hy]))
    rw [List.length_cons, Nat.add_mul, Nat.one_mul, Nat.add_comm]
    exact this
theorem Tzs.more {w' : Nat} (t : Tzs h l ps k w) (hw : w ≤ w') : Tzs h l ps k w' := ⟨t.py, t.pr, t.sh, t.nd, t.dp, t.ls, Nat.le_trans t.wt hw, t.cl, t.rf⟩
theorem Tz.shaped (t : Tz h d q k w) (hk : k ≤ 64) : SeqAt.shaped q = true := by
  show (PyData.canLay0 q && decide (PyData.depth q ≤ 64)) = true
  rw [Bool.and_eq_true]
  exact ⟨t.cl, decide_eq_true (Nat.le_trans t.dp hk)⟩
theorem tz_eq {d' : D} {q' : PyData} {k' w' : Nat} {neg : Bool} (t : Tz h d q k w) (t' : Tz h d' q' k' w') (hk : k < 60) (hk' : k' < 60) (hq : eqQ neg d d' h = none) {Φ : Rs D → Prop} : W (dEqs neg d d' h) Φ = Φ (.ok (.bl (PyData.eqv q q' != neg)) h) := by
  unfold W dEqs
  rw [hq]
  unfold dEqP
  simp only [t.py 60 hk, t'.py 60 hk']
  rw [if_pos ⟨t.shaped (by omega), t'.shaped (by omega)⟩]
end
end MI
end
section
set_option Elab.async false
set_option linter.all false
set_option autoImplicit false
set_option maxRecDepth 100000
set_option exponentiation.threshold 20000
set_option maxHeartbeats 4000000
open PySem L2
namespace MI
theorem W.mono {α : Type} {r : Rs α} {Φ Ψ : Rs α → Prop} (w : W r Φ) (k : ∀ s, Φ s → Ψ s) : W r Ψ := k _ w
def sh (u v : Int) (q : Zp) : Zp := (q.1 + u, q.2 + v)
theorem crs_sh (u v : Int) (a b c : Zp) : crs (sh u v a) (sh u v b) (sh u v c) = crs a b c := by unfold crs sh; grind
theorem wk_sh (u v : Int) : ∀ (l : List Zp) (a b : Zp), wk (sh u v a) (sh u v b) (l.map (sh u v)) ↔ wk a b l
  | [], a, b => Iff.rfl
  | c :: l, a, b => by simp only [List.map_cons, wk, crs_sh, wk_sh u v l b c]
theorem ups_sh (u v : Int) : ∀ (l : List Zp) (a b : Zp), ups (sh u v a) (sh u v b) (l.map (sh u v)) = ups a b l
  | [], a, b => rfl
  | c :: l, a, b => by
    simp only [List.map_cons, ups, ups_sh u v l b c]
    congr 1
    have e1 : (sh u v b).2 < (sh u v c).2 ↔ b.2 < c.2 := by unfold sh; dsimp only; omega
    have e2 : (sh u v a).2 < (sh u v b).2 ↔ a.2 < b.2 := by unfold sh; dsimp only; omega
    simp only [e1, e2]
theorem Rg.sh (u v : Int) {c : List Zp} (h : Rg c) : Rg (c.map (MI.sh u v)) := by
  obtain ⟨X, a, b, e, h1, h2⟩ := h
  refine ⟨X.map (MI.sh u v), MI.sh u v a, MI.sh u v b, by rw [e]; simp, (wk_sh u v _ _ _).2 h1, by rw [ups_sh, h2]⟩
theorem sh_inj {u v : Int} {a b : Zp} (h : sh u v a = sh u v b) : a = b := by
  unfold sh at h
  have h1 := congrArg Prod.fst h
  have h2 := congrArg Prod.snd h
  dsimp only at h1 h2
  exact Prod.ext (by omega) (by omega)
theorem Rn.sh (u v : Int) {c : List Zp} (h : Rn c) : Rn (c.map (MI.sh u v)) := by
  refine ⟨by simpa using h.ne, by simpa using h.le, ?_, fun k => (h.rg (by simpa using k)).sh u v, ?_⟩
  · exact List.Pairwise.map (MI.sh u v) (fun a b hab e => hab (sh_inj e)) h.nd
  · refine (cyc_map _).2 (Cyc.imp (fun a b k q hq => ?_) h.lf)
    obtain ⟨z, hz, rfl⟩ := List.mem_map.1 hq
    rw [crs_sh]
    exact k z hz
end MI
end
section
set_option Elab.async false
set_option linter.all false
set_option autoImplicit false
set_option maxRecDepth 100000
set_option exponentiation.threshold 20000
set_option maxHeartbeats 4000000
open PySem L2
namespace MI
structure Row where
  m : Int
  c : List Zp
  u : Int
  v : Int
section
variable {h : Hq} {Φ : Rs D → Prop} {m p : Nat} {n : Int}
theorem In9.b1 {q : Zp} (i : In9 q) : Bd 30 q.1 ∧ Bd 30 q.2 := ⟨Bd.of (by have := i.1; omega) (by have := i.2.1; omega), Bd.of (by have := i.2.2.1; omega) (by have := i.2.2.2; omega)⟩
end
end MI
end
section
set_option Elab.async false
set_option linter.all false
set_option autoImplicit false
set_option maxRecDepth 100000
set_option exponentiation.threshold 20000
set_option maxHeartbeats 4000000
open PySem L2
namespace MI
end MI
end
section
set_option Elab.async false
set_option linter.all false
set_option autoImplicit false
set_option maxRecDepth 100000
set_option exponentiation.threshold 20000
set_option maxHeartbeats 4000000
open PySem L2
namespace MI
end MI
namespace MI
end MI
namespace MI
/-- the pace's part -/
def pcs (r : Row) (i : Nat) : Int := if i = 0 then r.u else r.v
def dus (r : Row) (c : List Zp) (i : Nat) : List Zp := [(mnz (c.map (sel i)) - mxz (r.c.map (sel i)) + pcs r i * r.m, 0 - pcs r i), (mnz (r.c.map (sel i)) - mxz (c.map (sel i)) - pcs r i * r.m, pcs r i)]
end MI
namespace MI
end MI
namespace MI
end MI
namespace MI
end MI
namespace MI
section
variable {h : Hq} {Φ : Rs D → Prop} {m p : Nat} {n : Int}
/-- the greatest that corners count -/
def rch (c : List Zp) (a b : Int) : Int := mxz (c.map fun z => a * z.1 + b * z.2)
end
end MI
namespace MI
end MI
end
section
set_option Elab.async false
set_option linter.all false
set_option autoImplicit false
set_option maxRecDepth 100000
set_option exponentiation.threshold 20000
set_option maxHeartbeats 4000000
open PySem L2
namespace MI
/-- p x + q y of a corner -/
def dt (a b : Int) (z : Zp) : Int := a * z.1 + b * z.2
theorem rch_at {c : List Zp} (ne : c ≠ []) (a b : Int) : ∃ z ∈ c, dt a b z = rch c a b := by
  obtain ⟨z, hz, e⟩ := List.mem_map.1 (mxz_mem (l := c.map fun z => a * z.1 + b * z.2) (by simpa using ne))
  exact ⟨z, hz, e⟩
/-- in all half planes -/
def InH (c : List Zp) (x y u : Int) : Prop := ∀ a b : Int, a * x + b * y ≤ rch c a b * u
theorem pr_mem {P Q : Zp → Zp → Prop} : ∀ {l : List Zp}, pr P l → (∀ a ∈ l, ∀ b ∈ l, P a b → Q a b) → pr Q l
  | [], _, _ => trivial
  | [_], _, _ => trivial
  | a :: b :: l, h, k => ⟨k a (by simp) b (by simp) h.1, pr_mem (l := b :: l) h.2 fun x hx y hy => k x (.tail _ hx) y (.tail _ hy)⟩
theorem Cyc.mem {P Q : Zp → Zp → Prop} {c : List Zp} (h : Cyc P c) (k : ∀ a ∈ c, ∀ b ∈ c, P a b → Q a b) : Cyc Q c := by
  cases c with
  | nil => trivial
  | cons a l =>
    refine pr_mem h fun x hx y hy => k x ?_ y ?_
    · have : x ∈ a :: l ++ [a] := hx
      simp at this ⊢; rcases this with h | h | h <;> simp [h]
    · have : y ∈ a :: l ++ [a] := hy
      simp at this ⊢; rcases this with h | h | h <;> simp [h]
end MI
end
section
set_option Elab.async false
set_option linter.all false
set_option autoImplicit false
set_option maxRecDepth 100000
set_option exponentiation.threshold 20000
set_option maxHeartbeats 4000000
open PySem L2
namespace MI
def InC (A B : List Zp) : Prop := ∀ v ∈ A, InH B v.1 v.2 1
theorem InC.rch {A B : List Zp} (ne : A ≠ []) (h : InC A B) (a b : Int) : rch A a b ≤ rch B a b := by
  obtain ⟨v, hv, e⟩ := rch_at ne a b
  have := h v hv a b
  rw [← e]
  unfold dt
  omega
theorem InC.trans {A B C : List Zp} (nb : B ≠ []) (h : InC A B) (k : InC B C) : InC A C := fun v hv a b => by
  have h1 := h v hv a b
  have h2 := k.rch nb a b
  omega
end MI
end
section
set_option Elab.async false
set_option linter.all false
set_option autoImplicit false
set_option maxRecDepth 100000
set_option exponentiation.threshold 20000
set_option maxHeartbeats 4000000
open PySem L2
namespace MI
end MI
end
section
set_option Elab.async false
set_option linter.all false
set_option autoImplicit false
set_option maxRecDepth 100000
set_option exponentiation.threshold 20000
set_option maxHeartbeats 4000000
open PySem L2
namespace MI
section
variable {h : Hq} {Φ : Rs D → Prop} {Ψ : SR → Prop} {m p : Nat} {n : Int} {B : Nat} {a : Sx} {fr : Fr}
/-- as many times as great -/
def sc (u : Int) (q : Zp) : Zp := (q.1 * u, q.2 * u)
end
end MI
end
section
set_option Elab.async false
set_option linter.all false
set_option autoImplicit false
set_option maxRecDepth 100000
set_option exponentiation.threshold 20000
set_option maxHeartbeats 4000000
open PySem L2
namespace MI
end MI
end
section
set_option Elab.async false
set_option linter.all false
set_option autoImplicit false
set_option maxRecDepth 100000
set_option exponentiation.threshold 20000
set_option maxHeartbeats 4000000
open PySem L2
namespace MI
section
variable {h : Hq} {Φ : Rs D → Prop} {p m : Nat} {n : Int}
theorem eqBl_w {a b neg : Bool} : W (dEqs neg (.bl a) (.bl b) h) Φ = Φ (.ok (.bl ((a == b) != neg)) h) := by
  rw [tz_eq (Tz.bl a) (Tz.bl b) (by decide) (by decide) rfl]
  have : PyData.eqv (.bool a) (.bool b) = (a == b) := by cases a <;> cases b <;> rfl
  rw [this]
end
end MI
end
section
set_option Elab.async false
set_option linter.all false
set_option autoImplicit false
set_option maxRecDepth 100000
set_option maxHeartbeats 4000000
namespace MiXv
open PySem PySem.W PySem.Spec PySem.Calls PyProof.Rows
section
variable {prog : Program} {w : World} {A : Around} {E : Value → Shared → Prop} {s : Shared} {K : Frag} {x D : Addr} {ox : Obj} {od : Option Obj}
theorem findObj_data {C : Addr} {name : Str} {a g : Value} (hc : (clsIn K C).isSome = true) (ha : findIn K (.ref C) name = some (some a)) (hg : specialIn K a "__get__" = some (some g)) (ht : takesIn K a = some true) : findObj K C od name = some (.bind g a) := by
  obtain ⟨cd, hc⟩ := Option.isSome_iff_exists.mp hc
  unfold findObj
  rw [hc, Option.bind_some, ha, Option.bind_some]
  simp [hg, ht]
theorem kin_class {Q : Option Value → Shared → Prop} (C : L2.ExcC K D) (X : K.In s.heap) (I : InstAt s.heap x ox D od) (h : Q (some (.ref D)) { s with toks := s.toks + 1 }) : wpAny (model prog w) A (getAttr? (.ref x) "__class__") Q E s := by
  obtain ⟨hga, hgt, hsub, hdct, ha, hn, htk, hm⟩ := C
  have hf : findObj K D od "__class__" = some (.bind (.builtin "getset_descriptor.__get__") (.builtin "object.__class__")) := findObj_data (by obtain ⟨cd, hc, _⟩ := any_some hdct; rw [hc]; rfl) ha hn htk
  obtain ⟨hp, g, d, t, os⟩ := s
  have L0 := I.type (M := model prog w)
  have L1 := looks_findIn (M := model prog w) X hga
  have L2 := looks_findIn (M := model prog w) X hgt
  have L3 := looks_find (M := model prog w) X I hf
  have sub : Looks (model prog w) hp (isInstance (.ref x) (.type "BaseException")) true := L0.andThen (looks_subIn X hsub)
  have hx0 : (false && onTheHeap (Value.builtin "BaseException.__getattribute__")) = false := rfl
  have hx2 : (Value.builtin "BaseException.__getattribute__" == Value.builtin "object.__getattribute__") = false := by decide +kernel
  have hx1 : (onTheHeap (Value.ref D) && Value.builtin "BaseException.__getattribute__" == Value.builtin "object.__getattribute__") = false := by rw [hx2]; rfl
  unfold getAttr? getAttrBy? getAttrBy
  refine wpAny_bind (wpAny_mkText (wpAny_bind (wpAny_attempt (wpAny_holding (wpAny_bind (L0.at (wpAny_bind (L1.at ?_))))))))
  show wpAny _ _ (if (onTheHeap (Value.ref D) && Value.builtin "BaseException.__getattribute__" == Value.builtin "object.__getattribute__") = true then _ else _) _ _ _
  rw [hx1, if_neg Bool.false_ne_true]
  unfold getAttrByItsOwn hookBefore
  refine wpAny_bind ?_
  rw [if_pos (show onTheHeap (Value.ref D) = true from rfl)]
  refine L2.at ?_
  refine wpAny_bind (wpAny_attempt (wpAny_holding ?_))
  unfold callGetattribute
  rw [hx0, if_neg Bool.false_ne_true]
  unfold boundAndCalled
  rw [PySem.F.excAttr_ValueError.ga.bind (.ref x)]
  refine wpAny_bind (wpAny_pure ?_)
  show wpAny _ _ (call (.builtin "BaseException.__getattribute__") [.ref x, .str "__class__" t]) _ _ _
  refine wpAny_call (codeAny_call_builtin PySem.F.excAttr_ValueError.ga.plain PySem.F.entry_bexc_ga ?_)
  refine @check_slot (model prog w) _ _ ⟨hp, g, d, t + 1, os⟩ "BaseException.__getattribute__" "BaseException" "__getattribute__" (.ref x) [.str "__class__" t] [] _ (by decide +kernel) (by decide +kernel) sub (PySem.F.args_bexc_ga (.ref x) (.str "__class__" t)) ?_
  unfold Builtin.«object.__getattribute__»
  refine wpAny_bind (wpAny_of_eq (a := ((Value.ref x : Value), [Value.str "__class__" t])) (by first | rfl | (simp only [slotArgs]; rfl)) ?_)
  refine wpAny_bind (wpAny_pure (wpAny_bind (L0.at (wpAny_bind (L3.at ?_)))))
  show wpAny _ _ (holding [Value.builtin "object.__class__"] (call (.builtin "getset_descriptor.__get__") [.builtin "object.__class__", .ref x, .ref D]) >>= ret) _ _ _
  refine wpAny_bind (wpAny_holding (wpAny_call (class_get (s := ⟨hp, g, d, t + 1, os⟩) (ox := ox) (od := od) X I hm ?_)))
  refine wpAny_pure ?_
  show wpAny _ _ (handedOut (.ref D)) _ _ _
  rw [handedOut_of (v := .ref D) rfl]
  first
    | exact wpAny_pure (wpAny_pure h)
    | exact wpAny_pure h
    | exact wpAny_pure (wpAny_bind (wpAny_pure (wpAny_pure h)))
theorem kitx (C : L2.ExcC K D) : KitX K (.ref x) (.ref D) (fun h => InstAt h x ox D od) where
  ty := fun _ _ _ I => I.type
  it := fun _ _ X _ => by
    obtain ⟨cdD, hcD, _⟩ := any_some C.hd
    unfold clsIn at hcD
    split at hcD
    · rename_i c' d' cd' sl' ho
      intro A' Q' E' s' k q
      unfold isType loadHead
      exact wpAny_bind (wpAny_loadPart (k _ _ (X _ _ ho)) (wpAny_pure q))
    · cases hcD
  ne := fun h tp dd its n sl X htp => by
    obtain ⟨cdD, hcD, _⟩ := any_some C.hd
    refine Bool.eq_false_iff.mpr fun q => ?_
    have e : D = tp := Value.ref.inj (beq_iff_eq.mp q)
    subst e
    unfold clsIn at hcD
    split at hcD
    · rename_i c' d' cd' sl' ho
      have z := (X _ _ ho).symm.trans htp
      cases z
    · cases hcD
  ca := fun X I k => kin_class C X I k
end
end MiXv
namespace MI
open PySem PySem.Spec PyProof.Rows L2
/-- what is tracked of an exception object of the class at C, its dict at d -/
def XAt (H : Hp) (a C : Addr) (d : Option Addr) : Prop := (∃ φ : Heap → Prop, H a = some (.ext φ) ∧ ∀ h, φ h → ∃ (oe : Obj) (us : Array Value), h.get? a = some oe ∧ oe.cls = .ref C ∧ oe.dict = d ∧ oe.data = .fields us) ∧ ∀ b, d = some b → ∃ fs, H b = some (.xd fs)
section
variable {X : Cx} {pins : List (Addr × Obj)} {σ : L2.St} {H : Hp} {s : Shared}
theorem XAt.inst {a C : Addr} {d : Option Addr} (x : XAt H a C d) (I : L2.Inv X pins σ H s) : ∃ oe od, PySem.W.InstAt s.heap a oe C od ∧ ∀ b fs, d = some b → H b = some (.xd fs) → ∃ o mA, od = some o ∧ s.heap.Ns1 b mA ∧ (∀ f, RelO (fs.lookup f) (mA f)) ∧ ∀ n, PySem.W.lookIn n o = some (mA n) := by
  obtain ⟨⟨φ, h1, h2⟩, h3⟩ := x
  have ok := I.hok a _ h1
  unfold ObjOk at ok
  obtain ⟨oe, us, e1, e2, e3, e4⟩ := h2 _ ok.1
  obtain ⟨oc, odc, oda, osl⟩ := oe
  dsimp only at e2 e3 e4
  subst e2 e3 e4
  cases d0 : odc with
  | none => exact ⟨_, none, ⟨e1, rfl, rfl, by rw [d0]; trivial⟩, fun b fs z => by cases z⟩
  | some b =>
    obtain ⟨fs, hb⟩ := h3 b d0
    have okb := I.hok b _ hb
    unfold ObjOk at okb
    obtain ⟨mA, hns, hr⟩ := okb
    obtain ⟨o, ho, hl⟩ := lookIn_ns hns
    refine ⟨_, some o, ⟨e1, rfl, rfl, by rw [d0]; exact ho⟩, fun b' fs' z hb' => ?_⟩
    cases z
    rw [hb] at hb'
    cases hb'
    exact ⟨o, mA, rfl, hns, hr, hl⟩
end
/-- isinstance(e, c), e an exception that is tracked -/
def rIsX (K : PySem.W.Frag) : List V → Hp → VK → Prop := fun xs H Q => ∃ (a C : Addr) (d : Option Addr) (c : V) (cv : Value) (b : Bool), xs = [.ref a, c] ∧ XAt H a C d ∧ ExcC K C ∧ (∀ u, RelV c u → u = cv) ∧ PySem.W.kitOne K (.ref C) cv = some b ∧ Q (.bl b) H
def rIsXT (K : PySem.W.Frag) : List V → Hp → VK → Prop := fun xs H Q => ∃ (a C : Addr) (d : Option Addr) (tp : Addr) (cs : List V) (us : List Value) (b : Bool), xs = [.ref a, .ref tp] ∧ XAt H a C d ∧ ExcC K C ∧ SqT K H tp cs ∧ Paired ClsV cs us ∧ PySem.W.kitAny K (.ref C) us = some b ∧ Q (.bl b) H
theorem call_isX {X : Cx} : CallR X (.builtin "isinstance") (rIsX X.K) := by
  intro pins s σ H xs us Q I r h
  obtain ⟨a, C, d, c, cv, b, rfl, x, xc, hcv, e, q⟩ := h
  cases r with
  | cons rx rr =>
    cases rr with
    | cons rt rr =>
      cases rr
      cases rx
      have ec := hcv _ rt
      subst ec
      obtain ⟨oe, od, J, _⟩ := x.inst I
      exact PySem.W.kia_one (MiXv.kitx xc) I.kIn J e (fun z => nomatch z) fun tk => ⟨.bl b, H, I.kept (t' := tk) fun _ _ z => z, rfl, q⟩
theorem call_isXT {X : Cx} : CallR X (.builtin "isinstance") (rIsXT X.K) := by
  intro pins s σ H xs us Q I r h
  obtain ⟨a, C, d, tp, cs, ws, b, rfl, x, xc, hx, hp, e, q⟩ := h
  cases r with
  | cons rx rr =>
    cases rr with
    | cons rt rr =>
      cases rr
      cases rx
      cases rt
      obtain ⟨oe, od, J, _⟩ := x.inst I
      obtain ⟨its, r1, ⟨o, g1, g2, m, g3⟩, _⟩ := I.tuple hx
      have ew := ClsV.all hp r1
      subst ew
      obtain ⟨oc, od', oda, osl⟩ := o
      dsimp only at g2 g3
      subst g2 g3
      exact PySem.W.kia_tup (MiXv.kitx xc) I.kIn J g1 e (fun z => nomatch z) fun tk => ⟨.bl b, H, I.kept (t' := tk) fun _ _ z => z, rfl, q⟩
/-- err.f, err tracked -/
theorem pe_xfT {X : Cx} {e : Expr} {te : TE} {pos : Pos} {n : Str} (he : PE X e te) (hb : attributeBase e n X.env (eval e X.env) = eval e X.env := by rfl) :
    PE X (.Attribute e n pos) (fun σ H Q => te σ H fun x H1 => ∃ (a C b : Addr) (fs : List (Str × V)) (v : V), x = .ref a ∧ XAt H1 a C (some b) ∧ XfC X.K C ∧ PySem.W.findIn X.K (.ref C) n = some none ∧ H1 b = some (.xd fs) ∧ fs.lookup n = some v ∧ Q v H1) := by
  refine ⟨fun pins s σ H Q I h => ?_⟩
  refine attr_of hb (thn (he.run pins s σ H _ I h) fun u s1 hh => ?_)
  obtain ⟨x, H1, I1, rx, a, C, b, fs, v, ex, xa, T, hno, ea, l, q⟩ := hh
  subst ex
  obtain rfl : u = Value.ref a := rx
  obtain ⟨oe, od, J, hd⟩ := xa.inst I1
  obtain ⟨o, mA, eo, hns, hr, hl⟩ := hd b fs rfl ea
  subst eo
  obtain ⟨u, hu, ru⟩ := RelO.some_of (v := v) (o := mA n) (by rw [← l]; exact hr n)
  exact HandSPX.exc_get I1.kIn J T.ga T.gg T.exC (PySem.W.findObj_own T.hdC hno rfl (by rw [hl, hu])) (handed_of ru) ⟨v, H1, I1.tok _, ru, q⟩
def gIsX (tb : Str → Option Bool) (d : D) (h : Hq) : Rs D := match d with
  | .ref m => match h[m]? with
    | some (.exn c _) => match tb c with
      | some b => .ok (.bl b) h
      | none => .no
    | _ => .no
  | _ => .no
def eIsX (tb : Str → Option Bool) (f : Sx) : Sx := fun fr h => (f fr h).bind fun d h1 => gIsX tb d h1
def gXf (cs : List Str) (f : Str) (d : D) (h : Hq) : Rs D := match d with
  | .ref m => match h[m]? with
    | some (.exn c (some (g, w))) => if g = f ∧ cs.contains c = true then .ok w h else .no
    | _ => .no
  | _ => .no
def eXf (cs : List Str) (f : Str) (g : Sx) : Sx := fun fr h => (g fr h).bind fun d h1 => gXf cs f d h1
section
variable {X : Cx} {E : XK} {e c : Expr} {fe fc : Sx} {p pos : Pos} {b : Bool}
theorem xat_of {K : PySem.W.Frag} {ι : List Addr} {H : Hp} {a : Addr} {c : Str} {v : Option (Str × D)} (r : CR K ι H a (.exn c v)) : ∃ d, XAt H a (He.ga K c) d ∧ ∀ f w, v = some (f, w) → ∃ b u, d = some b ∧ H b = some (.xd [(f, u)]) ∧ VR K ι H u w := by
  obtain ⟨φ, d, h1, h2, h3⟩ := r
  cases v with
  | none =>
    have h3' : d = none := h3
    subst h3'
    exact ⟨none, ⟨⟨φ, h1, h2⟩, fun b z => by cases z⟩, fun f w z => by cases z⟩
  | some z =>
    obtain ⟨f, w⟩ := z
    obtain ⟨b, u, rfl, nb, hb, r⟩ := h3
    exact ⟨some b, ⟨⟨φ, h1, h2⟩, fun b' z => by cases z; exact ⟨_, hb⟩⟩, fun f' w' z => by cases z; exact ⟨b, u, rfl, hb, r⟩⟩
theorem m_isX {dc : D} {u : Value} {tb : Str → Option Bool} (hi : X.mg "isinstance" = none) (he0 : PM X E e fe) (hc0 : PM X E c (eK dc)) (hu : clsD dc = some u) (htb : ∀ y b, tb y = some b → ExcC X.K (He.ga X.K y) ∧ PySem.W.kitOne X.K (.ref (He.ga X.K y)) u = some b)
    (hg : Gl X "isinstance" := by rfl) (he : starEach [e, c] X.env = (false, eval e X.env) :: starEach [c] X.env := by rfl) (he2 : starEach [c] X.env = (false, eval c X.env) :: starEach [] X.env := by rfl) (hpl : (backTo pos (starEach [c] X.env)).any (·.1) = false := by rfl) :
    PM X E (.Call (.Name "isinstance" p) [e, c] [] pos) (eIsX tb fe) := by
  have hc1 := pe_callB (X := X) (p := p) (pos := pos) call_isX hg hi (by decide +kernel) (pa_cons he0 (pa_cons hc0 pa_nil he2) he) (he := he) (hpl := hpl)
  refine pe_imp hc1 fun σ H Q ⟨ι, h, fr, R, F, P⟩ => ?_
  unfold eIsX at P
  refine ⟨ι, h, fr, R, F, Po.mono ?_ (Po.bind P)⟩
  rintro v H1 ⟨ι1, h1, d, e1, R1, r1, P1⟩
  unfold gIsX at P1
  split at P1
  · rename_i m
    split at P1
    · rename_i _ y vv hm
      split at P1
      · rename_i _ b hb
        refine ⟨ι1, h1, fr, R1, F.ext e1, ?_⟩
        intro ι2 H2 v2 e2 R2 r2
        cases r1 with
        | ref hx =>
          rename_i a
          obtain ⟨a2, q1, q2⟩ := R2.addr hm
          rw [e2.get hx] at q1
          cases q1
          obtain ⟨d2, xa, _⟩ := xat_of q2
          obtain ⟨xc, hk⟩ := htb y b hb
          exact ⟨a, _, d2, v2, u, b, rfl, xa, xc, fun w rw' => (cls_rel r2 hu).eq rw', hk, P1 ι2 H2 _ e2 R2 (.bl b)⟩
      · exact P1.elim
    · exact P1.elim
  · exact P1.elim
theorem m_isXT {ds : List D} {us : List Value} {tb : Str → Option Bool} (hi : X.mg "isinstance" = none) (he0 : PM X E e fe) (hc0 : PM X E c fc) (hfc : ∀ fr h, fc fr h = .ok (.tup ds) h) (hu : opts clsD ds = some us) (htb : ∀ y b, tb y = some b → ExcC X.K (He.ga X.K y) ∧ PySem.W.kitAny X.K (.ref (He.ga X.K y)) us = some b)
    (hg : Gl X "isinstance" := by rfl) (he : starEach [e, c] X.env = (false, eval e X.env) :: starEach [c] X.env := by rfl) (he2 : starEach [c] X.env = (false, eval c X.env) :: starEach [] X.env := by rfl) (hpl : (backTo pos (starEach [c] X.env)).any (·.1) = false := by rfl) :
    PM X E (.Call (.Name "isinstance" p) [e, c] [] pos) (eIsX tb fe) := by
  have hc1 := pe_callB (X := X) (p := p) (pos := pos) call_isXT hg hi (by decide +kernel) (pa_cons he0 (pa_cons hc0 pa_nil he2) he) (he := he) (hpl := hpl)
  refine pe_imp hc1 fun σ H Q ⟨ι, h, fr, R, F, P⟩ => ?_
  unfold eIsX at P
  refine ⟨ι, h, fr, R, F, Po.mono ?_ (Po.bind P)⟩
  rintro v H1 ⟨ι1, h1, d, e1, R1, r1, P1⟩
  unfold gIsX at P1
  split at P1
  · rename_i m
    split at P1
    · rename_i _ y vv hm
      split at P1
      · rename_i _ b hb
        refine ⟨ι1, h1, fr, R1, F.ext e1, ?_⟩
        rw [hfc]
        intro ι2 H2 v2 e2 R2 r2
        cases r1 with
        | ref hx =>
          obtain ⟨a2, q1, q2⟩ := R2.addr hm
          rw [e2.get hx] at q1
          cases q1
          obtain ⟨d2, xa, _⟩ := xat_of q2
          obtain ⟨xc, hk⟩ := htb y b hb
          cases r2 with
          | tup hx2 q => exact ⟨_, _, d2, _, _, us, b, rfl, xa, xc, hx2.sq, cls_rels q hu, hk, P1 ι2 H2 _ e2 R2 (.bl b)⟩
      · exact P1.elim
    · exact P1.elim
  · exact P1.elim
theorem m_xf {cs : List Str} {f : Str} (he0 : PM X E e fe) (hT : ∀ y ∈ cs, XfC X.K (He.ga X.K y) ∧ PySem.W.findIn X.K (.ref (He.ga X.K y)) f = some none) (hb : attributeBase e f X.env (eval e X.env) = eval e X.env := by rfl) : PM X E (.Attribute e f pos) (eXf cs f fe) := by
  refine pe_imp (pe_xfT he0 hb) fun σ H Q ⟨ι, h, fr, R, F, P⟩ => ?_
  unfold eXf at P
  refine ⟨ι, h, fr, R, F, Po.mono ?_ (Po.bind P)⟩
  rintro v H1 ⟨ι1, h1, d, e1, R1, r1, P1⟩
  unfold gXf at P1
  split at P1
  · rename_i m
    split at P1
    · rename_i _ y g w hm
      split at P1
      · rename_i hgc
        obtain ⟨rfl, hc⟩ := hgc
        cases r1 with
        | ref hx =>
          obtain ⟨a2, q1, q2⟩ := R1.addr hm
          rw [hx] at q1
          cases q1
          obtain ⟨d2, xa, hv⟩ := xat_of q2
          obtain ⟨b, u, rfl, hb1, ru⟩ := hv g w rfl
          obtain ⟨t1, t2⟩ := hT y (by simpa using hc)
          exact ⟨_, _, b, _, u, rfl, xa, t1, t2, hb1, by simp, P1 ι1 H1 _ (Ext.refl _ _) R1 ru⟩
      · exact P1.elim
    · exact P1.elim
  · exact P1.elim
end
structure Hnd where
  cat : Str → Option Bool
  ix : Option Nat
  sm : Ss
def goH (fr : Fr) (x : Xn) (h1 : Hq) : List Hnd → SR
  | [] => .exc x h1
  | c :: r => match c.cat x.cls with
    | some true => match c.ix with
      | some i => (c.sm (fr.set i (some (.ref h1.length))) (h1 ++ [.exn x.cls x.val])).less i
      | none => c.sm fr h1
    | some false => goH fr x h1 r
    | none => .no
/-- whatever the body did to the slots: nothing is known of them in the suites -/
def sTryG (N : Nat) (hs : List Hnd) (b : Ss) : Ss := fun fr h => match b fr h with
  | .exc x h1 => goH (List.replicate N none) x h1 hs
  | r => r
end MI
end
section
set_option Elab.async false
set_option linter.all false
set_option autoImplicit false
set_option maxRecDepth 100000
set_option maxHeartbeats 4000000
namespace MI
open PySem L2
open PyProof.Rows (envOfC)
def turnsE (get : Nat → Hq → Option D) (fin : Nat → Hq → Bool) (t : Tg) (b u : Ss) : Nat → Nat → Ss
  | 0, i, fr, h => if fin i h = true then u fr h else .no
  | n + 1, i, fr, h => match get i h with
    | none => .no
    | some d => match t d fr with
      | none => .no
      | some fr1 => match b fr1 h with
        | .nx fr2 h2 => turnsE get fin t b u n (i + 1) fr2 h2
        | .ct fr2 h2 => turnsE get fin t b u n (i + 1) fr2 h2
        | .bk fr2 h2 => .nx fr2 h2
        | .rt d h2 => .rt d h2
        | .exc x h2 => .exc x h2
        | .no => .no
section
variable {X : Cx} {E : XK} {tg e : Expr} {body orelse : List Stmt} {b u : Ss} {t : Tg} {pos : Pos} {src : Si}
def sForE (t : Tg) (src : Si) (b u : Ss) : Ss := fun fr h => (src fr h).into fun S h1 => turnsE S.get S.fin t b u S.n 0 fr h1
end
def kSrcE (t : Tg) (b u : Ss) (fr : Fr) (Ψ : SR → Prop) : Rs Src → Prop := kI (fun S h1 => turnsE S.get S.fin t b u S.n 0 fr h1) Ψ
theorem z_ForE {src : Si} {t : Tg} {b u : Ss} {fr : Fr} {h : Hq} {Ψ : SR → Prop} : Z (sForE t src b u fr h) Ψ = W (src fr h) (kSrcE t b u fr Ψ) := z_into
theorem kSrcE_ok {t : Tg} {b u : Ss} {fr : Fr} {h : Hq} {S : Src} {Ψ : SR → Prop} : kSrcE t b u fr Ψ (.ok S h) = Z (turnsE S.get S.fin t b u S.n 0 fr h) Ψ := rfl
theorem kSrcE_exc {t : Tg} {b u : Ss} {fr : Fr} {h : Hq} {x : Xn} {Ψ : SR → Prop} : kSrcE t b u fr Ψ (.exc x h) = Ψ (.exc x h) := rfl
end MI
end
section
set_option Elab.async false
set_option linter.all false
set_option autoImplicit false
set_option maxRecDepth 100000
set_option exponentiation.threshold 20000
set_option maxHeartbeats 4000000
open PySem L2
namespace MI
end MI
end
section
set_option Elab.async false
set_option linter.all false
set_option autoImplicit false
set_option maxRecDepth 100000
set_option maxHeartbeats 4000000
namespace MI
open PySem PySem.Spec PyProof.Rows L2
/-- what a class is beside itself -/
def exPar (c : Str) : Str := if c = "WhereError" then "ValueError" else if c = "LackError" then "LookupError" else if c = "NoMoment" ∨ c = "NoNumber" ∨ c = "NoHouse" ∨ c = "NoKept" then "LackError" else "WhereError"
def exSub (c y : Str) : Bool := decide (c = y) || decide (exPar c = y) || decide (exPar (exPar c) = y)
def exVal (K : PySem.W.Frag) (y : Str) : Value := if y = "ValueError" then .type "ValueError" else if y = "LookupError" then .type "LookupError" else .ref (He.ga K y)
def excB (K : PySem.W.Frag) (C : Addr) : Bool :=
  decide (PySem.W.findIn K (.ref C) "__getattribute__" = some (some (.builtin "BaseException.__getattribute__"))) && (decide (PySem.W.findIn K (.ref C) "__getattr__" = some none) && (decide (PySem.W.subIn K (.ref C) (.type "BaseException") = some true) && (PySem.W.hasDictIn K C &&
    (decide (PySem.W.findIn K (.ref C) "__class__" = some (some (.builtin "object.__class__"))) && (decide (PySem.W.specialIn K (.builtin "object.__class__") "__get__" = some (some (.builtin "getset_descriptor.__get__"))) && (decide (PySem.W.takesIn K (.builtin "object.__class__") = some true) && decide (PySem.W.mroIn K C (.type "object") = some true)))))))
theorem excB_ok {K : PySem.W.Frag} {C : Addr} (h : excB K C = true) : ExcC K C := by
  unfold excB at h
  simp only [Bool.and_eq_true, decide_eq_true_eq] at h
  obtain ⟨h1, h2, h3, h4, h5, h6, h7, h8⟩ := h
  exact ⟨h1, h2, h3, h4, h5, h6, h7, h8⟩
/-- the classes cs, held against the classes ys -/
def XT (K : PySem.W.Frag) (cs ys : List Str) : Bool := cs.all fun c => excB K (He.ga K c) && ys.all fun y => decide (PySem.W.kitOne K (.ref (He.ga K c)) (exVal K y) = some (exSub c y)) && decide (PySem.W.exmOne K (.ref (He.ga K c)) (exVal K y) = some (exSub c y) ∨ y = "ValueError" ∨ y = "LookupError")
/-- whether a class of cs is one of the classes ys -/
def tbX (cs ys : List Str) : Str → Option Bool := fun c => if cs.contains c = true then some (ys.any (exSub c)) else none
section
variable {K : PySem.W.Frag} {cs ys zs : List Str}
theorem xt_one (h : XT K cs ys = true) {c y : Str} (hc : c ∈ cs) : ExcC K (He.ga K c) ∧ (y ∈ ys → PySem.W.kitOne K (.ref (He.ga K c)) (exVal K y) = some (exSub c y) ∧ (y ≠ "ValueError" → y ≠ "LookupError" → PySem.W.exmOne K (.ref (He.ga K c)) (exVal K y) = some (exSub c y))) := by
  have := List.all_eq_true.1 h c hc
  simp only [Bool.and_eq_true, List.all_eq_true, decide_eq_true_eq] at this
  refine ⟨excB_ok this.1, fun hy => ⟨(this.2 y hy).1, fun n1 n2 => ?_⟩⟩
  rcases (this.2 y hy).2 with e | e | e
  · exact e
  · exact absurd e n1
  · exact absurd e n2
theorem tbX_mem {c : Str} {b : Bool} (h : tbX cs zs c = some b) : c ∈ cs ∧ b = zs.any (exSub c) := by
  unfold tbX at h
  split at h
  · rename_i hc
    exact ⟨by simpa using hc, (Option.some.inj h).symm⟩
  · cases h
theorem kitAny_xt (h : XT K cs ys = true) {c : Str} (hc : c ∈ cs) : ∀ zs : List Str, (∀ z ∈ zs, z ∈ ys) → PySem.W.kitAny K (.ref (He.ga K c)) (zs.map (exVal K)) = some (zs.any (exSub c))
  | [], _ => rfl
  | z :: zs, hz => by
    have h1 := ((xt_one (y := z) h hc).2 (hz z (by simp))).1
    have ih := kitAny_xt h hc zs fun w hw => hz w (by simp [hw])
    show (match PySem.W.kitOne K (.ref (He.ga K c)) (exVal K z) with
      | some true => some true
      | some false => PySem.W.kitAny K (.ref (He.ga K c)) (zs.map (exVal K))
      | none => none) = _
    rw [h1, ih]
    cases hb : exSub c z <;> simp [List.any_cons, hb]
theorem tb_one (h : XT K cs ys = true) {z : Str} {u : Value} (hz : z ∈ ys) (hu : exVal K z = u) : ∀ c b, tbX cs [z] c = some b → ExcC K (He.ga K c) ∧ PySem.W.kitOne K (.ref (He.ga K c)) u = some b := fun c b q => by
  obtain ⟨hc, rfl⟩ := tbX_mem q
  obtain ⟨h1, h2⟩ := xt_one (y := z) h hc
  refine ⟨h1, ?_⟩
  rw [← hu, (h2 hz).1]
  simp
theorem tb_many (h : XT K cs ys = true) {us : List Value} (hz : ∀ z ∈ zs, z ∈ ys) (hu : zs.map (exVal K) = us) : ∀ c b, tbX cs zs c = some b → ExcC K (He.ga K c) ∧ PySem.W.kitAny K (.ref (He.ga K c)) us = some b := fun c b q => by
  obtain ⟨hc, rfl⟩ := tbX_mem q
  refine ⟨(xt_one (y := c) h hc).1, ?_⟩
  rw [← hu]
  exact kitAny_xt h hc zs hz
end
def idxG (m : Nat) (d : D) (h2 : Hq) : Rs D := match lstAt h2 m with
  | some l => match opts (toPy h2 60) l, toPy h2 60 d with
    | some ds, some q => if SeqAt.shaped q = true ∧ SeqAt.shaped (.list ds) = true then match remAt ds q with
      | some j => .ok (.int (j : Nat)) h2
      | none => .no
      else .no
    | _, _ => .no
  | none => .no
def idxF (fe : Sx) (fr : Fr) (o : D) (h1 : Hq) : Rs D := match o with
  | .ref m => match lstAt h1 m with
    | some _ => (fe fr h1).bind fun d h2 => idxG m d h2
    | none => .no
  | _ => .no
def eIdx (fo fe : Sx) : Sx := fun fr h => (fo fr h).bind (idxF fe fr)
section
variable {h : Hq} {Φ : Rs D → Prop} {fr : Fr} {Ψ : SR → Prop} {m : Nat} {a b : Sx}
theorem w_IsX {tb : Str → Option Bool} : W (eIsX tb a fr h) Φ = W (a fr h) (kB (gIsX tb) Φ) := w_bind
theorem w_isX {tb : Str → Option Bool} {c : Str} {v : Option (Str × D)} {k : Bool} (e : h[m]? = some (.exn c v)) (t : tb c = some k) : W (gIsX tb (.ref m) h) Φ = Φ (.ok (.bl k) h) := by
  unfold W gIsX
  simp only [e, t]
theorem w_Xf {cs : List Str} {f : Str} : W (eXf cs f a fr h) Φ = W (a fr h) (kB (gXf cs f) Φ) := w_bind
theorem w_xf {cs : List Str} {f c : Str} {d : D} (e : h[m]? = some (.exn c (some (f, d)))) (t : cs.contains c = true) : W (gXf cs f (.ref m) h) Φ = Φ (.ok d h) := by
  unfold W gXf
  simp only [e]
  rw [if_pos ⟨trivial, t⟩]
theorem w_Idx : W (eIdx a b fr h) Φ = W (a fr h) (kB (idxF b fr) Φ) := w_bind
def kTryG (N : Nat) (hs : List Hnd) (Ψ : SR → Prop) : SR → Prop
  | .exc x h => Z (goH (List.replicate N none) x h hs) Ψ
  | r => Ψ r
theorem z_TryG {N : Nat} {hs : List Hnd} {b : Ss} : Z (sTryG N hs b fr h) Ψ = Z (b fr h) (kTryG N hs Ψ) := by
  unfold Z sTryG
  cases b fr h <;> rfl
theorem kTryG_nx {N : Nat} {hs : List Hnd} : kTryG N hs Ψ (.nx fr h) = Ψ (.nx fr h) := rfl
theorem kTryG_rt {N : Nat} {hs : List Hnd} {d : D} : kTryG N hs Ψ (.rt d h) = Ψ (.rt d h) := rfl
theorem kTryG_exc {N : Nat} {hs : List Hnd} {x : Xn} : kTryG N hs Ψ (.exc x h) = Z (goH (List.replicate N none) x h hs) Ψ := rfl
/-- the name of a clause goes behind its suite -/
def kLess (i : Nat) (Ψ : SR → Prop) (r : SR) : Prop := Ψ (r.less i)
theorem kLess_nx {i : Nat} : kLess i Ψ (.nx fr h) = Ψ (.nx (fr.set i none) h) := rfl
theorem kLess_rt {i : Nat} {d : D} : kLess i Ψ (.rt d h) = Ψ (.rt d h) := rfl
theorem z_goNil {x : Xn} : Z (goH fr x h []) Ψ = Ψ (.exc x h) := rfl
end
end MI
end
local macro_rules
  | `(tactic| simp?! [$ts,*]) => `(tactic| simp only [↓MI.w_ok, ↓MI.kB_ok, ↓MI.kI_ok, ↓MI.w_K, ↓MI.w_V, ↓MI.w_vR, ↓MI.w_Op, ↓MI.kO1_ok, ↓MI.kO2_ok, ↓MI.w_Un, ↓MI.w_bOf, ↓MI.w_isB, ↓MI.kBl_ok, ↓MI.kBl_exc, ↓MI.kIf_ok, ↓MI.kIf_exc, ↓MI.w_okB, ↓MI.w_okD, ↓MI.w_bAnd, ↓MI.w_bOr, ↓MI.w_bNot, ↓MI.kNot_ok, ↓MI.kNot_exc, ↓MI.w_eAnd, ↓MI.w_eOr, ↓MI.w_eNot, ↓MI.kNotV_ok, ↓MI.w_eIf, ↓MI.w_aNil, ↓MI.w_aCons, ↓MI.kA1_ok, ↓MI.kA2_ok, ↓MI.kA1_exc, ↓MI.kA2_exc, ↓MI.w_Tup, ↓MI.w_Lst, ↓MI.w_mkT, ↓MI.w_mkL, ↓MI.w_Dct, ↓MI.w_Dct2, ↓MI.w_SoSe, ↓MI.w_Call, ↓MI.w_goS, ↓MI.w_Bi, ↓MI.w_Isi, ↓MI.w_Cut, ↓MI.kC1_ok, ↓MI.kC2_ok, ↓MI.kC3_ok, ↓MI.w_oNone, ↓MI.w_oSome, ↓MI.w_vO, ↓MI.w_Chain, ↓MI.kCh1_ok, ↓MI.kCh2_ok, ↓MI.kCh3_ok, ↓MI.w_chA, ↓MI.w_App, ↓MI.w_Ins, ↓MI.w_insG, ↓MI.z_nx, ↓MI.z_End, ↓MI.z_Seq, ↓MI.kT_nx, ↓MI.kT_rt, ↓MI.kT_bk, ↓MI.kT_ct, ↓MI.kT_exc, ↓MI.z_If, ↓MI.kIfS_ok, ↓MI.kIfS_exc, ↓MI.z_Ret, ↓MI.kRet_ok, ↓MI.kRet_exc, ↓MI.z_Expr, ↓MI.kNx_ok, ↓MI.kNx_exc, ↓MI.z_Asg, ↓MI.kAs_ok, ↓MI.kAs_exc, ↓MI.z_tgO, MI.t_N, MI.t_T, MI.t_nil, MI.t_cons, MI.t_G, MI.t_gnil, MI.t_gcons, MI.t_bind, ↓MI.z_Par, ↓MI.kPar_ok, ↓MI.z_Raise, ↓MI.z_Break, ↓MI.z_Cont, ↓MI.z_For, ↓MI.kSrc_ok, ↓MI.w_Range, ↓MI.w_rgF, ↓MI.w_SeqI, ↓MI.w_sqT, ↓MI.w_Zip, ↓MI.w_zpT, ↓MI.w_Comp, ↓MI.kCo_ok, ↓MI.w_of, ↓MI.kF_rt, ↓MI.kF_nx, ↓MI.kF_exc, ↓MI.w_add, ↓MI.w_sub, ↓MI.w_pow10, ↓MI.w_neg, ↓MI.w_lt, ↓MI.w_le, ↓MI.w_gt, ↓MI.w_ge, ↓MI.w_ix0, ↓MI.w_ix1, ↓MI.w_ix2, ↓MI.w_ix3, ↓MI.w_eqI, ↓MI.w_eqS, ↓MI.w_eqT2, ↓MI.w_abs, ↓MI.w_lenT, ↓MI.w_lenS, ↓MI.w_max, ↓MI.w_min, ↓MI.w_intT, ↓MI.w_intF, ↓MI.w_isBool, ↓MI.w_isTup, ↓MI.w_tupT, ↓MI.w_listT, ↓MI.w_cutT, ↓MI.brw_t, ↓MI.brw_f, ↓MI.brz_t, ↓MI.brz_f, List.getElem?_cons_zero, List.getElem?_cons_succ, List.set_cons_zero, List.set_cons_succ, List.length_cons, List.length_nil, List.map_cons, List.map_nil, List.replicate, List.cons_append, List.nil_append, MI.small, Nat.reduceAdd, Nat.reduceLeDiff, Nat.reduceEqDiff, Int.cast_ofNat_Int, Int.reduceBEq, BEq.rfl, ↓MI.w_Yes, ↓MI.w_bTru, ↓MI.augF_ok, ↓MI.z_Put, ↓MI.putF_ok, ↓MI.putG_ok, ↓MI.w_isNn, ↓MI.w_isNt, MI.wipeF_nil, MI.wipeF_cons, Int.reduceLE, Int.reduceLT, Int.reduceToNat, Int.reducePow, Int.reduceNeg, Int.reduceSub, Int.reduceAdd, Int.reduceMul, decide_true, decide_false, Bool.not_true, Bool.not_false, Bool.bne_false, Bool.bne_true, ↓MI.w_aStar, ↓MI.w_stT, ↓MI.kSt_ok, ↓MI.w_aDef, ↓MI.kDf_ok, ↓MI.w_Cnt, ↓MI.w_Ext, ↓MI.w_isBB, ↓MI.w_isIB, ↓MI.w_Enum, ↓MI.w_enT, ↓MI.w_IsX, ↓MI.w_Xf, ↓MI.z_TryG, ↓MI.kTryG_nx, ↓MI.kTryG_rt, ↓MI.kTryG_exc, ↓MI.kLess_nx, ↓MI.kLess_rt, ↓MI.w_Idx, ↓MI.z_goNil, ↓MI.z_ForE, ↓MI.kSrcE_ok, ↓MI.kSrcE_exc, ↓MI.eqBl_w, $ts,*])
section
set_option Elab.async false
set_option linter.all false
set_option autoImplicit false
set_option maxRecDepth 100000
set_option maxHeartbeats 4000000
namespace MI
open PySem PySem.Spec PyProof.Rows L2
def showsL (p : PyData) : Bool := match p with
  | .list (q :: ps) => (PyData.list (q :: ps)).showable && okTs (q :: ps) && decide ((PyData.list (q :: ps)).depth ≤ 60) && small (PyData.list (q :: ps)).shown.length
  | _ => false
def gReprL (ds : List D) (h : Hq) : Rs D := match ds with
  | [.ref m] => match toPyR h 60 (.ref m) with
    | some p => if showsL p = true then .ok (.str p.shown) h else .no
    | none => .no
  | _ => .no
def rReprL (X : Cx) : List V → Hp → VK → Prop := fun xs H Q => ∃ ι h m p v, xs = [v] ∧ HR X.K ι h H ∧ VR X.K ι H v (.ref m) ∧ toPyR h 60 (.ref m) = some p ∧ showsL p = true ∧ Q (.str p.shown) H
theorem call_reprL {X : Cx} (hg : X.A.guards = some []) (hu : X.A.units + 64 < cLine) : CallR X (.builtin "repr") (rReprL X) := by
  intro pins s σ H xs us Q I r h
  obtain ⟨ι, h, m, p, v, rfl, R, rd, e, sh, q⟩ := h
  cases r with
  | cons rv rr =>
    cases rr
    unfold showsL at sh
    split at sh
    · rename_i p0 ps
      have sh' : (((PyData.showableAll (p0 :: ps) = true ∧ okTs (p0 :: ps) = true) ∧ (PyData.list (p0 :: ps)).depth ≤ 60) ∧ (PyData.list (p0 :: ps)).shown.length ≤ 16777216) := by
        simpa [small, PyData.showable, Bool.and_eq_true, -List.all_eq_true] using sh
      obtain ⟨⟨⟨s1, s2⟩, s3⟩, s4⟩ := sh'
      have s3' : PyData.depthAll (p0 :: ps) + 1 ≤ 60 := s3
      have sz : (listText (PyData.shownAll (p0 :: ps))).length ≤ sizeLine := by rw [line_eq]; exact s4
      cases rd with
      | ref hx =>
        rename_i a
        cases rv
        have e' : (match h[m]? with
          | some (.lst l) => (opts (toPyR h 59) l).map PyData.list
          | some (.dct l) => (opts (toPyR h 59) (l.map (·.2))).map fun ps => .dict ((l.map fun p => keyP p.1).zip ps)
          | _ => none) = some (.list (p0 :: ps)) := e
        split at e'
        · rename_i l hl
          obtain ⟨ps', h1, h2⟩ := Option.map_eq_some_iff.mp e'
          cases h2
          obtain ⟨vs, c1, qd⟩ := R.lst hx (show lstAt h m = some l by unfold lstAt; rw [hl])
          obtain ⟨its, r1, ⟨o, n, g1, g2, gd, g3⟩, _⟩ := I.list (.of c1)
          have ea := rdSs_of (fun d p v u e1 r1 v1 z => rdS_of I R 59 d p v u e1 r1 v1 z) h1 qd r1 s2
          obtain ⟨bs, hb, hk⟩ := RdSs.repr (P := X.prog) (w := X.w) ea s1 fun t ht => Nat.le_trans (listText_mem_le ht) sz
          obtain ⟨as, ra⟩ := ea.reads
          have hna : a ∉ bs := not_mem_of_deeper (.list g1 g2 g3 (by simpa using ra)) (by simp only [PyData.depth]; omega) hb
          refine call_repr_slot (by omega) ⟨o, g1, g2⟩ F.slot_list_repr.toG ?_
          cases its with
          | nil =>
            have := ea
            cases this
          | cons x its =>
            exact call_list_reprK (h₀ := s.heap) g1 g2 g3 hna (by simpa using hk.length_eq) (fun i y e => hk.item i y (by simpa using e)) hg (fun b _ => Clear.nil b) (by show X.A.units + 1 + (PyData.depthAll (p0 :: ps) + 1) < cLine; omega) (fun _ _ z => z) (fun h' t tk hk' => ⟨_, _, rfl, V.str (PyData.list (p0 :: ps)).shown, H, I.kept hk', ⟨t, rfl⟩, q⟩) sz
        · obtain ⟨_, _, z⟩ := Option.map_eq_some_iff.mp e'; cases z
        · cases e'
    · cases sh
theorem s_reprL {X : Cx} {E : XK} : CaS X.K X.mg E gReprL (rReprL X) := by
  intro ι h H ds vs Q R r P
  unfold gReprL at P
  split at P
  · split at P
    · rename_i m _ p e
      split at P
      · rename_i hs
        obtain ⟨v, rfl, q⟩ := r.one
        exact ⟨ι, h, m, p, v, rfl, R, q, e, hs, P ι H _ (Ext.refl _ _) R (.str _)⟩
      · exact P.elim
    · exact P.elim
  · exact P.elim
theorem m_reprL {X : Cx} {E : XK} {a : Expr} {as : List Expr} {fs : Sa} {p pos : Pos} (wh : Wh X E) (hu : X.A.units + 64 < cLine) (hm : X.mg "repr" = none) (ha : PMa X E (a :: as) fs) (hg : Gl X "repr" := by rfl) (he : starEach (a :: as) X.env = (false, eval a X.env) :: starEach as X.env := by rfl) (hpl : (backTo pos (starEach as X.env)).any (·.1) = false := by rfl) :
    PM X E (.Call (.Name "repr" p) (a :: as) [] pos) (eBi gReprL fs) := m_bi (call_reprL wh.gd hu) s_reprL hm PyProof.Rows.bootS_repr ha hg (he := he) (hpl := hpl)
end MI
end
section
set_option Elab.async false
set_option linter.all false
set_option autoImplicit false
set_option maxRecDepth 100000
set_option maxHeartbeats 4000000
namespace MI
open PySem L2
end MI
end
section
set_option Elab.async false
set_option linter.all false
set_option autoImplicit false
set_option maxRecDepth 100000
set_option maxHeartbeats 4000000
namespace MI
open PySem L2
open PyProof.Rows (envOfC)
/-- as FnG, the surroundings bear a handled exception; nothing is let out -/
structure FnGH (P : Program) (w : World) (K : PySem.W.Frag) (mg : Str → Option Value) (base : Heap) (k : Nat) (f : Addr) (fd : FuncData) (ps : List Str) (sem : Sf) : Prop where
  go : ∀ (B : Around) (a : Addr) (outer : List Env) (s : Shared) (H : Hp) (args : Args) (us : List Value) (vs : List V) (ds : List D) (ι : List Addr) (h : Hq) (Q : VK),
    Room k B → B.guards = some [] → Env0 P w K mg base B outer s H → BindsTo s fd args (ps.zip us) → Vals vs us → HR K ι h H → VRs K ι H vs ds → ds.length = ps.length →
    PoV K mg ι H Q E00 (sem ds h) → codeAny (model P w) (B.mark (some (.ref a))) (.call (.ref f) args) (fun r s' => match r with
      | .ok (.ret u) => CE outer P w H s Q u s'
      | _ => False) s
theorem FnGH.mono {P : Program} {w : World} {K : PySem.W.Frag} {mg : Str → Option Value} {base : Heap} {j k : Nat} {f : Addr} {fd : FuncData} {ps : List Str} {sem : Sf} (F : FnGH P w K mg base j f fd ps sem) (hjk : j ≤ k) : FnGH P w K mg base k f fd ps sem :=
  ⟨fun B a outer s H args us vs ds ι h Q hr => F.go B a outer s H args us vs ds ι h Q (hr.mono hjk)⟩
end MI
end
section
set_option Elab.async false
set_option linter.all false
set_option autoImplicit false
set_option maxRecDepth 100000
set_option maxHeartbeats 4000000
namespace MI
open PySem PySem.Spec PyProof.Rows L2
open Builtin.ObjectAttr
structure ExB (B newId initId : String) (bmB : List Value) : Prop where
  fb : ExcBaseFacts B newId initId bmB
  st : StoreFacts B bmB "object.__setattr__" "object"
theorem exb_ve : ExB "ValueError" "ValueError.__new__" "ValueError.__init__" He.veBase := ⟨PySem.F.excBase_ValueError, PySem.F.store_ValueError⟩
def lkBase : List Value := [.type "LookupError", .type "Exception", .type "BaseException", .type "object"]
theorem exb_lk : ExB "LookupError" "LookupError.__new__" "LookupError.__init__" lkBase := ⟨PySem.F.excBase_LookupError, PySem.F.store_LookupError⟩
/-- what the written part says of such a class -/
structure OxC (K : PySem.W.Frag) (C : Addr) (i : String) (f : Str) : Prop where
  ex : ∃ B newId bmB, ExB B newId i bmB ∧ PySem.W.excInitIn K C bmB newId = true ∧ PySem.W.excOver K C bmB = true
  hd : PySem.W.hasDictIn K C = true
  sa : PySem.W.findIn K (.ref C) "__setattr__" = some (some (.builtin "object.__setattr__"))
  no : PySem.W.findIn K (.ref C) f = some none
  exC : PySem.W.subIn K (.ref C) (.type "BaseException") = some true
  tyC : PySem.W.typeIn K (.ref C) = some (.type "type")
  kC : PySem.W.keepIn K (.ref C) = true
section
variable {X : Cx} {pins : List (Addr × Obj)} {σ : L2.St} {H : Hp} {s : Shared} {a C : Addr} {i : String} {f : Str} {y : V} {u : Value} {Q : Unit → Shared → Prop} {E : Value → Shared → Prop} {A : Around}
theorem ox_new (T : OxC X.K C i f) (I : Inv X pins σ H s) (e : H a = some (exo a C none)) (ry : RelV y u)
    (h : ∀ dx s', H dx = none → dx ≠ a → Inv X pins σ (upd (upd H dx (exd dx [(f, y)])) a (exo a C (some dx))) s' → Q () s') : wpAny (model X.prog X.w) A (setAttr (.ref a) f u) Q E s := by
  obtain ⟨B, newId, bmB, eb, q1, q2⟩ := T.ex
  obtain ⟨cd, hcd, hdd⟩ := PySem.W.any_some T.hd
  obtain ⟨t1, ho⟩ := exo_at I.hok e
  obtain ⟨hp, g, d, t, os⟩ := s
  have J0 : PySem.W.InstAt hp a { cls := .ref C, dict := none, data := .fields #[.ref t1, .none, .none, .none, .bool false, .none] } C none := ⟨ho, rfl, rfl, trivial⟩
  have ht : PySem.W.takerIn X.K C f = some none := by unfold PySem.W.takerIn; rw [T.no]; rfl
  refine PySem.W.set_plain I.kIn J0 T.sa ?_
  have hax : a ≠ hp.objs.size := Nat.ne_of_lt (Heap.lt_size ho)
  have fin : ∀ (h' : Heap) (tk' : Nat) (dx : Addr), (∀ b o, b ≠ a → hp.get? b = some o → h'.get? b = some o) → hp.objs.size ≤ dx → dx ≠ a →
      h'.get? a = some { cls := .ref C, dict := some dx, data := .fields #[.ref t1, .none, .none, .none, .bool false, .none] } → h'.Ns1 dx (fun z => if z = f then some u else none) → Q () ⟨h', g, d, tk', os⟩ := by
    intro h' tk' dx k dn dne hx hn
    have hnd : H dx = none := I.hok.fresh dn
    have nd : ∀ {b : Addr} {o : Obj}, hp.get? b = some o → b ≠ dx := fun {b o} q => Nat.ne_of_lt (Nat.lt_of_lt_of_le (Heap.lt_size q) dn)
    have na : ∀ {b : Addr}, H b = none → b ≠ a := fun {b} n z => by
      rw [z, e] at n
      cases n
    have U : Un X.fs [] H (upd (upd H dx (exd dx [(f, y)])) a (exo a C (some dx))) hp h' := by
      constructor
      · exact fun b o q n _ _ => k b o (na n) q
      · exact fun b o q n _ _ => ⟨o.slots, k b o (na n) q⟩
      · intro b o q n _
        rw [upd_ne (na n), upd_ne (nd q)]; exact n
      · intro b o q _
        by_cases hb : b = a
        · exact ⟨_, by rw [hb]; exact hx⟩
        · exact ⟨o, k b o hb q⟩
      · intro b xs q
        rw [upd_ne (at_ne e q exo_tup), upd_ne (ne_of_none q hnd)]; exact q
      · intro b o v q
        rw [upd_ne (at_ne e q exo_frz), upd_ne (ne_of_none q hnd)]; exact q
      · intro b ps q
        exact ⟨#[], by rw [upd_ne (at_ne e q exo_tbl), upd_ne (ne_of_none q hnd), q]; simp⟩
    refine h dx _ hnd dne (I.un (t' := tk') U fun b o q => ?_)
    by_cases hb : b = a
    · subst hb
      rw [upd_same] at q
      cases q
      exact exo_ok hx
    · rw [upd_ne hb] at q
      by_cases hd : b = dx
      · subst hd
        rw [upd_same] at q
        cases q
        exact exd_ok hn (relO_put (fs := []) ry fun g => True.intro)
      · rw [upd_ne hd] at q
        have n1 : ∀ c, H c = some (.own b) → c ≠ a := fun c hc => at_ne e hc exo_own
        refine (I.hok b o q).stay (fun c v hc z => k c v ?_ z) (fun c hc => ?_) (fun c xs hc => ?_)
        · rcases hc with hc | hc
          · rw [hc]; exact hb
          · exact n1 c hc
        · rw [upd_ne (n1 c hc), upd_ne (ne_of_none hc hnd)]; exact hc
        · rw [upd_ne (at_ne e hc exo_tup), upd_ne (ne_of_none hc hnd)]; exact hc
  refine PySem.W.osa_openX eb.st I.kIn J0 q2 ht fun b => ?_
  have hcls : PySem.W.Looks (model X.prog X.w) hp (classData C) cd := PySem.W.looks_clsIn I.kIn hcd
  show wpAny _ _ (storeInOwnDict (.ref a) (.ref C) (.str f t) f u b) _ _ _
  obtain ⟨nm, bs, mro, ns, qn, hd, sn, sb, ab, col, del⟩ := cd
  dsimp only at hdd
  subst hdd
  unfold storeInOwnDict ownDictForStores
  repeat (first
    | with_reducible refine HandSPX.store_in_new ?_ ?_
    | with_reducible refine wpAny_loadPart_at ho ?_
    | with_reducible refine hcls.at ?_
    | wp_step)
  · exact ⟨_, #[], _, (Heap.get?_update_ne _ _ _ _ hax.symm).trans (Heap.get?_push_at rfl rfl), rfl, fun z hz => absurd hz (by simp), fun _ => rfl⟩
  · intro h' tk' hn' hs
    have hx1 : (hp.push { cls := .type "dict", data := .dict #[] }).get? a = some { cls := .ref C, dict := none, data := .fields #[.ref t1, .none, .none, .none, .bool false, .none] } := Heap.get?_push_of_some _ ho
    refine fin h' tk' hp.objs.size (fun b o hb ho' => ?_) (Nat.le_refl _) hax.symm ?_ hn'
    · refine (hs.2 b (Nat.ne_of_lt (Heap.lt_size ho'))).trans ?_
      exact (Heap.get?_update_ne _ _ _ _ hb).trans (Heap.get?_push_of_some _ ho')
    · refine (hs.2 a hax).trans ?_
      exact Heap.get?_update_self _ hx1 rfl
theorem ox_init0 {us : List Value} {Q : Value → Shared → Prop} (T : OxC X.K C i f) (I : Inv X pins σ H s) (e : H a = some (exo a C none)) (hl : us.length ≤ sizeLine) (h : ∀ s', Inv X pins σ H s' → Q .none s') :
    wpAny (model X.prog X.w) A (call (.builtin i) (.ref a :: us)) Q E s := by
  obtain ⟨B, newId, bmB, eb, q1, q2⟩ := T.ex
  obtain ⟨nm, N, qn, bs, bm, hdct, sn, sub, ab, col, dd, k0, k1, k2, k3, k5, hC, hT⟩ := PySem.W.excInit_of I.kIn q1
  obtain ⟨t1, ho⟩ := exo_at I.hok e
  obtain ⟨hp, g, d, t, os⟩ := s
  refine wpAny_call (PySem.HandSPX.init_base eb.fb hT hC ho hl fun h' t2 k hx => ?_)
  have J := I.write (t' := t) (x := a) (e := a) (o := exo a C none) (by rw [e]; exact True.intro) (.inl rfl) k ⟨_, hx⟩ (exo_ok hx)
  have eu : upd H a (exo a C none) = H := by
    funext b
    by_cases hb : b = a
    · rw [hb, upd_same, e]
    · rw [upd_ne hb]
  rw [eu] at J
  exact h _ J
end
/-- Base.__init__ of the own class at L is the built-in i -/
structure IniC (K : PySem.W.Frag) (L : Addr) (i : String) : Prop where
  ga : PySem.W.specialIn K (.ref L) "__getattribute__" = some (some (.builtin "type.__getattribute__"))
  rd : PySem.W.readsIn K L (.type "type") = true
  at_ : PySem.W.findCls K (.ref L) (.type "type") "__init__" = some (.val (.builtin i))
  hi : PySem.W.handedIn (.builtin i) = true
def tIni (K : PySem.W.Frag) (i : String) (f : Str) (ta : TA) : TE := fun σ H Q => ta σ H fun vs H1 => ∃ (a C : Addr) (ws : List V), vs = .ref a :: ws ∧ ws.length ≤ 1000 ∧ OxC K C i f ∧ H1 a = some (exo a C none) ∧ Q .non H1
def tOx (K : PySem.W.Frag) (i : String) (f : Str) (to te : TE) : TS := fun D σ H => te σ H fun y H1 => to σ H1 fun x H2 => ∃ a C : Addr, x = .ref a ∧ OxC K C i f ∧ H2 a = some (exo a C none) ∧ ∀ dx, H2 dx = none → dx ≠ a → D.nx σ (upd (upd H2 dx (exd dx [(f, y)])) a (exo a C (some dx)))
section
variable {X : Cx} {o e : Expr} {es : List Expr} {to te : TE} {ta : TA} {i : String} {f b : Str} {p p' p1 p2 pos : Pos} {L : Addr}
theorem pe_ini {pl : Sem Bool} (T : IniC X.K L i) (hm : X.mg b = some (.ref L)) (ha : PA X (e :: es) ta) (hg : Gl X b := by rfl) (hdb : (b == ("__debug__" : Str)) = false := by decide)
    (hc : eval (.Call (.Attribute (.Name b p1) "__init__" p2) (e :: es) [] pos) X.env = (do
      let ov ← eval (.Name b p1) X.env
      standAt p2.atName
      let (f, first) ← holding [ov] (getMethod ov "__init__" pl)
      callWith pos f first (backTo pos (starEach (e :: es) X.env)) (backToKw pos (keywordEach [] X.env))) := by rfl)
    (he : starEach (e :: es) X.env = (false, eval e X.env) :: starEach es X.env := by rfl) (hpl : (backTo pos (starEach es X.env)).any (·.1) = false := by rfl) :
    PE X (.Call (.Attribute (.Name b p1) "__init__" p2) (e :: es) [] pos) (tIni X.K i f ta) := by
  refine ⟨fun pins s σ H Q I h => ?_⟩
  refine PySem.W.methodCall_KW (ld_glob I hg hm ?_ hdb) hc
  refine PySem.W.method_cls I.kIn T.ga (PySem.W.cls_value I.kIn T.rd T.at_ T.hi ?_)
  show wpAny _ _ (callWith pos (Value.builtin i) [] (backTo pos (starEach (e :: es) X.env)) []) _ _ _
  refine PyProof.Rows.callWith_method1 (thn (ha.run pos pins _ σ H _ (I.tok _) h) fun us s1 hh => ?_) he hpl
  obtain ⟨vs, H1, I1, r1, a, C, ws, ev, hl, TC, ea, q⟩ := hh
  subst ev
  cases r1 with
  | @cons _ u0 _ ur ra rw' =>
    obtain rfl : u0 = Value.ref a := ra
    have hlen : ur.length ≤ sizeLine := by
      rw [← Paired.length rw', sizeLine_eq]
      omega
    exact ox_init0 TC I1 ea hlen fun s' J => ⟨.non, H1, J, rfl, q⟩
theorem ps_ox (ho : PE X o to) (he : PE X e te) (hs : swapsWith e (some (.Attribute o f p')) pos.line X.env = pure false := by rfl) : PS X (.Assign [.Attribute o f p'] e pos) (tOx X.K i f to te) := by
  refine ⟨fun pins s σ H D I h => ?_⟩
  refine plainObj_wpAny_Assign_Attribute (thn (he.run pins s σ H _ I h) fun v s1 hh => ?_) hs
  obtain ⟨y, H1, I1, r1, q1⟩ := hh
  refine thn (ho.run pins s1 σ H1 _ I1 q1) fun u s2 hh => ?_
  obtain ⟨x, H2, I2, r2, a, C, ex, T, ea, q⟩ := hh
  subst ex
  obtain rfl : u = Value.ref a := r2
  exact ox_new T I2 ea r1 fun dx s' n ne J => ⟨σ, _, J, q dx n ne⟩
end
def spOx (K : PySem.W.Frag) (i : String) (f : Str) : Sp := fun vs H Q _ => ∃ (a C : Addr) (y : V), vs = [.ref a, y] ∧ OxC K C i f ∧ H a = some (exo a C none) ∧ ∀ dx, H dx = none → dx ≠ a → Q .non (upd (upd H dx (exd dx [(f, y)])) a (exo a C (some dx)))
/-- an __init__ that hands a text to its base's and keeps its argument -/
theorem fn_ox {P : Program} {w : World} {K : PySem.W.Frag} {mg : Str → Option Value} {base : Heap} {CX : CXT} {qual b p f m : Str} {params : Arguments} {scope : Scope} {L fI : Addr} {fd : FuncData} {i : String} {j1 : Nat} {p1 p2 p3 p4 p5 p6 p7 p8 p9 p10 : Pos}
    (F : FunD K "__init__" qual params [.Expr (.Call (.Attribute (.Name b p1) "__init__" p2) [.Name "self" p3, .Constant (.str m) j1 p4] [] p5) p6, .Assign [.Attribute (.Name "self" p7) f p8] (.Name p p9) p10] scope [] [] fI fd)
    (S : FnScope ["self", p] ["self", p] scope) (T : IniC K L i) (hm : mg b = some (.ref L)) (g1 : scope.names.lookup b = some .globalImplicit) (v1 : scope.names.lookup ("self" : Str) = some .local) (v2 : scope.names.lookup p = some .local)
    (hdb : (b == ("__debug__" : Str)) = false) (hdp : (p == ("__debug__" : Str)) = false) (hcp : (p == ("__classdict__" : Str)) = false) {pl : Env → Sem Bool}
    (hc : ∀ env : Env, eval (.Call (.Attribute (.Name b p1) "__init__" p2) [.Name "self" p3, .Constant (.str m) j1 p4] [] p5) env = (do
      let ov ← eval (.Name b p1) env
      standAt p2.atName
      let (f, first) ← holding [ov] (getMethod ov "__init__" (pl env))
      callWith p5 f first (backTo p5 (starEach [.Name "self" p3, .Constant (.str m) j1 p4] env)) (backToKw p5 (keywordEach [] env)))) : FnOk P w K mg base CX 1 fI fd ["self", p] (spOx K i f) := by
  refine F.ok S (fun vs H Q E h => by obtain ⟨a, C, y, rfl, _⟩ := h; rfl) fun cdv A outer s H vs Q E hr hsp => ?_
  obtain ⟨a, C, y, rfl, TC, ea, q⟩ := hsp
  refine ⟨_, pss_cons (ps_expr (pe_ini (i := i) (f := f) (L := L) (pl := pl _) T hm (pa_cons (pe_var (i := 0) rfl (.inl v1)) (pa_cons pe_str pa_nil)) g1 hdb (hc _)) (by rfl)) (pss_cons (ps_ox (i := i) (pe_var (i := 0) rfl (.inl v1)) (pe_var (i := 1) rfl (.inl v2) hdp hcp)) pss_nil), ?_⟩
  exact ⟨V.ref a, rfl, a, C, [.str m], rfl, Nat.le_of_ble_eq_true rfl, TC, ea, y, rfl, V.ref a, rfl, a, C, rfl, TC, ea, fun dx n ne => q dx n ne⟩
/-- a new thing that is no cell -/
theorem HR.aside {K : PySem.W.Frag} {ι : List Addr} {h : Hq} {H : Hp} (r : HR K ι h H) {p : Addr} (np : H p = none) (o : HO) : Ext ι H ι (upd H p o) ∧ HR K ι h (upd H p o) := by
  have ne : ∀ a o', H a = some o' → a ≠ p := fun a o' q => ne_of_none q np
  have e : Ext ι H ι (upd H p o) := ⟨⟨[], by simp, fun a z => (nomatch z)⟩, fun a xs q => by rw [upd_ne (ne a _ q)]; exact q, fun a o' u q => by rw [upd_ne (ne a _ q)]; exact q,
    fun a o' q _ => by rw [upd_ne (ne a _ q)]; exact q, fun a q => by
      by_cases hp : a = p
      · subst hp; exact absurd np q
      · rw [upd_ne hp]; exact q⟩
  refine ⟨e, r.len, r.nd, fun n c a h1 h2 => (r.cells n c a h1 h2).ext e ?_⟩
  obtain ⟨o', q, _⟩ := r.mem (List.mem_of_getElem? h2)
  rw [upd_ne (ne a o' q)]
/-- the class x keeps its argument as f -/
structure GoodO (P : Program) (w : World) (K : PySem.W.Frag) (mg : Str → Option Value) (base : Heap) (x f : Str) : Prop where
  ex : ∃ (fI : Addr) (fd : FuncData) (p : Str) (i : String), mg x = some (.ref (He.ga K x)) ∧ OxC K (He.ga K x) i f ∧ PySem.W.findIn K (.ref (He.ga K x)) "__init__" = some (some (.ref fI)) ∧ PySem.W.typeIn K (.ref fI) = some (.type "function") ∧
    FnOk P w K mg base (L2.CX P w) 1 fI fd ["self", p] (spOx K i f) ∧ Binds K fd ["self", p] []
def oxB (K : PySem.W.Frag) (x f : Str) (lk : Bool) : Bool :=
  let C := He.ga K x
  (if lk then PySem.W.excInitIn K C lkBase "LookupError.__new__" && PySem.W.excOver K C lkBase else PySem.W.excInitIn K C He.veBase "ValueError.__new__" && PySem.W.excOver K C He.veBase) &&
  (PySem.W.hasDictIn K C && (decide (PySem.W.findIn K (.ref C) "__setattr__" = some (some (.builtin "object.__setattr__"))) && (decide (PySem.W.findIn K (.ref C) f = some none) &&
  (decide (PySem.W.subIn K (.ref C) (.type "BaseException") = some true) && (decide (PySem.W.typeIn K (.ref C) = some (.type "type")) && (PySem.W.keepIn K (.ref C) &&
  (decide (PySem.W.findIn K (.ref C) "__init__" = some (some (.ref (He.ma K C "__init__")))) && decide (PySem.W.typeIn K (.ref (He.ma K C "__init__")) = some (.type "function")))))))))
def iId (lk : Bool) : String := if lk then "LookupError.__init__" else "ValueError.__init__"
theorem ox_of {K : PySem.W.Frag} {x f : Str} {lk : Bool} (h : oxB K x f lk = true) : OxC K (He.ga K x) (iId lk) f ∧ PySem.W.findIn K (.ref (He.ga K x)) "__init__" = some (some (.ref (He.ma K (He.ga K x) "__init__"))) ∧ PySem.W.typeIn K (.ref (He.ma K (He.ga K x) "__init__")) = some (.type "function") := by
  unfold oxB at h
  simp only [Bool.and_eq_true, decide_eq_true_eq] at h
  obtain ⟨h0, h1, h2, h3, h4, h5, h6, h7, h8⟩ := h
  refine ⟨⟨?_, h1, h2, h3, h4, h5, h6⟩, h7, h8⟩
  cases lk with
  | true => simp only [if_true, Bool.and_eq_true] at h0; exact ⟨_, _, _, exb_lk, h0.1, h0.2⟩
  | false => simp only [Bool.false_eq_true, if_false, Bool.and_eq_true] at h0; exact ⟨_, _, _, exb_ve, h0.1, h0.2⟩
def iniB (K : PySem.W.Frag) (L : Str) (lk : Bool) : Bool :=
  decide (PySem.W.specialIn K (.ref (He.ga K L)) "__getattribute__" = some (some (.builtin "type.__getattribute__"))) && (PySem.W.readsIn K (He.ga K L) (.type "type") &&
  (match PySem.W.findCls K (.ref (He.ga K L)) (.type "type") "__init__" with | some (.val (.builtin j)) => decide (j = iId lk) | _ => false))
theorem ini_of {K : PySem.W.Frag} {L : Str} {lk : Bool} (h : iniB K L lk = true) : IniC K (He.ga K L) (iId lk) := by
  unfold iniB at h
  simp only [Bool.and_eq_true, decide_eq_true_eq] at h
  obtain ⟨h0, h1, h2⟩ := h
  refine ⟨h0, h1, ?_, ?_⟩
  · split at h2
    · rename_i j e
      rw [e, of_decide_eq_true h2]
    · cases h2
  · cases lk <;> rfl
theorem xf_nil {K : PySem.W.Frag} {f : Str} : ∀ y ∈ ([] : List Str), XfC K (He.ga K y) ∧ PySem.W.findIn K (.ref (He.ga K y)) f = some none := fun y hy => (nomatch hy)
theorem xf_cons {K : PySem.W.Frag} {cs ys l : List Str} {x f : Str} {lk : Bool} (h : XT K cs ys = true) (hc : x ∈ cs) (o : oxB K x f lk = true) (r : ∀ y ∈ l, XfC K (He.ga K y) ∧ PySem.W.findIn K (.ref (He.ga K y)) f = some none) :
    ∀ y ∈ x :: l, XfC K (He.ga K y) ∧ PySem.W.findIn K (.ref (He.ga K y)) f = some none := by
  intro y hy
  rcases List.mem_cons.mp hy with e | hy
  · subst e
    have q := (xt_one (y := y) h hc).1
    exact ⟨⟨q.hg, q.hk, q.hs, q.hd⟩, (ox_of o).1.no⟩
  · exact r y hy
/-- a class's j-th row -/
def clsS (s : Stmt) (j : Nat) : Stmt := match s with
  | .ClassDef (body := body) .. => body.getD j (.Pass ⟨0, 0, 0, 0⟩)
  | _ => .Pass ⟨0, 0, 0, 0⟩
end MI
end
section
set_option Elab.async false
set_option linter.all false
set_option autoImplicit false
set_option maxRecDepth 100000
set_option maxHeartbeats 4000000
namespace MI
open PySem L2
/-- what is put behind the written ones: of the defaults (true) or of the keywords -/
def arr {α : Type} (mv ws : List α) : List (Bool × Nat) → Option (List α)
  | [] => some []
  | (b, i) :: r => match (if b then mv[i]? else ws[i]?), arr mv ws r with
    | some x, some xs => some (x :: xs)
    | _, _ => none
end MI
end
section
set_option Elab.async false
set_option linter.all false
set_option autoImplicit false
set_option maxRecDepth 100000
set_option maxHeartbeats 4000000
namespace MI
open PySem PySem.Spec PyProof.Rows L2
def gMkX (c : Str) (_ : D) (h : Hq) : Rs D := .ok (.ref h.length) (h ++ [.exn c none])
def gMkO (c f : Str) (d : D) (h : Hq) : Rs D := .ok (.ref h.length) (h ++ [.exn c (some (f, d))])
/-- c(e), a class of no own __init__ -/
def eMkX (c : Str) (fe : Sx) : Sx := fun fr h => (fe fr h).bind (gMkX c)
/-- c(e), a class that keeps e as f -/
def eMkO (c f : Str) (fe : Sx) : Sx := fun fr h => (fe fr h).bind (gMkO c f)
section
variable {X : Cx} {E : XK} {e : Expr} {fe : Sx} {f x : Str} {p q pos : Pos} {k : Nat} {bmB : List Value} {B newId initId : String}
theorem m_mkx (F0 : ExcBaseFacts B newId initId bmB) (q : PySem.W.excIn X.K (He.ga X.K x) bmB newId = true) (gC : X.mg x = some (.ref (He.ga X.K x))) (kC : PySem.W.keepIn X.K (.ref (He.ga X.K x)) = true) (he : PM X E e fe) (hg : Gl X x := by rfl)
    (hs : starEach [e] X.env = (false, eval e X.env) :: starEach [] X.env := by rfl) (hdb : (x == ("__debug__" : Str)) = false := by decide) : PM X E (.Call (.Name x p) [e] [] pos) (eMkX x fe) :=
  pe_imp (pe_exc1 F0 q gC kC hg he hs hdb) fun σ H Q ⟨ι, h, fr, R, F, P⟩ => by
    refine ⟨ι, h, fr, R, F, Po.mono ?_ (Po.bind P)⟩
    rintro v H1 ⟨i1, h1, d, e1, R1, r1, P1⟩ a na
    obtain ⟨e2, R2⟩ := R1.new na (o := ExO (.ref (He.ga X.K x)) a) (c := .exn x none) fun ι' H' e z => ⟨_, none, z, fun h ⟨oe, vs, h1, ⟨h2, h3⟩, h4, _⟩ => ⟨oe, vs, h1, h2, h3, h4⟩, rfl⟩
    exact P1 _ _ _ e2 R2 (.ref (ref_new R1 a))
theorem pe_ox {i : String} {C fI : Addr} {fd : FuncData} {pn : Str} (T : OxC X.K C i f) (iC : PySem.W.findIn X.K (.ref C) "__init__" = some (some (.ref fI))) (tI : PySem.W.typeIn X.K (.ref fI) = some (.type "function"))
    (F1 : FnOk X.prog X.w X.K X.mg X.base (L2.CX X.prog X.w) k fI fd ["self", pn] (spOx X.K i f)) (hr : Room (k + 1) X.A) (hb : Binds X.K fd ["self", pn] []) (hm : X.mg x = some (.ref C)) (ha : PM X E e fe) (hg : Gl X x := by rfl)
    (hdb : (x == ("__debug__" : Str)) = false := by decide) (he : starEach [e] X.env = (false, eval e X.env) :: starEach [] X.env := by rfl) :
    PE X (.Call (.Name x q) [e] [] pos) (fun σ H Q => tM X.K X.mg E fe σ H fun y H1 => ∀ a d, H1 a = none → H1 d = none → d ≠ a → Q (.ref a) (upd (upd H1 d (.xd [(f, y)])) a (exo a C (some d)))) := by
  refine ⟨fun pins s σ H Q I h => ?_⟩
  obtain ⟨B, newId, bmB, eb, q1, q2⟩ := T.ex
  refine wpAny_Call_Name_kw (ld_glob I hg hm ?_ hdb)
  have ha2 : PA X [e] (tCons (tM X.K X.mg E fe) tNil) := pa_cons ha pa_nil he
  refine PySem.W.callWith_K (h₀ := X.base) I.ok.mod.kin T.kC (thn (ha2.run pos pins s σ H (fun vs H1 => ∃ y, vs = [y] ∧ ∀ a d, H1 a = none → H1 d = none → d ≠ a → Q (.ref a) (upd (upd H1 d (.xd [(f, y)])) a (exo a C (some d)))) I ?_) fun us s1 hh => ?_) he (by rfl)
  · obtain ⟨ι, h, fr, R, F, P⟩ := h
    exact ⟨ι, h, fr, R, F, Po.mono (fun v H1 z => ⟨v, rfl, z⟩) P⟩
  obtain ⟨vs, H1, I1, r1, y, ev, q0⟩ := hh
  subst ev
  refine ⟨I1.kIn, ?_⟩
  obtain ⟨nm, N, qn, bs, bm, hdct, sn, sub, ab, col, dd, k0, k1, k2, k3, k5, hC, hT⟩ := PySem.W.excInit_of I1.kIn q1
  cases r1 with
  | cons ru rn =>
    rename_i u us'
    cases rn
    show wpAny _ _ (call (.ref C) [u]) _ _ _
    obtain ⟨hp, g, dr, tk, os⟩ := s1
    have hsz : hp.objs.size ≤ hp.objs.size + 1 := Nat.le_succ _
    obtain ⟨a, ea⟩ : ∃ a, a = hp.objs.size + 1 := ⟨_, rfl⟩
    have hn : H1 a = none := I1.hok.fresh (by rw [ea]; exact hsz)
    have kk : ∀ b o, hp.get? b = some o → ((hp.push (PySem.W.kdv_tup [u])).push (PySem.HandSPX.excO C hp.objs.size)).get? b = some o :=
      fun b o e => Heap.get?_push_of_some _ (Heap.get?_push_of_some _ e)
    have hget : ((hp.push (PySem.W.kdv_tup [u])).push (PySem.HandSPX.excO C hp.objs.size)).get? a = some (PySem.HandSPX.excO C hp.objs.size) := by
      rw [ea]; heap_get
    have I2 : Inv X pins σ (upd H1 a (exo a C none)) ⟨(hp.push (PySem.W.kdv_tup [u])).push (PySem.HandSPX.excO C hp.objs.size), g, dr, tk, os⟩ :=
      I1.laid (t' := tk) (a := a) (o := exo a C none) kk (by rw [ea]; exact hsz) (exo_ok hget)
    have r2 : Vals [V.ref a, y] [Value.ref a, u] := .cons rfl (.cons ru .nil)
    have b0 := hb ⟨(hp.push (PySem.W.kdv_tup [u])).push (PySem.HandSPX.excO C hp.objs.size), g, dr, tk, os⟩ [Value.ref a, u] I2.kIn rfl
    rw [List.append_nil] at b0
    have sp : spOx X.K i f [V.ref a, y] (upd H1 a (exo a C none)) (fun v H2 => v = .non ∧ ∃ d, H1 d = none ∧ d ≠ a ∧ H2 = upd (upd (upd H1 a (exo a C none)) d (exd d [(f, y)])) a (exo a C (some d))) (fun _ _ _ => False) := by
      refine ⟨a, C, y, rfl, T, upd_same, fun dx n ne => ⟨rfl, dx, ?_, ne, rfl⟩⟩
      rw [upd_ne ne] at n
      exact n
    refine wpAny_call (PySem.HandSPX.call_own eb.fb hT hC (PySem.W.looks_findIn I1.kIn iC) (fun self => PySem.W.bind_fn I1.kIn self tI) (by rw [sizeLine_eq]; exact Nat.le_of_ble_eq_true rfl) ?_)
    refine codeAny_mono (F1.run _ X.stack _ _ ⟨[Value.ref (hp.objs.size + 1), u], []⟩ [Value.ref a, u] [V.ref a, y] _ (fun _ _ _ => False) (hr.make C [u] []) (I2.env0.make C [u] []) (by rw [← ea]; exact b0) r2 sp) fun r s' hq' => ?_
    cases r with
    | error er =>
      obtain ⟨_, _, _, _, _, _, _, _, _, _, _, _, z⟩ := hq'
      exact z.elim
    | ok fl =>
      cases fl with
      | ret u2 =>
        obtain ⟨v, H2, os2, bare2, un2, hok2, rv, ev, d, nd, ne, eH⟩ := hq'
        subst ev
        obtain ⟨h2, g2, d2, t2, os'⟩ := s'
        subst eH
        have eD : upd (del (upd (upd (upd H1 a (exo a C none)) d (exd d [(f, y)])) a (exo a C (some d))) a) d (.xd [(f, y)]) = upd H1 d (.xd [(f, y)]) := by
          funext b
          by_cases hbd : b = d
          · rw [hbd, upd_same, upd_same]
          · rw [upd_ne hbd, upd_ne hbd]
            by_cases hba : b = a
            · rw [hba, del_same, hn]
            · rw [del_ne hba, upd_ne hba, upd_ne hbd, upd_ne hba]
        obtain ⟨t0, G, J, kG, ge, hoe, na⟩ := mk_end0 (d2 := d2) (t2 := t2) I1 (by rw [ea]; exact hsz) kk un2 hok2 os2 bare2 upd_same (by rw [upd_ne ne, upd_same]) nd
        rw [eD] at J na
        have I3 := J.laidN (t' := t2) (h' := h2) (a := a) (o := exo a C (some d)) kG ge na (exo_ok hoe)
        refine ⟨rv, ?_⟩
        rw [← ea]
        exact ⟨.ref a, _, I3, rfl, q0 a d hn nd ne⟩
      | next => exact False.elim hq'
      | brk => exact False.elim hq'
      | cont => exact False.elim hq'
theorem m_mkO (G : GoodO X.prog X.w X.K X.mg X.base x f) (hr : Room k X.A) (hk : 2 ≤ k) (ha : PM X E e fe) (hg : Gl X x := by rfl) (hdb : (x == ("__debug__" : Str)) = false := by decide)
    (he : starEach [e] X.env = (false, eval e X.env) :: starEach [] X.env := by rfl) : PM X E (.Call (.Name x q) [e] [] pos) (eMkO x f fe) := by
  obtain ⟨fI, fd, p, i, hm, T, iC, tI, F1, hb⟩ := G.ex
  refine pe_imp (pe_ox T iC tI F1 (hr.mono hk) hb hm ha hg hdb he) fun σ H Q ⟨ι, h, fr, R, F, P⟩ => ?_
  refine ⟨ι, h, fr, R, F, Po.mono ?_ (Po.bind P)⟩
  rintro v H1 ⟨i1, h1, d0, e1, R1, r1, P1⟩ a d na nd ne
  obtain ⟨e2, R2⟩ := R1.aside nd (.xd [(f, v)])
  have na2 : upd H1 d (.xd [(f, v)]) a = none := by rw [upd_ne (Ne.symm ne)]; exact na
  have nm : d ∉ i1 := fun m => by
    obtain ⟨o, q, _⟩ := R1.mem m
    rw [nd] at q; cases q
  obtain ⟨e3, R3⟩ := R2.new na2 (o := exo a (He.ga X.K x) (some d)) (c := .exn x (some (f, d0))) fun ι' H' e z =>
    ⟨_, some d, z, fun h ⟨t1, ht⟩ => ⟨_, _, ht, rfl, rfl, rfl⟩, d, v, rfl, e.notin upd_same nm, e.keep d _ upd_same nm, r1.ext (e2.trans e)⟩
  exact P1 _ _ _ (e2.trans e3) R3 (.ref (ref_new R2 a))
end
section
variable {fr : Fr} {h : Hq} {Φ : Rs D → Prop} {c f : Str} {fe : Sx} {d : D}
theorem w_MkX : W (eMkX c fe fr h) Φ = W (fe fr h) (kB (gMkX c) Φ) := w_bind
theorem w_MkO : W (eMkO c f fe fr h) Φ = W (fe fr h) (kB (gMkO c f) Φ) := w_bind
theorem w_gMkX : W (gMkX c d h) Φ = Φ (.ok (.ref h.length) (h ++ [.exn c none])) := rfl
theorem w_gMkO : W (gMkO c f d h) Φ = Φ (.ok (.ref h.length) (h ++ [.exn c (some (f, d))])) := rfl
end
theorem fold_size {a : Array Nat} : ∀ (n : Nat) (acc : Array Nat), ((List.replicate n a).foldl (· ++ ·) acc).size = acc.size + n * a.size
  | 0, acc => by simp
  | n + 1, acc => by
    rw [List.replicate_succ, List.foldl_cons, fold_size n (acc ++ a), Array.size_append, Nat.succ_mul]
    omega
def strRep (x : Str) (n : Nat) : Str := ⟨(List.replicate n x.cps).foldl (· ++ ·) #[]⟩
def dMulS (x y : D) (h : Hq) : Rs D := match x, y with
  | .str s, .int k => if 2 ≤ k ∧ k ≤ 1000 ∧ 1 ≤ s.length ∧ s.length ≤ 1000 then .ok (.str (strRep s k.toNat)) h else .no
  | _, _ => .no
def rMulS : V → V → Hp → VK → Prop := fun x y H Q => ∃ (s : Str) (k : Int), x = .str s ∧ y = .int k ∧ 2 ≤ k ∧ k ≤ 1000 ∧ 1 ≤ s.length ∧ s.length ≤ 1000 ∧ Q (.str (strRep s k.toNat)) H
section
variable {X : Cx} {E : XK} {a b : Expr} {fa fb : Sx} {pos : Pos}
theorem op_mulS : OpR X (binaryOp .Mult) rMulS := by
  intro pins s σ H x y v u Q I rx ry h
  obtain ⟨z, k, rfl, rfl, h1, h2, h3, h4, q⟩ := h
  obtain ⟨t, rfl⟩ := rx
  obtain ⟨t2, rfl⟩ := ry
  have k1 : ¬ k < 1 := by omega
  have k2 : (k == 1 || z.length == 0) = false := by
    rw [Bool.or_eq_false_iff]
    exact ⟨beq_eq_false_iff_ne.mpr (by omega), beq_eq_false_iff_ne.mpr (by omega)⟩
  have hm : z.length * k.toNat ≤ 1000 * 1000 := Nat.mul_le_mul h4 (by omega)
  have hm2 : (z.length : Int) * k ≤ 1000 * 1000 := Int.mul_le_mul (by omega) h2 (by omega) (by decide)
  have hd : (z.length : Int) ≤ (2 ^ 63 - 1 : Int) / k := Int.le_ediv_of_mul_le (by omega) (by omega)
  refine PySem.P.mul_str ?_ (fun _ _ => ?_) (fun _ _ => ?_) ?_
  · rw [Bool.or_eq_false_iff]
    exact ⟨decide_eq_false (by omega), decide_eq_false (by omega)⟩
  · omega
  · exact decide_eq_false (by rw [sizeLine_eq]; omega)
  · rw [if_neg k1, if_neg (by rw [k2]; decide)]
    have hs : (strRep z k.toNat).length ≤ sizeLine := by
      show ((List.replicate k.toNat z.cps).foldl (· ++ ·) #[]).size ≤ _
      rw [fold_size, sizeLine_eq, Nat.mul_comm]
      have : z.cps.size * k.toNat ≤ 1000 * 1000 := hm
      simp; omega
    exact ⟨hs, .str (strRep z k.toNat), H, I.tok _, ⟨_, rfl⟩, q⟩
theorem s_mulS {K : PySem.W.Frag} {mg : Str → Option Value} : OpS K mg E dMulS rMulS := by
  intro ι h H x y v w Q R rx ry P
  unfold dMulS at P
  split at P
  · split at P
    · rename_i s k hz
      cases rx; cases ry
      exact ⟨s, k, rfl, rfl, hz.1, hz.2.1, hz.2.2.1, hz.2.2.2, P ι H _ (Ext.refl _ _) R (.str _)⟩
    · exact P.elim
  · exact P.elim
theorem m_mulS (ha : PM X E a fa) (hb : PM X E b fb) : PM X E (.BinOp a .Mult b pos) (eOp dMulS fa fb) := m_bin op_mulS s_mulS ha hb
def eDct1 (a : Str) (i : Int) : Sx := fun _ h => .ok (.ref h.length) (h ++ [.dct [(.inr a, .int i)]])
theorem m_dct1 {a : Str} {i : Int} {j1 j3 : Nat} {p1 p3 : Pos} :
    PM X E (.Dict [some (.Constant (.str a) j1 p1)] [.Constant (.int i) j3 p3] pos) (eDct1 a i) :=
  pe_imp (pe_disp (pps_cons pe_str pe_int pps_nil) rfl rfl (by simp) (by simp)) fun σ H Q ⟨ι, h, fr, R, F, P⟩ p np => by
    refine ⟨upd_same, [(.inr a, .int i)], rfl, by simp, ?_⟩
    have em : mergeK [] [((.inr a : L2.Key), V.int i)] = [(.inr a, V.int i)] := by
      simp [mergeK, putK]
    rw [em, upd_upd]
    obtain ⟨e2, R2⟩ := R.new np (o := .dK [(.inr a, V.int i)]) (c := .dct [(.inr a, .int i)]) fun ι' H' e q => ⟨_, q, rfl, .cons (.int i) .nil⟩
    exact P _ _ _ e2 R2 (.ref (ref_new R p))
end
theorem w_Dct1 {a : Str} {i : Int} {fr : Fr} {h : Hq} {Φ : Rs D → Prop} : W (eDct1 a i fr h) Φ = Φ (.ok (.ref h.length) (h ++ [.dct [(.inr a, .int i)]])) := rfl
theorem w_mulS {s : Str} {k : Int} {h : Hq} {Φ : Rs D → Prop} (e : 2 ≤ k ∧ k ≤ 1000 ∧ 1 ≤ s.length ∧ s.length ≤ 1000) : W (dMulS (.str s) (.int k) h) Φ = Φ (.ok (.str (strRep s k.toNat)) h) := by
  unfold W dMulS
  simp only [if_pos e]
end MI
end
section
set_option Elab.async false
set_option linter.all false
set_option autoImplicit false
set_option maxRecDepth 100000
set_option maxHeartbeats 4000000
open PySem PySem.Spec PyProof.Rows L2
namespace K01
def CS : List PySem.Str := ["NoBlock", "NoCut", "NoCuts", "NoDeed", "NoDirection", "NoFraction", "NoHouse", "NoKept", "NoLine", "NoMoment", "NoName", "NoNumber", "NoPlace", "NoQuestion", "NoRegion", "NoRing", "NoRow", "NoShares", "NoSpell", "NoSteps", "NoTelling", "NoText", "NoTile", "TooMany", "WhereError"]
def YS : List PySem.Str := ["LackError", "LookupError", "NoBlock", "NoCut", "NoCuts", "NoDeed", "NoDirection", "NoFraction", "NoHouse", "NoKept", "NoLine", "NoMoment", "NoName", "NoNumber", "NoPlace", "NoQuestion", "NoRegion", "NoRing", "NoRow", "NoShares", "NoSpell", "NoSteps", "NoTelling", "NoText", "NoTile", "TooMany", "ValueError", "WhereError"]
def topS (i : Nat) : Stmt := PySem.Challenge.pw_wherewhen_k01_refusals_stand_alone.main.body.getD i (.Pass ⟨0, 0, 0, 0⟩)
abbrev s_law_pot : Stmt := topS 28
abbrev s_law_take : Stmt := topS 29
abbrev s_law_made : Stmt := topS 30
abbrev s_law_marks : Stmt := topS 31
abbrev s_law_kept : Stmt := topS 32
abbrev slaw : Stmt := topS 33
def d_law_pot : He.DefD := ⟨("_law_pot", none), "_law_pot", "_law_pot", defArgs s_law_pot, defBody s_law_pot, defScope s_law_pot, [], []⟩
def d_law_take : He.DefD := ⟨("_law_take", none), "_law_take", "_law_take", defArgs s_law_take, defBody s_law_take, defScope s_law_take, [], []⟩
def d_law_made : He.DefD := ⟨("_law_made", none), "_law_made", "_law_made", defArgs s_law_made, defBody s_law_made, defScope s_law_made, [], []⟩
def d_law_marks : He.DefD := ⟨("_law_marks", none), "_law_marks", "_law_marks", defArgs s_law_marks, defBody s_law_marks, defScope s_law_marks, [], []⟩
def d_law_kept : He.DefD := ⟨("_law_kept", none), "_law_kept", "_law_kept", defArgs s_law_kept, defBody s_law_kept, defScope s_law_kept, [], []⟩
def dlaw : He.DefD := ⟨("law", none), "law", "law", defArgs slaw, defBody slaw, defScope slaw, [], []⟩
abbrev s_ox_NoHouse : Stmt := MI.clsS (topS 25) 0
def d_ox_NoHouse : He.DefD := ⟨("NoHouse", some "__init__"), "__init__", "NoHouse.__init__", defArgs s_ox_NoHouse, defBody s_ox_NoHouse, defScope s_ox_NoHouse, [], []⟩
abbrev s_ox_NoKept : Stmt := MI.clsS (topS 26) 0
def d_ox_NoKept : He.DefD := ⟨("NoKept", some "__init__"), "__init__", "NoKept.__init__", defArgs s_ox_NoKept, defBody s_ox_NoKept, defScope s_ox_NoKept, [], []⟩
abbrev s_ox_NoMoment : Stmt := MI.clsS (topS 23) 0
def d_ox_NoMoment : He.DefD := ⟨("NoMoment", some "__init__"), "__init__", "NoMoment.__init__", defArgs s_ox_NoMoment, defBody s_ox_NoMoment, defScope s_ox_NoMoment, [], []⟩
abbrev s_ox_NoNumber : Stmt := MI.clsS (topS 24) 0
def d_ox_NoNumber : He.DefD := ⟨("NoNumber", some "__init__"), "__init__", "NoNumber.__init__", defArgs s_ox_NoNumber, defBody s_ox_NoNumber, defScope s_ox_NoNumber, [], []⟩
abbrev s_ox_NoTelling : Stmt := MI.clsS (topS 21) 0
def d_ox_NoTelling : He.DefD := ⟨("NoTelling", some "__init__"), "__init__", "NoTelling.__init__", defArgs s_ox_NoTelling, defBody s_ox_NoTelling, defScope s_ox_NoTelling, [], []⟩
def fn : List He.DefD := [d_law_pot, d_law_take, d_law_made, d_law_marks, d_law_kept, dlaw, d_ox_NoHouse, d_ox_NoKept, d_ox_NoMoment, d_ox_NoNumber, d_ox_NoTelling]
def fa : List He.Fa := [.glo "_law_pot", .glo "_law_take", .glo "_law_made", .glo "_law_marks", .glo "_law_kept", .glo "law", .glo "WhereError", .glo "NoFraction", .glo "NoSpell", .glo "NoSteps", .glo "NoRing", .glo "NoPlace", .glo "NoDirection", .glo "NoLine", .glo "NoRow", .glo "NoName", .glo "NoQuestion", .glo "NoShares", .glo "NoCuts", .glo "NoCut", .glo "NoRegion", .glo "NoTile", .glo "NoBlock", .glo "NoDeed", .glo "NoText", .glo "TooMany", .glo "NoTelling", .glo "LackError", .glo "NoMoment", .glo "NoNumber", .glo "NoHouse", .glo "NoKept", .free "len", .free "abs", .free "int", .free "isinstance", .free "range", .free "max", .free "ValueError", .free "min", .free "repr", .free "LookupError", .exc "NoBlock", .exc "NoCut", .exc "NoCuts", .exc "NoDeed", .exc "NoDirection", .exc "NoFraction", .exc "NoLine", .exc "NoName", .exc "NoPlace", .exc "NoQuestion", .exc "NoRegion", .exc "NoRing", .exc "NoRow", .exc "NoShares", .exc "NoSpell", .exc "NoSteps", .exc "NoText", .exc "NoTile", .exc "TooMany", .exc "WhereError"]
open MI in
def ex (K : PySem.W.Frag) : Bool := decide (XT K CS YS = true) && (decide (oxB K "NoHouse" "house" true = true) && (decide (oxB K "NoKept" "number" true = true) && (decide (oxB K "NoMoment" "moment" true = true) && (decide (oxB K "NoNumber" "number" true = true) && (decide (oxB K "NoTelling" "number" false = true) && (decide (iniB K "LackError" true = true) && (decide (iniB K "WhereError" false = true))))))))
open MI
/-- what the written part says -/
structure Txt (K : PySem.W.Frag) (mg : Str → Option Value) : Prop where
  g__law_pot : mg "_law_pot" = some (.ref (He.ga K "_law_pot"))
  g__law_take : mg "_law_take" = some (.ref (He.ga K "_law_take"))
  g__law_made : mg "_law_made" = some (.ref (He.ga K "_law_made"))
  g__law_marks : mg "_law_marks" = some (.ref (He.ga K "_law_marks"))
  g__law_kept : mg "_law_kept" = some (.ref (He.ga K "_law_kept"))
  g_law : mg "law" = some (.ref (He.ga K "law"))
  g_WhereError : mg "WhereError" = some (.ref (He.ga K "WhereError"))
  g_NoFraction : mg "NoFraction" = some (.ref (He.ga K "NoFraction"))
  g_NoSpell : mg "NoSpell" = some (.ref (He.ga K "NoSpell"))
  g_NoSteps : mg "NoSteps" = some (.ref (He.ga K "NoSteps"))
  g_NoRing : mg "NoRing" = some (.ref (He.ga K "NoRing"))
  g_NoPlace : mg "NoPlace" = some (.ref (He.ga K "NoPlace"))
  g_NoDirection : mg "NoDirection" = some (.ref (He.ga K "NoDirection"))
  g_NoLine : mg "NoLine" = some (.ref (He.ga K "NoLine"))
  g_NoRow : mg "NoRow" = some (.ref (He.ga K "NoRow"))
  g_NoName : mg "NoName" = some (.ref (He.ga K "NoName"))
  g_NoQuestion : mg "NoQuestion" = some (.ref (He.ga K "NoQuestion"))
  g_NoShares : mg "NoShares" = some (.ref (He.ga K "NoShares"))
  g_NoCuts : mg "NoCuts" = some (.ref (He.ga K "NoCuts"))
  g_NoCut : mg "NoCut" = some (.ref (He.ga K "NoCut"))
  g_NoRegion : mg "NoRegion" = some (.ref (He.ga K "NoRegion"))
  g_NoTile : mg "NoTile" = some (.ref (He.ga K "NoTile"))
  g_NoBlock : mg "NoBlock" = some (.ref (He.ga K "NoBlock"))
  g_NoDeed : mg "NoDeed" = some (.ref (He.ga K "NoDeed"))
  g_NoText : mg "NoText" = some (.ref (He.ga K "NoText"))
  g_TooMany : mg "TooMany" = some (.ref (He.ga K "TooMany"))
  g_NoTelling : mg "NoTelling" = some (.ref (He.ga K "NoTelling"))
  g_LackError : mg "LackError" = some (.ref (He.ga K "LackError"))
  g_NoMoment : mg "NoMoment" = some (.ref (He.ga K "NoMoment"))
  g_NoNumber : mg "NoNumber" = some (.ref (He.ga K "NoNumber"))
  g_NoHouse : mg "NoHouse" = some (.ref (He.ga K "NoHouse"))
  g_NoKept : mg "NoKept" = some (.ref (He.ga K "NoKept"))
  z_len : mg "len" = none
  z_abs : mg "abs" = none
  z_int : mg "int" = none
  z_isinstance : mg "isinstance" = none
  z_range : mg "range" = none
  z_max : mg "max" = none
  z_ValueError : mg "ValueError" = none
  z_min : mg "min" = none
  z_repr : mg "repr" = none
  z_LookupError : mg "LookupError" = none
  ex_NoBlock : PySem.W.excIn K (He.ga K "NoBlock") He.veBase "ValueError.__new__" = true
  kp_NoBlock : PySem.W.keepIn K (.ref (He.ga K "NoBlock")) = true
  sb_NoBlock : PySem.W.subIn K (.ref (He.ga K "NoBlock")) (.type "BaseException") = some true
  ty_NoBlock : PySem.W.typeIn K (.ref (He.ga K "NoBlock")) = some (.type "type")
  ex_NoCut : PySem.W.excIn K (He.ga K "NoCut") He.veBase "ValueError.__new__" = true
  kp_NoCut : PySem.W.keepIn K (.ref (He.ga K "NoCut")) = true
  sb_NoCut : PySem.W.subIn K (.ref (He.ga K "NoCut")) (.type "BaseException") = some true
  ty_NoCut : PySem.W.typeIn K (.ref (He.ga K "NoCut")) = some (.type "type")
  ex_NoCuts : PySem.W.excIn K (He.ga K "NoCuts") He.veBase "ValueError.__new__" = true
  kp_NoCuts : PySem.W.keepIn K (.ref (He.ga K "NoCuts")) = true
  sb_NoCuts : PySem.W.subIn K (.ref (He.ga K "NoCuts")) (.type "BaseException") = some true
  ty_NoCuts : PySem.W.typeIn K (.ref (He.ga K "NoCuts")) = some (.type "type")
  ex_NoDeed : PySem.W.excIn K (He.ga K "NoDeed") He.veBase "ValueError.__new__" = true
  kp_NoDeed : PySem.W.keepIn K (.ref (He.ga K "NoDeed")) = true
  sb_NoDeed : PySem.W.subIn K (.ref (He.ga K "NoDeed")) (.type "BaseException") = some true
  ty_NoDeed : PySem.W.typeIn K (.ref (He.ga K "NoDeed")) = some (.type "type")
  ex_NoDirection : PySem.W.excIn K (He.ga K "NoDirection") He.veBase "ValueError.__new__" = true
  kp_NoDirection : PySem.W.keepIn K (.ref (He.ga K "NoDirection")) = true
  sb_NoDirection : PySem.W.subIn K (.ref (He.ga K "NoDirection")) (.type "BaseException") = some true
  ty_NoDirection : PySem.W.typeIn K (.ref (He.ga K "NoDirection")) = some (.type "type")
  ex_NoFraction : PySem.W.excIn K (He.ga K "NoFraction") He.veBase "ValueError.__new__" = true
  kp_NoFraction : PySem.W.keepIn K (.ref (He.ga K "NoFraction")) = true
  sb_NoFraction : PySem.W.subIn K (.ref (He.ga K "NoFraction")) (.type "BaseException") = some true
  ty_NoFraction : PySem.W.typeIn K (.ref (He.ga K "NoFraction")) = some (.type "type")
  ex_NoLine : PySem.W.excIn K (He.ga K "NoLine") He.veBase "ValueError.__new__" = true
  kp_NoLine : PySem.W.keepIn K (.ref (He.ga K "NoLine")) = true
  sb_NoLine : PySem.W.subIn K (.ref (He.ga K "NoLine")) (.type "BaseException") = some true
  ty_NoLine : PySem.W.typeIn K (.ref (He.ga K "NoLine")) = some (.type "type")
  ex_NoName : PySem.W.excIn K (He.ga K "NoName") He.veBase "ValueError.__new__" = true
  kp_NoName : PySem.W.keepIn K (.ref (He.ga K "NoName")) = true
  sb_NoName : PySem.W.subIn K (.ref (He.ga K "NoName")) (.type "BaseException") = some true
  ty_NoName : PySem.W.typeIn K (.ref (He.ga K "NoName")) = some (.type "type")
  ex_NoPlace : PySem.W.excIn K (He.ga K "NoPlace") He.veBase "ValueError.__new__" = true
  kp_NoPlace : PySem.W.keepIn K (.ref (He.ga K "NoPlace")) = true
  sb_NoPlace : PySem.W.subIn K (.ref (He.ga K "NoPlace")) (.type "BaseException") = some true
  ty_NoPlace : PySem.W.typeIn K (.ref (He.ga K "NoPlace")) = some (.type "type")
  ex_NoQuestion : PySem.W.excIn K (He.ga K "NoQuestion") He.veBase "ValueError.__new__" = true
  kp_NoQuestion : PySem.W.keepIn K (.ref (He.ga K "NoQuestion")) = true
  sb_NoQuestion : PySem.W.subIn K (.ref (He.ga K "NoQuestion")) (.type "BaseException") = some true
  ty_NoQuestion : PySem.W.typeIn K (.ref (He.ga K "NoQuestion")) = some (.type "type")
  ex_NoRegion : PySem.W.excIn K (He.ga K "NoRegion") He.veBase "ValueError.__new__" = true
  kp_NoRegion : PySem.W.keepIn K (.ref (He.ga K "NoRegion")) = true
  sb_NoRegion : PySem.W.subIn K (.ref (He.ga K "NoRegion")) (.type "BaseException") = some true
  ty_NoRegion : PySem.W.typeIn K (.ref (He.ga K "NoRegion")) = some (.type "type")
  ex_NoRing : PySem.W.excIn K (He.ga K "NoRing") He.veBase "ValueError.__new__" = true
  kp_NoRing : PySem.W.keepIn K (.ref (He.ga K "NoRing")) = true
  sb_NoRing : PySem.W.subIn K (.ref (He.ga K "NoRing")) (.type "BaseException") = some true
  ty_NoRing : PySem.W.typeIn K (.ref (He.ga K "NoRing")) = some (.type "type")
  ex_NoRow : PySem.W.excIn K (He.ga K "NoRow") He.veBase "ValueError.__new__" = true
  kp_NoRow : PySem.W.keepIn K (.ref (He.ga K "NoRow")) = true
  sb_NoRow : PySem.W.subIn K (.ref (He.ga K "NoRow")) (.type "BaseException") = some true
  ty_NoRow : PySem.W.typeIn K (.ref (He.ga K "NoRow")) = some (.type "type")
  ex_NoShares : PySem.W.excIn K (He.ga K "NoShares") He.veBase "ValueError.__new__" = true
  kp_NoShares : PySem.W.keepIn K (.ref (He.ga K "NoShares")) = true
  sb_NoShares : PySem.W.subIn K (.ref (He.ga K "NoShares")) (.type "BaseException") = some true
  ty_NoShares : PySem.W.typeIn K (.ref (He.ga K "NoShares")) = some (.type "type")
  ex_NoSpell : PySem.W.excIn K (He.ga K "NoSpell") He.veBase "ValueError.__new__" = true
  kp_NoSpell : PySem.W.keepIn K (.ref (He.ga K "NoSpell")) = true
  sb_NoSpell : PySem.W.subIn K (.ref (He.ga K "NoSpell")) (.type "BaseException") = some true
  ty_NoSpell : PySem.W.typeIn K (.ref (He.ga K "NoSpell")) = some (.type "type")
  ex_NoSteps : PySem.W.excIn K (He.ga K "NoSteps") He.veBase "ValueError.__new__" = true
  kp_NoSteps : PySem.W.keepIn K (.ref (He.ga K "NoSteps")) = true
  sb_NoSteps : PySem.W.subIn K (.ref (He.ga K "NoSteps")) (.type "BaseException") = some true
  ty_NoSteps : PySem.W.typeIn K (.ref (He.ga K "NoSteps")) = some (.type "type")
  ex_NoText : PySem.W.excIn K (He.ga K "NoText") He.veBase "ValueError.__new__" = true
  kp_NoText : PySem.W.keepIn K (.ref (He.ga K "NoText")) = true
  sb_NoText : PySem.W.subIn K (.ref (He.ga K "NoText")) (.type "BaseException") = some true
  ty_NoText : PySem.W.typeIn K (.ref (He.ga K "NoText")) = some (.type "type")
  ex_NoTile : PySem.W.excIn K (He.ga K "NoTile") He.veBase "ValueError.__new__" = true
  kp_NoTile : PySem.W.keepIn K (.ref (He.ga K "NoTile")) = true
  sb_NoTile : PySem.W.subIn K (.ref (He.ga K "NoTile")) (.type "BaseException") = some true
  ty_NoTile : PySem.W.typeIn K (.ref (He.ga K "NoTile")) = some (.type "type")
  ex_TooMany : PySem.W.excIn K (He.ga K "TooMany") He.veBase "ValueError.__new__" = true
  kp_TooMany : PySem.W.keepIn K (.ref (He.ga K "TooMany")) = true
  sb_TooMany : PySem.W.subIn K (.ref (He.ga K "TooMany")) (.type "BaseException") = some true
  ty_TooMany : PySem.W.typeIn K (.ref (He.ga K "TooMany")) = some (.type "type")
  ex_WhereError : PySem.W.excIn K (He.ga K "WhereError") He.veBase "ValueError.__new__" = true
  kp_WhereError : PySem.W.keepIn K (.ref (He.ga K "WhereError")) = true
  sb_WhereError : PySem.W.subIn K (.ref (He.ga K "WhereError")) (.type "BaseException") = some true
  ty_WhereError : PySem.W.typeIn K (.ref (He.ga K "WhereError")) = some (.type "type")
  F__law_pot : ∃ fd, FunD K "_law_pot" "_law_pot" (defArgs s_law_pot) (defBody s_law_pot) (defScope s_law_pot) [] [] (He.ga K "_law_pot") fd
  F__law_take : ∃ fd, FunD K "_law_take" "_law_take" (defArgs s_law_take) (defBody s_law_take) (defScope s_law_take) [] [] (He.ga K "_law_take") fd
  F__law_made : ∃ fd, FunD K "_law_made" "_law_made" (defArgs s_law_made) (defBody s_law_made) (defScope s_law_made) [] [] (He.ga K "_law_made") fd
  F__law_marks : ∃ fd, FunD K "_law_marks" "_law_marks" (defArgs s_law_marks) (defBody s_law_marks) (defScope s_law_marks) [] [] (He.ga K "_law_marks") fd
  F__law_kept : ∃ fd, FunD K "_law_kept" "_law_kept" (defArgs s_law_kept) (defBody s_law_kept) (defScope s_law_kept) [] [] (He.ga K "_law_kept") fd
  F_law : ∃ fd, FunD K "law" "law" (defArgs slaw) (defBody slaw) (defScope slaw) [] [] (He.ga K "law") fd
  F_ox_NoHouse : ∃ fd, FunD K "__init__" "NoHouse.__init__" (defArgs s_ox_NoHouse) (defBody s_ox_NoHouse) (defScope s_ox_NoHouse) [] [] (He.ma K (He.ga K "NoHouse") "__init__") fd
  F_ox_NoKept : ∃ fd, FunD K "__init__" "NoKept.__init__" (defArgs s_ox_NoKept) (defBody s_ox_NoKept) (defScope s_ox_NoKept) [] [] (He.ma K (He.ga K "NoKept") "__init__") fd
  F_ox_NoMoment : ∃ fd, FunD K "__init__" "NoMoment.__init__" (defArgs s_ox_NoMoment) (defBody s_ox_NoMoment) (defScope s_ox_NoMoment) [] [] (He.ma K (He.ga K "NoMoment") "__init__") fd
  F_ox_NoNumber : ∃ fd, FunD K "__init__" "NoNumber.__init__" (defArgs s_ox_NoNumber) (defBody s_ox_NoNumber) (defScope s_ox_NoNumber) [] [] (He.ma K (He.ga K "NoNumber") "__init__") fd
  F_ox_NoTelling : ∃ fd, FunD K "__init__" "NoTelling.__init__" (defArgs s_ox_NoTelling) (defBody s_ox_NoTelling) (defScope s_ox_NoTelling) [] [] (He.ma K (He.ga K "NoTelling") "__init__") fd
  xt : XT K CS YS = true
  oxf_NoHouse : oxB K "NoHouse" "house" true = true
  oxf_NoKept : oxB K "NoKept" "number" true = true
  oxf_NoMoment : oxB K "NoMoment" "moment" true = true
  oxf_NoNumber : oxB K "NoNumber" "number" true = true
  oxf_NoTelling : oxB K "NoTelling" "number" false = true
  ini_LackError : iniB K "LackError" true = true
  ini_WhereError : iniB K "WhereError" false = true
theorem txt_of {K : PySem.W.Frag} {mg : Str → Option Value} {h : Heap} (X : K.In h) (G : h.Ns mainGlobals mg) (c : He.SaysD fa fn K) (m : ex K = true) : Txt K mg := by
  have m' := m
  unfold ex at m'
  simp only [Bool.and_eq_true, decide_eq_true_eq] at m'
  obtain ⟨e0, e1, e2, e3, e4, e5, e6, e7⟩ := m'
  exact ⟨He.glo_ok X G (c.fact 0 (f := .glo "_law_pot") rfl),
    He.glo_ok X G (c.fact 1 (f := .glo "_law_take") rfl),
    He.glo_ok X G (c.fact 2 (f := .glo "_law_made") rfl),
    He.glo_ok X G (c.fact 3 (f := .glo "_law_marks") rfl),
    He.glo_ok X G (c.fact 4 (f := .glo "_law_kept") rfl),
    He.glo_ok X G (c.fact 5 (f := .glo "law") rfl),
    He.glo_ok X G (c.fact 6 (f := .glo "WhereError") rfl),
    He.glo_ok X G (c.fact 7 (f := .glo "NoFraction") rfl),
    He.glo_ok X G (c.fact 8 (f := .glo "NoSpell") rfl),
    He.glo_ok X G (c.fact 9 (f := .glo "NoSteps") rfl),
    He.glo_ok X G (c.fact 10 (f := .glo "NoRing") rfl),
    He.glo_ok X G (c.fact 11 (f := .glo "NoPlace") rfl),
    He.glo_ok X G (c.fact 12 (f := .glo "NoDirection") rfl),
    He.glo_ok X G (c.fact 13 (f := .glo "NoLine") rfl),
    He.glo_ok X G (c.fact 14 (f := .glo "NoRow") rfl),
    He.glo_ok X G (c.fact 15 (f := .glo "NoName") rfl),
    He.glo_ok X G (c.fact 16 (f := .glo "NoQuestion") rfl),
    He.glo_ok X G (c.fact 17 (f := .glo "NoShares") rfl),
    He.glo_ok X G (c.fact 18 (f := .glo "NoCuts") rfl),
    He.glo_ok X G (c.fact 19 (f := .glo "NoCut") rfl),
    He.glo_ok X G (c.fact 20 (f := .glo "NoRegion") rfl),
    He.glo_ok X G (c.fact 21 (f := .glo "NoTile") rfl),
    He.glo_ok X G (c.fact 22 (f := .glo "NoBlock") rfl),
    He.glo_ok X G (c.fact 23 (f := .glo "NoDeed") rfl),
    He.glo_ok X G (c.fact 24 (f := .glo "NoText") rfl),
    He.glo_ok X G (c.fact 25 (f := .glo "TooMany") rfl),
    He.glo_ok X G (c.fact 26 (f := .glo "NoTelling") rfl),
    He.glo_ok X G (c.fact 27 (f := .glo "LackError") rfl),
    He.glo_ok X G (c.fact 28 (f := .glo "NoMoment") rfl),
    He.glo_ok X G (c.fact 29 (f := .glo "NoNumber") rfl),
    He.glo_ok X G (c.fact 30 (f := .glo "NoHouse") rfl),
    He.glo_ok X G (c.fact 31 (f := .glo "NoKept") rfl),
    He.free_ok X G (c.fact 32 (f := .free "len") rfl),
    He.free_ok X G (c.fact 33 (f := .free "abs") rfl),
    He.free_ok X G (c.fact 34 (f := .free "int") rfl),
    He.free_ok X G (c.fact 35 (f := .free "isinstance") rfl),
    He.free_ok X G (c.fact 36 (f := .free "range") rfl),
    He.free_ok X G (c.fact 37 (f := .free "max") rfl),
    He.free_ok X G (c.fact 38 (f := .free "ValueError") rfl),
    He.free_ok X G (c.fact 39 (f := .free "min") rfl),
    He.free_ok X G (c.fact 40 (f := .free "repr") rfl),
    He.free_ok X G (c.fact 41 (f := .free "LookupError") rfl),
    (He.exc_ok (c.fact 42 (f := .exc "NoBlock") rfl)).1,
    (He.exc_ok (c.fact 42 (f := .exc "NoBlock") rfl)).2.1,
    (He.exc_ok (c.fact 42 (f := .exc "NoBlock") rfl)).2.2.1,
    (He.exc_ok (c.fact 42 (f := .exc "NoBlock") rfl)).2.2.2,
    (He.exc_ok (c.fact 43 (f := .exc "NoCut") rfl)).1,
    (He.exc_ok (c.fact 43 (f := .exc "NoCut") rfl)).2.1,
    (He.exc_ok (c.fact 43 (f := .exc "NoCut") rfl)).2.2.1,
    (He.exc_ok (c.fact 43 (f := .exc "NoCut") rfl)).2.2.2,
    (He.exc_ok (c.fact 44 (f := .exc "NoCuts") rfl)).1,
    (He.exc_ok (c.fact 44 (f := .exc "NoCuts") rfl)).2.1,
    (He.exc_ok (c.fact 44 (f := .exc "NoCuts") rfl)).2.2.1,
    (He.exc_ok (c.fact 44 (f := .exc "NoCuts") rfl)).2.2.2,
    (He.exc_ok (c.fact 45 (f := .exc "NoDeed") rfl)).1,
    (He.exc_ok (c.fact 45 (f := .exc "NoDeed") rfl)).2.1,
    (He.exc_ok (c.fact 45 (f := .exc "NoDeed") rfl)).2.2.1,
    (He.exc_ok (c.fact 45 (f := .exc "NoDeed") rfl)).2.2.2,
    (He.exc_ok (c.fact 46 (f := .exc "NoDirection") rfl)).1,
    (He.exc_ok (c.fact 46 (f := .exc "NoDirection") rfl)).2.1,
    (He.exc_ok (c.fact 46 (f := .exc "NoDirection") rfl)).2.2.1,
    (He.exc_ok (c.fact 46 (f := .exc "NoDirection") rfl)).2.2.2,
    (He.exc_ok (c.fact 47 (f := .exc "NoFraction") rfl)).1,
    (He.exc_ok (c.fact 47 (f := .exc "NoFraction") rfl)).2.1,
    (He.exc_ok (c.fact 47 (f := .exc "NoFraction") rfl)).2.2.1,
    (He.exc_ok (c.fact 47 (f := .exc "NoFraction") rfl)).2.2.2,
    (He.exc_ok (c.fact 48 (f := .exc "NoLine") rfl)).1,
    (He.exc_ok (c.fact 48 (f := .exc "NoLine") rfl)).2.1,
    (He.exc_ok (c.fact 48 (f := .exc "NoLine") rfl)).2.2.1,
    (He.exc_ok (c.fact 48 (f := .exc "NoLine") rfl)).2.2.2,
    (He.exc_ok (c.fact 49 (f := .exc "NoName") rfl)).1,
    (He.exc_ok (c.fact 49 (f := .exc "NoName") rfl)).2.1,
    (He.exc_ok (c.fact 49 (f := .exc "NoName") rfl)).2.2.1,
    (He.exc_ok (c.fact 49 (f := .exc "NoName") rfl)).2.2.2,
    (He.exc_ok (c.fact 50 (f := .exc "NoPlace") rfl)).1,
    (He.exc_ok (c.fact 50 (f := .exc "NoPlace") rfl)).2.1,
    (He.exc_ok (c.fact 50 (f := .exc "NoPlace") rfl)).2.2.1,
    (He.exc_ok (c.fact 50 (f := .exc "NoPlace") rfl)).2.2.2,
    (He.exc_ok (c.fact 51 (f := .exc "NoQuestion") rfl)).1,
    (He.exc_ok (c.fact 51 (f := .exc "NoQuestion") rfl)).2.1,
    (He.exc_ok (c.fact 51 (f := .exc "NoQuestion") rfl)).2.2.1,
    (He.exc_ok (c.fact 51 (f := .exc "NoQuestion") rfl)).2.2.2,
    (He.exc_ok (c.fact 52 (f := .exc "NoRegion") rfl)).1,
    (He.exc_ok (c.fact 52 (f := .exc "NoRegion") rfl)).2.1,
    (He.exc_ok (c.fact 52 (f := .exc "NoRegion") rfl)).2.2.1,
    (He.exc_ok (c.fact 52 (f := .exc "NoRegion") rfl)).2.2.2,
    (He.exc_ok (c.fact 53 (f := .exc "NoRing") rfl)).1,
    (He.exc_ok (c.fact 53 (f := .exc "NoRing") rfl)).2.1,
    (He.exc_ok (c.fact 53 (f := .exc "NoRing") rfl)).2.2.1,
    (He.exc_ok (c.fact 53 (f := .exc "NoRing") rfl)).2.2.2,
    (He.exc_ok (c.fact 54 (f := .exc "NoRow") rfl)).1,
    (He.exc_ok (c.fact 54 (f := .exc "NoRow") rfl)).2.1,
    (He.exc_ok (c.fact 54 (f := .exc "NoRow") rfl)).2.2.1,
    (He.exc_ok (c.fact 54 (f := .exc "NoRow") rfl)).2.2.2,
    (He.exc_ok (c.fact 55 (f := .exc "NoShares") rfl)).1,
    (He.exc_ok (c.fact 55 (f := .exc "NoShares") rfl)).2.1,
    (He.exc_ok (c.fact 55 (f := .exc "NoShares") rfl)).2.2.1,
    (He.exc_ok (c.fact 55 (f := .exc "NoShares") rfl)).2.2.2,
    (He.exc_ok (c.fact 56 (f := .exc "NoSpell") rfl)).1,
    (He.exc_ok (c.fact 56 (f := .exc "NoSpell") rfl)).2.1,
    (He.exc_ok (c.fact 56 (f := .exc "NoSpell") rfl)).2.2.1,
    (He.exc_ok (c.fact 56 (f := .exc "NoSpell") rfl)).2.2.2,
    (He.exc_ok (c.fact 57 (f := .exc "NoSteps") rfl)).1,
    (He.exc_ok (c.fact 57 (f := .exc "NoSteps") rfl)).2.1,
    (He.exc_ok (c.fact 57 (f := .exc "NoSteps") rfl)).2.2.1,
    (He.exc_ok (c.fact 57 (f := .exc "NoSteps") rfl)).2.2.2,
    (He.exc_ok (c.fact 58 (f := .exc "NoText") rfl)).1,
    (He.exc_ok (c.fact 58 (f := .exc "NoText") rfl)).2.1,
    (He.exc_ok (c.fact 58 (f := .exc "NoText") rfl)).2.2.1,
    (He.exc_ok (c.fact 58 (f := .exc "NoText") rfl)).2.2.2,
    (He.exc_ok (c.fact 59 (f := .exc "NoTile") rfl)).1,
    (He.exc_ok (c.fact 59 (f := .exc "NoTile") rfl)).2.1,
    (He.exc_ok (c.fact 59 (f := .exc "NoTile") rfl)).2.2.1,
    (He.exc_ok (c.fact 59 (f := .exc "NoTile") rfl)).2.2.2,
    (He.exc_ok (c.fact 60 (f := .exc "TooMany") rfl)).1,
    (He.exc_ok (c.fact 60 (f := .exc "TooMany") rfl)).2.1,
    (He.exc_ok (c.fact 60 (f := .exc "TooMany") rfl)).2.2.1,
    (He.exc_ok (c.fact 60 (f := .exc "TooMany") rfl)).2.2.2,
    (He.exc_ok (c.fact 61 (f := .exc "WhereError") rfl)).1,
    (He.exc_ok (c.fact 61 (f := .exc "WhereError") rfl)).2.1,
    (He.exc_ok (c.fact 61 (f := .exc "WhereError") rfl)).2.2.1,
    (He.exc_ok (c.fact 61 (f := .exc "WhereError") rfl)).2.2.2,
    c.def_ 0 (d := d_law_pot) rfl,
    c.def_ 1 (d := d_law_take) rfl,
    c.def_ 2 (d := d_law_made) rfl,
    c.def_ 3 (d := d_law_marks) rfl,
    c.def_ 4 (d := d_law_kept) rfl,
    c.def_ 5 (d := dlaw) rfl,
    c.def_ 6 (d := d_ox_NoHouse) rfl,
    c.def_ 7 (d := d_ox_NoKept) rfl,
    c.def_ 8 (d := d_ox_NoMoment) rfl,
    c.def_ 9 (d := d_ox_NoNumber) rfl,
    c.def_ 10 (d := d_ox_NoTelling) rfl,
    e0,
    e1,
    e2,
    e3,
    e4,
    e5,
    e6,
    e7⟩
end K01
end
section
set_option Elab.async false
set_option linter.all false
set_option autoImplicit false
set_option maxRecDepth 100000
set_option maxHeartbeats 4000000
open PySem PySem.Spec PyProof.Rows L2
namespace K01
open MI
noncomputable section
variable {P : Program} {w : World} {K : PySem.W.Frag} {mg : Str → Option Value} {base : Heap}
theorem gO_NoHouse (T : Txt K mg) : GoodO P w K mg base "NoHouse" "house" := by
  obtain ⟨fd, F⟩ := T.F_ox_NoHouse
  obtain ⟨o1, o2, o3⟩ := ox_of T.oxf_NoHouse
  have bn : Binds K fd ["self", "house"] [] := F.bindsN fun _ _ _ _ _ _ us hl => match us, hl with | [_, _], _ => rfl
  exact ⟨_, fd, "house", _, T.g_NoHouse, o1, o2, o3, fn_ox (b := "LackError") F ⟨rfl, rfl, rfl, by decide +kernel, rfl, by decide +kernel, by decide +kernel⟩ (ini_of T.ini_LackError) T.g_LackError (by decide +kernel) (by decide +kernel) (by decide +kernel) (by decide) (by decide) (by decide) (fun _ => rfl), bn⟩
theorem gO_NoKept (T : Txt K mg) : GoodO P w K mg base "NoKept" "number" := by
  obtain ⟨fd, F⟩ := T.F_ox_NoKept
  obtain ⟨o1, o2, o3⟩ := ox_of T.oxf_NoKept
  have bn : Binds K fd ["self", "number"] [] := F.bindsN fun _ _ _ _ _ _ us hl => match us, hl with | [_, _], _ => rfl
  exact ⟨_, fd, "number", _, T.g_NoKept, o1, o2, o3, fn_ox (b := "LackError") F ⟨rfl, rfl, rfl, by decide +kernel, rfl, by decide +kernel, by decide +kernel⟩ (ini_of T.ini_LackError) T.g_LackError (by decide +kernel) (by decide +kernel) (by decide +kernel) (by decide) (by decide) (by decide) (fun _ => rfl), bn⟩
theorem gO_NoMoment (T : Txt K mg) : GoodO P w K mg base "NoMoment" "moment" := by
  obtain ⟨fd, F⟩ := T.F_ox_NoMoment
  obtain ⟨o1, o2, o3⟩ := ox_of T.oxf_NoMoment
  have bn : Binds K fd ["self", "moment"] [] := F.bindsN fun _ _ _ _ _ _ us hl => match us, hl with | [_, _], _ => rfl
  exact ⟨_, fd, "moment", _, T.g_NoMoment, o1, o2, o3, fn_ox (b := "LackError") F ⟨rfl, rfl, rfl, by decide +kernel, rfl, by decide +kernel, by decide +kernel⟩ (ini_of T.ini_LackError) T.g_LackError (by decide +kernel) (by decide +kernel) (by decide +kernel) (by decide) (by decide) (by decide) (fun _ => rfl), bn⟩
theorem gO_NoNumber (T : Txt K mg) : GoodO P w K mg base "NoNumber" "number" := by
  obtain ⟨fd, F⟩ := T.F_ox_NoNumber
  obtain ⟨o1, o2, o3⟩ := ox_of T.oxf_NoNumber
  have bn : Binds K fd ["self", "number"] [] := F.bindsN fun _ _ _ _ _ _ us hl => match us, hl with | [_, _], _ => rfl
  exact ⟨_, fd, "number", _, T.g_NoNumber, o1, o2, o3, fn_ox (b := "LackError") F ⟨rfl, rfl, rfl, by decide +kernel, rfl, by decide +kernel, by decide +kernel⟩ (ini_of T.ini_LackError) T.g_LackError (by decide +kernel) (by decide +kernel) (by decide +kernel) (by decide) (by decide) (by decide) (fun _ => rfl), bn⟩
theorem gO_NoTelling (T : Txt K mg) : GoodO P w K mg base "NoTelling" "number" := by
  obtain ⟨fd, F⟩ := T.F_ox_NoTelling
  obtain ⟨o1, o2, o3⟩ := ox_of T.oxf_NoTelling
  have bn : Binds K fd ["self", "number"] [] := F.bindsN fun _ _ _ _ _ _ us hl => match us, hl with | [_, _], _ => rfl
  exact ⟨_, fd, "number", _, T.g_NoTelling, o1, o2, o3, fn_ox (b := "WhereError") F ⟨rfl, rfl, rfl, by decide +kernel, rfl, by decide +kernel, by decide +kernel⟩ (ini_of T.ini_WhereError) T.g_WhereError (by decide +kernel) (by decide +kernel) (by decide +kernel) (by decide) (by decide) (by decide) (fun _ => rfl), bn⟩
theorem sc_law_pot : FnScope ["script", "k", "cell"] ["script", "k"] (defScope s_law_pot) := ⟨rfl, rfl, rfl, by decide +kernel, rfl, by decide +kernel, by decide +kernel⟩
theorem g_law_pot (T : Txt K mg) : Good P w K mg base 1 "_law_pot" ["script", "k"] S__law_pot := by
  obtain ⟨fd, F⟩ := T.F__law_pot
  have bn : Binds K fd ["script", "k"] [] := F.bindsN fun _ _ _ _ _ _ us hl => match us, hl with | [_, _], _ => rfl
  refine ⟨_, fd, T.g__law_pot, funD_G (k := 0) F sc_law_pot fun cdv A outer s H E hr wh => ?_, F.kp, bn⟩
  exact m_seq (m_set 2 wh.nd (m_int)) (m_seq (m_ifs (m_lt (m_var 1) (m_len T.z_len (m_cons (m_var 0) (m_nil)))) (m_seq (m_set 2 wh.nd (m_mod (m_abs T.z_abs (m_cons (m_ix (m_var 0) (m_var 1)) (m_nil))) (m_pow (m_pow (m_int) (m_int)) (m_int)))) (m_end)) (m_end)) (m_seq (m_ret (m_lst (m_cons (m_mul (m_var 2) (m_intc T.z_int (m_cons (m_geV (m_var 2) (m_pow (m_int) (m_int))) (m_nil)))) (m_cons (m_mod (m_pow (m_add (m_add (m_mod (m_var 2) (m_int)) (m_mul (m_int) (m_var 1))) (m_int)) (m_int)) (m_int)) (m_cons (m_int) (m_nil)))))) (m_end)))
theorem sc_law_take : FnScope ["pot", "many", "found", "one", "other"] ["pot", "many"] (defScope s_law_take) := ⟨rfl, rfl, rfl, by decide +kernel, rfl, by decide +kernel, by decide +kernel⟩
theorem g_law_take (T : Txt K mg) : Good P w K mg base 1 "_law_take" ["pot", "many"] S__law_take := by
  obtain ⟨fd, F⟩ := T.F__law_take
  have bn : Binds K fd ["pot", "many"] [] := F.bindsN fun _ _ _ _ _ _ us hl => match us, hl with | [_, _], _ => rfl
  refine ⟨_, fd, T.g__law_take, funD_G (k := 0) F sc_law_take fun cdv A outer s H E hr wh => ?_, F.kp, bn⟩
  exact m_seq (m_ifs (m_gt (m_ix (m_var 0) (m_int)) (m_int)) (m_seq (m_set 2 wh.nd (m_mod (m_ix (m_var 0) (m_int)) (m_var 1))) (m_seq (m_put (m_fdiv (m_ix (m_var 0) (m_int)) (m_var 1)) (m_var 0) (m_int) (fun _ => rfl)) (m_seq (m_ret (m_var 2)) (m_end)))) (m_end)) (m_seq (m_put (m_add (m_ix (m_var 0) (m_int)) (m_int)) (m_var 0) (m_int) (fun _ => rfl)) (m_seq (m_set 3 wh.nd (m_mod (m_pow (m_add (m_ix (m_var 0) (m_int)) (m_mul (m_int) (m_ix (m_var 0) (m_int)))) (m_int)) (m_int))) (m_seq (m_set 4 wh.nd (m_mod (m_pow (m_add (m_add (m_var 3) (m_mod (m_ix (m_var 0) (m_int)) (m_int))) (m_mul (m_int) (m_ix (m_var 0) (m_int)))) (m_int)) (m_int))) (m_seq (m_ret (m_mod (m_fdiv (m_var 4) (m_int)) (m_var 1))) (m_end)))))
theorem sc_law_made : FnScope ["text", "thing", "made"] ["text", "thing"] (defScope s_law_made) := ⟨rfl, rfl, rfl, by decide +kernel, rfl, by decide +kernel, by decide +kernel⟩
def b_law_made : Ss := sSeq (sAsg (eLst (aCons (eMkX "NoFraction" (eV 0)) (aCons (eMkX "NoSpell" (eV 0)) (aCons (eMkX "NoSteps" (eV 0)) (aCons (eMkX "NoRing" (eV 0)) (aCons (eMkX "NoPlace" (eV 0)) (aCons (eMkX "NoDirection" (eV 0)) (aNil)))))))) (tgN 2)) (sSeq (sAsg (eOp dAdd (eV 2) (eLst (aCons (eMkX "NoLine" (eV 0)) (aCons (eMkX "NoRow" (eV 0)) (aCons (eMkX "NoName" (eV 0)) (aCons (eMkX "NoQuestion" (eV 0)) (aCons (eMkX "NoShares" (eV 0)) (aCons (eMkX "NoCuts" (eV 0)) (aNil))))))))) (tgN 2)) (sSeq (sAsg (eOp dAdd (eV 2) (eLst (aCons (eMkX "NoCut" (eV 0)) (aCons (eMkX "NoRegion" (eV 0)) (aCons (eMkX "NoTile" (eV 0)) (aCons (eMkX "NoBlock" (eV 0)) (aCons (eMkX "NoDeed" (eV 0)) (aCons (eMkX "NoText" (eV 0)) (aCons (eMkX "TooMany" (eV 0)) (aNil)))))))))) (tgN 2)) (sSeq (sRet (eOp dAdd (eV 2) (eLst (aCons (eMkO "NoTelling" "number" (eV 1)) (aCons (eMkO "NoMoment" "moment" (eV 1)) (aCons (eMkO "NoNumber" "number" (eV 1)) (aCons (eMkO "NoHouse" "house" (eV 1)) (aCons (eMkO "NoKept" "number" (eV 1)) (aNil))))))))) (sEnd))))
def f_law_made : Sf := ofBody 2 1 b_law_made
theorem g_law_made (T : Txt K mg) : Good P w K mg base 3 "_law_made" ["text", "thing"] f_law_made := by
  obtain ⟨fd, F⟩ := T.F__law_made
  have bn : Binds K fd ["text", "thing"] [] := F.bindsN fun _ _ _ _ _ _ us hl => match us, hl with | [_, _], _ => rfl
  have GONoHouse := gO_NoHouse (P := P) (w := w) (base := base) T
  have GONoKept := gO_NoKept (P := P) (w := w) (base := base) T
  have GONoMoment := gO_NoMoment (P := P) (w := w) (base := base) T
  have GONoNumber := gO_NoNumber (P := P) (w := w) (base := base) T
  have GONoTelling := gO_NoTelling (P := P) (w := w) (base := base) T
  refine ⟨_, fd, T.g__law_made, funD_G (k := 2) F sc_law_made fun cdv A outer s H E hr wh => ?_, F.kp, bn⟩
  exact m_seq (m_set 2 wh.nd (m_lst (m_cons (m_mkx PySem.F.excBase_ValueError T.ex_NoFraction T.g_NoFraction T.kp_NoFraction (m_var 0)) (m_cons (m_mkx PySem.F.excBase_ValueError T.ex_NoSpell T.g_NoSpell T.kp_NoSpell (m_var 0)) (m_cons (m_mkx PySem.F.excBase_ValueError T.ex_NoSteps T.g_NoSteps T.kp_NoSteps (m_var 0)) (m_cons (m_mkx PySem.F.excBase_ValueError T.ex_NoRing T.g_NoRing T.kp_NoRing (m_var 0)) (m_cons (m_mkx PySem.F.excBase_ValueError T.ex_NoPlace T.g_NoPlace T.kp_NoPlace (m_var 0)) (m_cons (m_mkx PySem.F.excBase_ValueError T.ex_NoDirection T.g_NoDirection T.kp_NoDirection (m_var 0)) (m_nil))))))))) (m_seq (m_set 2 wh.nd (m_add (m_var 2) (m_lst (m_cons (m_mkx PySem.F.excBase_ValueError T.ex_NoLine T.g_NoLine T.kp_NoLine (m_var 0)) (m_cons (m_mkx PySem.F.excBase_ValueError T.ex_NoRow T.g_NoRow T.kp_NoRow (m_var 0)) (m_cons (m_mkx PySem.F.excBase_ValueError T.ex_NoName T.g_NoName T.kp_NoName (m_var 0)) (m_cons (m_mkx PySem.F.excBase_ValueError T.ex_NoQuestion T.g_NoQuestion T.kp_NoQuestion (m_var 0)) (m_cons (m_mkx PySem.F.excBase_ValueError T.ex_NoShares T.g_NoShares T.kp_NoShares (m_var 0)) (m_cons (m_mkx PySem.F.excBase_ValueError T.ex_NoCuts T.g_NoCuts T.kp_NoCuts (m_var 0)) (m_nil)))))))))) (m_seq (m_set 2 wh.nd (m_add (m_var 2) (m_lst (m_cons (m_mkx PySem.F.excBase_ValueError T.ex_NoCut T.g_NoCut T.kp_NoCut (m_var 0)) (m_cons (m_mkx PySem.F.excBase_ValueError T.ex_NoRegion T.g_NoRegion T.kp_NoRegion (m_var 0)) (m_cons (m_mkx PySem.F.excBase_ValueError T.ex_NoTile T.g_NoTile T.kp_NoTile (m_var 0)) (m_cons (m_mkx PySem.F.excBase_ValueError T.ex_NoBlock T.g_NoBlock T.kp_NoBlock (m_var 0)) (m_cons (m_mkx PySem.F.excBase_ValueError T.ex_NoDeed T.g_NoDeed T.kp_NoDeed (m_var 0)) (m_cons (m_mkx PySem.F.excBase_ValueError T.ex_NoText T.g_NoText T.kp_NoText (m_var 0)) (m_cons (m_mkx PySem.F.excBase_ValueError T.ex_TooMany T.g_TooMany T.kp_TooMany (m_var 0)) (m_nil))))))))))) (m_seq (m_ret (m_add (m_var 2) (m_lst (m_cons (m_mkO GONoTelling hr (by omega) (m_var 1)) (m_cons (m_mkO GONoMoment hr (by omega) (m_var 1)) (m_cons (m_mkO GONoNumber hr (by omega) (m_var 1)) (m_cons (m_mkO GONoHouse hr (by omega) (m_var 1)) (m_cons (m_mkO GONoKept hr (by omega) (m_var 1)) (m_nil))))))))) (m_end))))
theorem sc_law_marks : FnScope ["one", "found"] ["one"] (defScope s_law_marks) := ⟨rfl, rfl, rfl, by decide +kernel, rfl, by decide +kernel, by decide +kernel⟩
def b_law_marks : Ss := sSeq (sAsg (eLst (aCons (eIsX (tbX CS ["NoFraction"]) (eV 0)) (aCons (eIsX (tbX CS ["NoSpell"]) (eV 0)) (aCons (eIsX (tbX CS ["NoSteps"]) (eV 0)) (aCons (eIsX (tbX CS ["NoRing"]) (eV 0)) (aNil)))))) (tgN 1)) (sSeq (sAsg (eOp dAdd (eV 1) (eLst (aCons (eIsX (tbX CS ["NoPlace"]) (eV 0)) (aCons (eIsX (tbX CS ["NoDirection"]) (eV 0)) (aCons (eIsX (tbX CS ["NoLine"]) (eV 0)) (aNil)))))) (tgN 1)) (sSeq (sAsg (eOp dAdd (eV 1) (eLst (aCons (eIsX (tbX CS ["NoRow"]) (eV 0)) (aCons (eIsX (tbX CS ["NoName"]) (eV 0)) (aCons (eIsX (tbX CS ["NoQuestion"]) (eV 0)) (aNil)))))) (tgN 1)) (sSeq (sAsg (eOp dAdd (eV 1) (eLst (aCons (eIsX (tbX CS ["NoShares"]) (eV 0)) (aCons (eIsX (tbX CS ["NoCuts"]) (eV 0)) (aCons (eIsX (tbX CS ["NoCut"]) (eV 0)) (aNil)))))) (tgN 1)) (sSeq (sAsg (eOp dAdd (eV 1) (eLst (aCons (eIsX (tbX CS ["NoRegion"]) (eV 0)) (aCons (eIsX (tbX CS ["NoTile"]) (eV 0)) (aCons (eIsX (tbX CS ["NoBlock"]) (eV 0)) (aNil)))))) (tgN 1)) (sSeq (sAsg (eOp dAdd (eV 1) (eLst (aCons (eIsX (tbX CS ["NoDeed"]) (eV 0)) (aCons (eIsX (tbX CS ["NoText"]) (eV 0)) (aCons (eIsX (tbX CS ["TooMany"]) (eV 0)) (aNil)))))) (tgN 1)) (sSeq (sAsg (eOp dAdd (eV 1) (eLst (aCons (eIsX (tbX CS ["NoTelling"]) (eV 0)) (aCons (eIsX (tbX CS ["NoMoment"]) (eV 0)) (aCons (eIsX (tbX CS ["NoNumber"]) (eV 0)) (aNil)))))) (tgN 1)) (sSeq (sRet (eOp dAdd (eV 1) (eLst (aCons (eIsX (tbX CS ["NoHouse"]) (eV 0)) (aCons (eIsX (tbX CS ["NoKept"]) (eV 0)) (aNil)))))) (sEnd))))))))
def f_law_marks : Sf := ofBody 1 1 b_law_marks
theorem g_law_marks (T : Txt K mg) : Good P w K mg base 1 "_law_marks" ["one"] f_law_marks := by
  obtain ⟨fd, F⟩ := T.F__law_marks
  have bn : Binds K fd ["one"] [] := F.bindsN fun _ _ _ _ _ _ us hl => match us, hl with | [_], _ => rfl
  refine ⟨_, fd, T.g__law_marks, funD_G (k := 0) F sc_law_marks fun cdv A outer s H E hr wh => ?_, F.kp, bn⟩
  exact m_seq (m_set 1 wh.nd (m_lst (m_cons (m_isX (tb := tbX CS ["NoFraction"]) T.z_isinstance (m_var 0) (m_cls T.g_NoFraction) rfl (tb_one T.xt (by decide) rfl)) (m_cons (m_isX (tb := tbX CS ["NoSpell"]) T.z_isinstance (m_var 0) (m_cls T.g_NoSpell) rfl (tb_one T.xt (by decide) rfl)) (m_cons (m_isX (tb := tbX CS ["NoSteps"]) T.z_isinstance (m_var 0) (m_cls T.g_NoSteps) rfl (tb_one T.xt (by decide) rfl)) (m_cons (m_isX (tb := tbX CS ["NoRing"]) T.z_isinstance (m_var 0) (m_cls T.g_NoRing) rfl (tb_one T.xt (by decide) rfl)) (m_nil))))))) (m_seq (m_set 1 wh.nd (m_add (m_var 1) (m_lst (m_cons (m_isX (tb := tbX CS ["NoPlace"]) T.z_isinstance (m_var 0) (m_cls T.g_NoPlace) rfl (tb_one T.xt (by decide) rfl)) (m_cons (m_isX (tb := tbX CS ["NoDirection"]) T.z_isinstance (m_var 0) (m_cls T.g_NoDirection) rfl (tb_one T.xt (by decide) rfl)) (m_cons (m_isX (tb := tbX CS ["NoLine"]) T.z_isinstance (m_var 0) (m_cls T.g_NoLine) rfl (tb_one T.xt (by decide) rfl)) (m_nil))))))) (m_seq (m_set 1 wh.nd (m_add (m_var 1) (m_lst (m_cons (m_isX (tb := tbX CS ["NoRow"]) T.z_isinstance (m_var 0) (m_cls T.g_NoRow) rfl (tb_one T.xt (by decide) rfl)) (m_cons (m_isX (tb := tbX CS ["NoName"]) T.z_isinstance (m_var 0) (m_cls T.g_NoName) rfl (tb_one T.xt (by decide) rfl)) (m_cons (m_isX (tb := tbX CS ["NoQuestion"]) T.z_isinstance (m_var 0) (m_cls T.g_NoQuestion) rfl (tb_one T.xt (by decide) rfl)) (m_nil))))))) (m_seq (m_set 1 wh.nd (m_add (m_var 1) (m_lst (m_cons (m_isX (tb := tbX CS ["NoShares"]) T.z_isinstance (m_var 0) (m_cls T.g_NoShares) rfl (tb_one T.xt (by decide) rfl)) (m_cons (m_isX (tb := tbX CS ["NoCuts"]) T.z_isinstance (m_var 0) (m_cls T.g_NoCuts) rfl (tb_one T.xt (by decide) rfl)) (m_cons (m_isX (tb := tbX CS ["NoCut"]) T.z_isinstance (m_var 0) (m_cls T.g_NoCut) rfl (tb_one T.xt (by decide) rfl)) (m_nil))))))) (m_seq (m_set 1 wh.nd (m_add (m_var 1) (m_lst (m_cons (m_isX (tb := tbX CS ["NoRegion"]) T.z_isinstance (m_var 0) (m_cls T.g_NoRegion) rfl (tb_one T.xt (by decide) rfl)) (m_cons (m_isX (tb := tbX CS ["NoTile"]) T.z_isinstance (m_var 0) (m_cls T.g_NoTile) rfl (tb_one T.xt (by decide) rfl)) (m_cons (m_isX (tb := tbX CS ["NoBlock"]) T.z_isinstance (m_var 0) (m_cls T.g_NoBlock) rfl (tb_one T.xt (by decide) rfl)) (m_nil))))))) (m_seq (m_set 1 wh.nd (m_add (m_var 1) (m_lst (m_cons (m_isX (tb := tbX CS ["NoDeed"]) T.z_isinstance (m_var 0) (m_cls T.g_NoDeed) rfl (tb_one T.xt (by decide) rfl)) (m_cons (m_isX (tb := tbX CS ["NoText"]) T.z_isinstance (m_var 0) (m_cls T.g_NoText) rfl (tb_one T.xt (by decide) rfl)) (m_cons (m_isX (tb := tbX CS ["TooMany"]) T.z_isinstance (m_var 0) (m_cls T.g_TooMany) rfl (tb_one T.xt (by decide) rfl)) (m_nil))))))) (m_seq (m_set 1 wh.nd (m_add (m_var 1) (m_lst (m_cons (m_isX (tb := tbX CS ["NoTelling"]) T.z_isinstance (m_var 0) (m_cls T.g_NoTelling) rfl (tb_one T.xt (by decide) rfl)) (m_cons (m_isX (tb := tbX CS ["NoMoment"]) T.z_isinstance (m_var 0) (m_cls T.g_NoMoment) rfl (tb_one T.xt (by decide) rfl)) (m_cons (m_isX (tb := tbX CS ["NoNumber"]) T.z_isinstance (m_var 0) (m_cls T.g_NoNumber) rfl (tb_one T.xt (by decide) rfl)) (m_nil))))))) (m_seq (m_ret (m_add (m_var 1) (m_lst (m_cons (m_isX (tb := tbX CS ["NoHouse"]) T.z_isinstance (m_var 0) (m_cls T.g_NoHouse) rfl (tb_one T.xt (by decide) rfl)) (m_cons (m_isX (tb := tbX CS ["NoKept"]) T.z_isinstance (m_var 0) (m_cls T.g_NoKept) rfl (tb_one T.xt (by decide) rfl)) (m_nil)))))) (m_end))))))))
theorem sc_law_kept : FnScope ["made"] ["made"] (defScope s_law_kept) := ⟨rfl, rfl, rfl, by decide +kernel, rfl, by decide +kernel, by decide +kernel⟩
def b_law_kept : Ss := sSeq (sRet (eLst (aCons (eXf ["NoKept", "NoNumber", "NoTelling"] "number" (eOp dIx (eV 0) (eK (.int 19)))) (aCons (eXf ["NoMoment"] "moment" (eOp dIx (eV 0) (eK (.int 20)))) (aCons (eXf ["NoKept", "NoNumber", "NoTelling"] "number" (eOp dIx (eV 0) (eK (.int 21)))) (aCons (eXf ["NoHouse"] "house" (eOp dIx (eV 0) (eK (.int 22)))) (aCons (eXf ["NoKept", "NoNumber", "NoTelling"] "number" (eOp dIx (eV 0) (eK (.int 23)))) (aNil)))))))) (sEnd)
def f_law_kept : Sf := ofBody 1 0 b_law_kept
theorem g_law_kept (T : Txt K mg) : Good P w K mg base 1 "_law_kept" ["made"] f_law_kept := by
  obtain ⟨fd, F⟩ := T.F__law_kept
  have bn : Binds K fd ["made"] [] := F.bindsN fun _ _ _ _ _ _ us hl => match us, hl with | [_], _ => rfl
  refine ⟨_, fd, T.g__law_kept, funD_G (k := 0) F sc_law_kept fun cdv A outer s H E hr wh => ?_, F.kp, bn⟩
  exact m_seq (m_ret (m_lst (m_cons (m_xf (m_ix (m_var 0) (m_int)) (xf_cons T.xt (by decide) T.oxf_NoKept (xf_cons T.xt (by decide) T.oxf_NoNumber (xf_cons T.xt (by decide) T.oxf_NoTelling xf_nil)))) (m_cons (m_xf (m_ix (m_var 0) (m_int)) (xf_cons T.xt (by decide) T.oxf_NoMoment xf_nil)) (m_cons (m_xf (m_ix (m_var 0) (m_int)) (xf_cons T.xt (by decide) T.oxf_NoKept (xf_cons T.xt (by decide) T.oxf_NoNumber (xf_cons T.xt (by decide) T.oxf_NoTelling xf_nil)))) (m_cons (m_xf (m_ix (m_var 0) (m_int)) (xf_cons T.xt (by decide) T.oxf_NoHouse xf_nil)) (m_cons (m_xf (m_ix (m_var 0) (m_int)) (xf_cons T.xt (by decide) T.oxf_NoKept (xf_cons T.xt (by decide) T.oxf_NoNumber (xf_cons T.xt (by decide) T.oxf_NoTelling xf_nil)))) (m_nil)))))))) (m_end)
def Lp0 : Ss := sSeq (sIf (bOr (bOf (eOp (dEqs true) (eIsX (tbX CS ["WhereError"]) (eOp dIx (eV 7) (eV 8))) (eOp dLt (eV 8) (eK (.int 20))))) (bOf (eOp (dEqs true) (eIsX (tbX CS ["ValueError"]) (eOp dIx (eV 7) (eV 8))) (eOp dLt (eV 8) (eK (.int 20)))))) (sSeq (sRet (eK (.bl false))) (sEnd)) (sEnd)) (sSeq (sIf (bOr (bOf (eOp (dEqs true) (eIsX (tbX CS ["LackError"]) (eOp dIx (eV 7) (eV 8))) (eOp dGt (eV 8) (eK (.int 19))))) (bOf (eOp (dEqs true) (eIsX (tbX CS ["LookupError"]) (eOp dIx (eV 7) (eV 8))) (eOp dGt (eV 8) (eK (.int 19)))))) (sSeq (sRet (eK (.bl false))) (sEnd)) (sEnd)) (sSeq (sIf (bOf (eOp (dEqs true) (eCall 1 f_law_marks (aCons (eOp dIx (eV 7) (eV 8)) (aNil))) (eComp (iRange (aCons (eK (.int 24)) (aNil))) [10] (tgN 10) (cYes) (eOp (dEqs false) (eV 10) (eV 8))))) (sSeq (sRet (eK (.bl false))) (sEnd)) (sEnd)) (sEnd)))
def Lp1 : Ss := sSeq (sAsg (eCall 2 S__law_pot (aCons (eV 0) (aCons (eV 1) (aNil)))) (tgN 2)) (sSeq (sAsg (eOp dIx (eLst (aCons (eK (.str "")) (aCons (eK (.str "a")) (aCons (eK (.str "no ring")) (aCons (eK (.str "0")) (aCons (eOp dMulS (eK (.str "x")) (eK (.int 60))) (aCons (eK (.str "two
rows")) (aNil)))))))) (eCall 2 S__law_take (aCons (eV 2) (aCons (eK (.int 6)) (aNil))))) (tgN 3)) (sSeq (sAsg (eLst (aCons (eK .non) (aCons (eK (.bl true)) (aCons (eK (.int (-1))) (aCons (eOp dPow (eK (.int 10)) (eK (.int 30))) (aCons (eK (.str "a")) (aCons (eK (.tup [])) (aCons (eK (.tup [.tup [.int 0, .int 1], .bl true])) (aCons (eLst (aCons (eK (.int 1)) (aNil))) (aCons (eDct1 "a" 1) (aCons (eK (.int 0)) (aCons (eK (.int 7)) (aNil))))))))))))) (tgN 4)) (sSeq (sAsg (eOp dIx (eV 4) (eCall 2 S__law_take (aCons (eV 2) (aCons (eK (.int 11)) (aNil))))) (tgN 5)) (sSeq (sAsg (eOp dIx (eV 4) (eCall 2 S__law_take (aCons (eV 2) (aCons (eK (.int 11)) (aNil))))) (tgN 6)) (sSeq (sAsg (eCall 2 f_law_made (aCons (eV 3) (aCons (eV 5) (aNil)))) (tgN 7)) (sSeq (sFor (tgN 8) (iRange (aCons (eK (.int 24)) (aNil))) (Lp0)) (sSeq (sAsg (eCall 1 f_law_kept (aCons (eCall 2 f_law_made (aCons (eV 3) (aCons (eV 6) (aNil)))) (aNil))) (tgN 9)) (sSeq (sIf (bOr (bOf (eOp (dEqs true) (eBi gReprL (aCons (eCall 1 f_law_kept (aCons (eV 7) (aNil))) (aNil))) (eBi gReprL (aCons (eOp dMul (eLst (aCons (eV 5) (aNil))) (eK (.int 5))) (aNil))))) (bOf (eOp (dEqs true) (eBi gReprL (aCons (eV 9) (aNil))) (eBi gReprL (aCons (eOp dMul (eLst (aCons (eV 6) (aNil))) (eK (.int 5))) (aNil)))))) (sSeq (sRet (eK (.bl false))) (sEnd)) (sEnd)) (sEnd)))))))))
theorem sclaw : FnScope ["script", "k", "pot", "text", "things", "thing", "other", "made", "at", "kept", "mark"] ["script"] (defScope slaw) := ⟨rfl, rfl, rfl, by decide +kernel, rfl, by decide +kernel, by decide +kernel⟩
def blaw : Ss := sSeq (sFor (tgN 1) (iRange (aCons (eBi gMax (aCons (eK (.int 1)) (aCons (eBi gMin (aCons (eK (.int 16)) (aCons (eBi gLen (aCons (eV 0) (aNil))) (aNil)))) (aNil)))) (aNil))) (Lp1)) (sSeq (sRet (eAnd (eIsX (tbX CS ["ValueError"]) (eMkX "WhereError" (eK (.str "a")))) (eNot (eIsX (tbX CS ["LookupError", "LackError"]) (eMkX "WhereError" (eK (.str "a"))))))) (sEnd))
def flaw : Sf := ofBody 1 10 blaw
theorem glaw (T : Txt K mg) {fd : FuncData} (F : FunD K "law" "law" (defArgs slaw) (defBody slaw) (defScope slaw) [] [] (He.ga K "law") fd) : FnG P w K mg base 4 (He.ga K "law") fd ["script"] flaw := by
  have G_law_kept := g_law_kept (P := P) (w := w) (base := base) T
  have G_law_made := g_law_made (P := P) (w := w) (base := base) T
  have G_law_marks := g_law_marks (P := P) (w := w) (base := base) T
  have G_law_pot := g_law_pot (P := P) (w := w) (base := base) T
  have G_law_take := g_law_take (P := P) (w := w) (base := base) T
  refine funD_G (k := 3) F sclaw fun cdv A outer s H E hr wh => ?_
  exact m_seq (m_for wh (m_range T.z_range (m_cons (m_max wh.calm T.z_max (m_cons (m_int) (m_cons (m_min wh.calm T.z_min (m_cons (m_int) (m_cons (m_len T.z_len (m_cons (m_var 0) (m_nil))) (m_nil)))) (m_nil)))) (m_nil))) (m_tgN 1 wh.nd) (m_seq (m_set 2 wh.nd (m_callG G_law_pot wh hr (by omega) (m_cons (m_var 0) (m_cons (m_var 1) (m_nil))))) (m_seq (m_set 3 wh.nd (m_ix (m_lst (m_cons (m_str) (m_cons (m_str) (m_cons (m_str) (m_cons (m_str) (m_cons (m_mulS (m_str) (m_int)) (m_cons (m_str) (m_nil)))))))) (m_callG G_law_take wh hr (by omega) (m_cons (m_var 2) (m_cons (m_int) (m_nil)))))) (m_seq (m_set 4 wh.nd (m_lst (m_cons (m_non) (m_cons (m_bl) (m_cons (m_lit (m_neg (m_int)) rfl) (m_cons (m_pow (m_int) (m_int)) (m_cons (m_str) (m_cons (m_lit (m_tup (m_nil)) rfl) (m_cons (m_lit (m_tup (m_cons (m_tup (m_cons (m_int) (m_cons (m_int) (m_nil)))) (m_cons (m_bl) (m_nil)))) rfl) (m_cons (m_lst (m_cons (m_int) (m_nil))) (m_cons (m_dct1) (m_cons (m_int) (m_cons (m_int) (m_nil)))))))))))))) (m_seq (m_set 5 wh.nd (m_ix (m_var 4) (m_callG G_law_take wh hr (by omega) (m_cons (m_var 2) (m_cons (m_int) (m_nil)))))) (m_seq (m_set 6 wh.nd (m_ix (m_var 4) (m_callG G_law_take wh hr (by omega) (m_cons (m_var 2) (m_cons (m_int) (m_nil)))))) (m_seq (m_set 7 wh.nd (m_callG G_law_made wh hr (by omega) (m_cons (m_var 3) (m_cons (m_var 5) (m_nil))))) (m_seq (m_for wh (m_range T.z_range (m_cons (m_int) (m_nil))) (m_tgN 8 wh.nd) (m_seq (m_ifs (m_w (m_or (m_ne hr.units (m_isX (tb := tbX CS ["WhereError"]) T.z_isinstance (m_ix (m_var 7) (m_var 8)) (m_cls T.g_WhereError) rfl (tb_one T.xt (by decide) rfl)) (m_ltV (m_var 8) (m_int))) (m_or1 (m_ne hr.units (m_isX (tb := tbX CS ["ValueError"]) T.z_isinstance (m_ix (m_var 7) (m_var 8)) (m_bty T.z_ValueError (by decide +kernel)) rfl (tb_one T.xt (by decide) rfl)) (m_ltV (m_var 8) (m_int)))))) (m_seq (m_ret (m_bl)) (m_end)) (m_end)) (m_seq (m_ifs (m_w (m_or (m_ne hr.units (m_isX (tb := tbX CS ["LackError"]) T.z_isinstance (m_ix (m_var 7) (m_var 8)) (m_cls T.g_LackError) rfl (tb_one T.xt (by decide) rfl)) (m_gtV (m_var 8) (m_int))) (m_or1 (m_ne hr.units (m_isX (tb := tbX CS ["LookupError"]) T.z_isinstance (m_ix (m_var 7) (m_var 8)) (m_bty T.z_LookupError (by decide +kernel)) rfl (tb_one T.xt (by decide) rfl)) (m_gtV (m_var 8) (m_int)))))) (m_seq (m_ret (m_bl)) (m_end)) (m_end)) (m_seq (m_ifs (m_ne hr.units (m_callG G_law_marks wh hr (by omega) (m_cons (m_ix (m_var 7) (m_var 8)) (m_nil))) (m_comp wh (m_range T.z_range (m_cons (m_int) (m_nil))) (blk_of (own := [("mark", 10)]) (by rfl)) (m_oN 10 wh.nd) (m_t0) (fun _ _ _ _ _ => m_eqV hr.units (m_var 10) (m_var 8)))) (m_seq (m_ret (m_bl)) (m_end)) (m_end)) (m_end))))) (m_seq (m_set 9 wh.nd (m_callG G_law_kept wh hr (by omega) (m_cons (m_callG G_law_made wh hr (by omega) (m_cons (m_var 3) (m_cons (m_var 6) (m_nil)))) (m_nil)))) (m_seq (m_ifs (m_w (m_or (m_ne hr.units (m_reprL wh hr.units T.z_repr (m_cons (m_callG G_law_kept wh hr (by omega) (m_cons (m_var 7) (m_nil))) (m_nil))) (m_reprL wh hr.units T.z_repr (m_cons (m_mul (m_lst (m_cons (m_var 5) (m_nil))) (m_int)) (m_nil)))) (m_or1 (m_ne hr.units (m_reprL wh hr.units T.z_repr (m_cons (m_var 9) (m_nil))) (m_reprL wh hr.units T.z_repr (m_cons (m_mul (m_lst (m_cons (m_var 6) (m_nil))) (m_int)) (m_nil))))))) (m_seq (m_ret (m_bl)) (m_end)) (m_end)) (m_end))))))))))) (m_seq (m_ret (m_andV (m_isX (tb := tbX CS ["ValueError"]) T.z_isinstance (m_mkx PySem.F.excBase_ValueError T.ex_WhereError T.g_WhereError T.kp_WhereError (m_str)) (m_bty T.z_ValueError (by decide +kernel)) rfl (tb_one T.xt (by decide) rfl)) (m_one (m_notV (m_isXT (tb := tbX CS ["LookupError", "LackError"]) (ds := [.ty "LookupError", .adr (He.ga _ "LackError")]) T.z_isinstance (m_mkx PySem.F.excBase_ValueError T.ex_WhereError T.g_WhereError T.kp_WhereError (m_str)) (m_tup (m_cons (m_bty T.z_LookupError (by decide +kernel)) (m_cons (m_cls T.g_LackError) (m_nil)))) (fun _ _ => rfl) rfl (tb_many T.xt (by decide) rfl)))))) (m_end))
end
end K01
end
section
set_option Elab.async false
set_option linter.all false
set_option autoImplicit false
set_option maxRecDepth 100000
set_option exponentiation.threshold 20000
set_option maxHeartbeats 4000000
open PySem L2
namespace K01
open MI
def aX : List Str → Sa
  | [] => aNil
  | c :: cs => aCons (eMkX c (eV 0)) (aX cs)
def aO : List (Str × Str) → Sa
  | [] => aNil
  | c :: cs => aCons (eMkO c.1 c.2 (eV 1)) (aO cs)
def aM : List Str → Sa
  | [] => aNil
  | y :: ys => aCons (eIsX (tbX CS [y]) (eV 0)) (aM ys)
abbrev n1 : List Str := ["NoFraction", "NoSpell", "NoSteps", "NoRing", "NoPlace", "NoDirection"]
abbrev n2 : List Str := ["NoLine", "NoRow", "NoName", "NoQuestion", "NoShares", "NoCuts"]
abbrev n3 : List Str := ["NoCut", "NoRegion", "NoTile", "NoBlock", "NoDeed", "NoText", "TooMany"]
abbrev n4 : List (Str × Str) := [("NoTelling", "number"), ("NoMoment", "moment"), ("NoNumber", "number"), ("NoHouse", "house"), ("NoKept", "number")]
theorem made_eq : b_law_made = sSeq (sAsg (eLst (aX n1)) (tgN 2)) (sSeq (sAsg (eOp dAdd (eV 2) (eLst (aX n2))) (tgN 2)) (sSeq (sAsg (eOp dAdd (eV 2) (eLst (aX n3))) (tgN 2)) (sSeq (sRet (eOp dAdd (eV 2) (eLst (aO n4)))) (sEnd)))) := rfl
theorem marks_eq : b_law_marks = sSeq (sAsg (eLst (aM ["NoFraction", "NoSpell", "NoSteps", "NoRing"])) (tgN 1)) (sSeq (sAsg (eOp dAdd (eV 1) (eLst (aM ["NoPlace", "NoDirection", "NoLine"]))) (tgN 1)) (sSeq (sAsg (eOp dAdd (eV 1) (eLst (aM ["NoRow", "NoName", "NoQuestion"]))) (tgN 1)) (sSeq (sAsg (eOp dAdd (eV 1) (eLst (aM ["NoShares", "NoCuts", "NoCut"]))) (tgN 1)) (sSeq (sAsg (eOp dAdd (eV 1) (eLst (aM ["NoRegion", "NoTile", "NoBlock"]))) (tgN 1)) (sSeq (sAsg (eOp dAdd (eV 1) (eLst (aM ["NoDeed", "NoText", "TooMany"]))) (tgN 1)) (sSeq (sAsg (eOp dAdd (eV 1) (eLst (aM ["NoTelling", "NoMoment", "NoNumber"]))) (tgN 1)) (sSeq (sRet (eOp dAdd (eV 1) (eLst (aM ["NoHouse", "NoKept"])))) (sEnd)))))))) := rfl
section
variable {h h' : Hq} {fr : Fr} {m : Nat} {c : Str} {v : Option (Str × D)} {d t : D}
theorem w_aX (hf : fr[0]? = some (some t)) : ∀ (cs : List Str) (h : Hq) (Φ : Rs (List D) → Prop), W (aX cs fr h) Φ = Φ (.ok ((List.range' h.length cs.length).map .ref) (h ++ cs.map fun c => .exn c none))
  | [], h, Φ => by
    show W (aNil fr h) Φ = _
    simp [w_aNil]
  | c :: cs, h, Φ => by
    show W (aCons (eMkX c (eV 0)) (aX cs) fr h) Φ = _
    rw [w_aCons, w_MkX]
    simp only [w_V, hf, w_vR, kB_ok, w_gMkX, kA1_ok, w_aX hf cs, kA2_ok]
    simp [List.range'_succ]
theorem w_aO (hf : fr[1]? = some (some d)) : ∀ (cs : List (Str × Str)) (h : Hq) (Φ : Rs (List D) → Prop), W (aO cs fr h) Φ = Φ (.ok ((List.range' h.length cs.length).map .ref) (h ++ cs.map fun c => .exn c.1 (some (c.2, d))))
  | [], h, Φ => by
    show W (aNil fr h) Φ = _
    simp [w_aNil]
  | c :: cs, h, Φ => by
    show W (aCons (eMkO c.1 c.2 (eV 1)) (aO cs) fr h) Φ = _
    rw [w_aCons, w_MkO]
    simp only [w_V, hf, w_vR, kB_ok, w_gMkO, kA1_ok, w_aO hf cs, kA2_ok]
    simp [List.range'_succ]
theorem w_aM (hf : fr[0]? = some (some (.ref m))) (e : h[m]? = some (.exn c v)) : ∀ (ys : List Str) (_ : ∀ y ∈ ys, tbX CS [y] c = some (decide (c = y))) (Φ : Rs (List D) → Prop), W (aM ys fr h) Φ = Φ (.ok (ys.map fun y => .bl (decide (c = y))) h)
  | [], _, Φ => by
    show W (aNil fr h) Φ = _
    simp [w_aNil]
  | y :: ys, hy, Φ => by
    show W (aCons (eIsX (tbX CS [y]) (eV 0)) (aM ys) fr h) Φ = _
    rw [w_aCons, w_IsX]
    simp only [w_V, hf, w_vR, kB_ok, w_isX e (hy y (by simp)), kA1_ok, w_aM hf e ys (fun z hz => hy z (by simp [hz])), kA2_ok, List.map_cons]
def Cl (h : Hq) (rs : List Nat) (cs : List Cell) : Prop := rs.length = cs.length ∧ ∀ (i : Nat) (c : Cell), cs[i]? = some c → ∃ r, rs[i]? = some r ∧ h[r]? = some c
theorem Cl.gr {rs : List Nat} {cs : List Cell} (a : Cl h rs cs) (g : Gr h h') : Cl h' rs cs := ⟨a.1, fun i c e => by
  obtain ⟨r, e1, e2⟩ := a.2 i c e
  exact ⟨r, e1, (by obtain ⟨T, rfl⟩ := g; rw [List.getElem?_append_left (List.getElem?_eq_some_iff.mp e2).1]; exact e2)⟩⟩
theorem Cl.app {rs ss : List Nat} {cs ds : List Cell} (a : Cl h rs cs) (b : Cl h ss ds) : Cl h (rs ++ ss) (cs ++ ds) := ⟨by simp [a.1, b.1], fun i c e => by
  by_cases hi : i < cs.length
  · rw [List.getElem?_append_left hi] at e
    obtain ⟨r, e1, e2⟩ := a.2 i c e
    exact ⟨r, by rw [List.getElem?_append_left (by rw [a.1]; exact hi)]; exact e1, e2⟩
  · rw [List.getElem?_append_right (by omega)] at e
    obtain ⟨r, e1, e2⟩ := b.2 _ c e
    exact ⟨r, by rw [List.getElem?_append_right (by rw [a.1]; omega), a.1]; exact e1, e2⟩⟩
theorem Cl.base (h : Hq) (cs : List Cell) : Cl (h ++ cs) (List.range' h.length cs.length) cs := ⟨by simp, fun i c e => by
  have hi : i < cs.length := (List.getElem?_eq_some_iff.mp e).1
  refine ⟨h.length + i, by simp [hi], ?_⟩
  rw [List.getElem?_append_right (by omega)]
  simpa using e⟩
def kinds (d : D) : List Cell := (n1.map fun c => .exn c none) ++ (n2.map fun c => .exn c none) ++ (n3.map fun c => .exn c none) ++ (n4.map fun c => .exn c.1 (some (c.2, d)))
/-- one more row of errors -/
theorem stepX {cs : List Str} {l : List Nat} {ds : List Cell} {k : Ss} {Ψ : SR → Prop} {n : Nat} (hs : cs.length ≤ 50) (hl : l.length ≤ 50) (e : lstAt h n = some (l.map .ref)) (C : Cl h l ds)
    (kk : ∀ n' l' h1, Gr h h1 → l'.length = l.length + cs.length → lstAt h1 n' = some (l'.map .ref) → Cl h1 l' (ds ++ cs.map fun c => .exn c none) → Z (k [some t, some d, some (.ref n')] h1) Ψ) :
    W (aX cs [some t, some d, some (.ref n)] h) (kB mkL (kO2 dAdd (.ref n) (kAs (tgN 2) [some t, some d, some (.ref n)] (kT k Ψ)))) := by
  rw [w_aX rfl]
  have C1 := Cl.base h (cs.map fun c => Cell.exn c none)
  have G1 := Gr.app h (cs.map fun c => Cell.exn c none)
  rw [List.length_map] at C1
  have hr : (List.range' h.length cs.length).length = cs.length := by simp
  generalize List.range' h.length cs.length = r1 at *
  generalize h ++ cs.map (fun c => Cell.exn c none) = h1 at *
  rw [kB_ok, w_mkL (decide_eq_true (by simp; omega))]
  have e2 := lst_new h1 (r1.map D.ref)
  have G2 := Gr.app h1 [Cell.lst (r1.map D.ref)]
  have e1 := G2.lst (G1.lst e)
  simp?! [w_addL e1 e2 (decide_eq_true (by simp; omega))]
  rw [← List.map_append]
  have G3 := Gr.app (h1 ++ [Cell.lst (r1.map D.ref)]) [Cell.lst ((l ++ r1).map D.ref)]
  exact kk _ (l ++ r1) _ ((G1.trans G2).trans G3) (by simp [hr]) (lst_new _ _) (Cl.app (C.gr ((G1.trans G2).trans G3)) (C1.gr (G2.trans G3)))
theorem made_w {Φ : Rs D → Prop} (kk : ∀ m rs h1, Gr h h1 → lstAt h1 m = some (rs.map .ref) → Cl h1 rs (kinds d) → Φ (.ok (.ref m) h1)) : W (f_law_made [t, d] h) Φ := by
  unfold f_law_made
  rw [made_eq]
  simp?! []
  rw [w_aX rfl]
  have C1 := Cl.base h (n1.map fun c => Cell.exn c none)
  have G1 := Gr.app h (n1.map fun c => Cell.exn c none)
  rw [List.length_map] at C1
  have hr : (List.range' h.length n1.length).length = 6 := by simp
  generalize List.range' h.length n1.length = r1 at *
  generalize h ++ n1.map (fun c => Cell.exn c none) = h1 at *
  rw [kB_ok, w_mkL (decide_eq_true (by simp; omega))]
  simp?! []
  have G2 := Gr.app h1 [Cell.lst (r1.map D.ref)]
  refine stepX (cs := n2) (l := r1) (by decide) (by omega) (lst_new h1 (r1.map D.ref)) (C1.gr G2) fun m3 l3 h3 g3 hl3 e3 C3 => ?_
  simp at hl3
  simp?! []
  refine stepX (cs := n3) (by decide) (by omega) e3 C3 fun m4 l4 h4 g4 hl4 e4 C4 => ?_
  simp at hl4
  simp?! []
  rw [w_aO rfl]
  have C5 := Cl.base h4 (n4.map fun c => Cell.exn c.1 (some (c.2, d)))
  have G5 := Gr.app h4 (n4.map fun c => Cell.exn c.1 (some (c.2, d)))
  rw [List.length_map] at C5
  have hr5 : (List.range' h4.length n4.length).length = 5 := by simp
  generalize List.range' h4.length n4.length = r5 at *
  generalize h4 ++ n4.map (fun c => Cell.exn c.1 (some (c.2, d))) = h5 at *
  rw [kB_ok, w_mkL (decide_eq_true (by simp; omega))]
  have e6 := lst_new h5 (r5.map D.ref)
  have G6 := Gr.app h5 [Cell.lst (r5.map D.ref)]
  simp?! [w_addL (G6.lst (G5.lst e4)) e6 (decide_eq_true (by simp; omega))]
  rw [← List.map_append]
  have G7 := Gr.app (h5 ++ [Cell.lst (r5.map D.ref)]) [Cell.lst ((l4 ++ r5).map D.ref)]
  have gg := ((G5.trans G6).trans G7)
  exact kk _ (l4 ++ r5) _ (((((G1.trans G2).trans g3).trans g4)).trans gg) (lst_new _ _) (Cl.app (C4.gr gg) (C5.gr (G6.trans G7)))
end
end K01
end
section
set_option Elab.async false
set_option linter.all false
set_option autoImplicit false
set_option maxRecDepth 100000
set_option exponentiation.threshold 20000
set_option maxHeartbeats 4000000
open PySem L2
namespace K01
open MI
abbrev m1 : List Str := ["NoFraction", "NoSpell", "NoSteps", "NoRing"]
abbrev nm : List Str := ["NoFraction", "NoSpell", "NoSteps", "NoRing", "NoPlace", "NoDirection", "NoLine", "NoRow", "NoName", "NoQuestion", "NoShares", "NoCuts", "NoCut", "NoRegion", "NoTile", "NoBlock", "NoDeed", "NoText", "TooMany", "NoTelling", "NoMoment", "NoNumber", "NoHouse", "NoKept"]
section
variable {h h' : Hq} {m : Nat} {c : Str} {v : Option (Str × D)} {d t : D}
/-- one more row of marks -/
theorem stepM {cs : List Str} {bs : List Bool} {k : Ss} {Ψ : SR → Prop} {n : Nat} (hs : cs.length ≤ 50) (hl : bs.length ≤ 50) (hm : h[m]? = some (.exn c v)) (hc : ∀ y ∈ cs, tbX CS [y] c = some (decide (c = y))) (e : lstAt h n = some (bs.map .bl))
    (kk : ∀ n' h1, Gr h h1 → lstAt h1 n' = some ((bs ++ cs.map fun y => decide (c = y)).map .bl) → Z (k [some (.ref m), some (.ref n')] h1) Ψ) :
    W (aM cs [some (.ref m), some (.ref n)] h) (kB mkL (kO2 dAdd (.ref n) (kAs (tgN 1) [some (.ref m), some (.ref n)] (kT k Ψ)))) := by
  rw [w_aM rfl hm cs hc, kB_ok, w_mkL (decide_eq_true (by simp; omega))]
  have e2 := lst_new h (cs.map fun y => D.bl (decide (c = y)))
  have G2 := Gr.app h [Cell.lst (cs.map fun y => D.bl (decide (c = y)))]
  have e1 := G2.lst e
  simp?! [w_addL e1 e2 (decide_eq_true (by simp; omega))]
  have el : bs.map D.bl ++ cs.map (fun y => D.bl (decide (c = y))) = (bs ++ cs.map fun y => decide (c = y)).map D.bl := by simp
  rw [el]
  exact kk _ _ (G2.trans (Gr.app _ _)) (lst_new _ _)
theorem gget {r : Nat} {x : Cell} (g : Gr h h') (e : h[r]? = some x) : h'[r]? = some x := by
  obtain ⟨T, rfl⟩ := g
  rw [List.getElem?_append_left (List.getElem?_eq_some_iff.mp e).1]; exact e
theorem marks_w {Φ : Rs D → Prop} (hm : h[m]? = some (.exn c v)) (hc : ∀ y ∈ nm, tbX CS [y] c = some (decide (c = y))) (kk : ∀ n h1, Gr h h1 → lstAt h1 n = some ((nm.map fun y => decide (c = y)).map .bl) → Φ (.ok (.ref n) h1)) : W (f_law_marks [.ref m] h) Φ := by
  unfold f_law_marks
  rw [marks_eq]
  simp?! []
  rw [w_aM rfl hm _ fun y hy => hc y (by revert y; decide), kB_ok, w_mkL (by rfl)]
  simp?! []
  have l1 := lst_new h (m1.map fun y => D.bl (decide (c = y)))
  have g1 := Gr.app h [Cell.lst (m1.map fun y => D.bl (decide (c = y)))]
  refine stepM (cs := ["NoPlace", "NoDirection", "NoLine"]) (bs := m1.map fun y => decide (c = y)) (by decide) (by simp) (gget g1 hm) (fun y hy => hc y (by revert y; decide)) l1 fun k2 h2 g2 l2 => ?_
  simp?! []
  refine stepM (cs := ["NoRow", "NoName", "NoQuestion"]) (by decide) (by simp) (gget (g1.trans g2) hm) (fun y hy => hc y (by revert y; decide)) l2 fun k3 h3 g3 l3 => ?_
  simp?! []
  refine stepM (cs := ["NoShares", "NoCuts", "NoCut"]) (by decide) (by simp) (gget ((g1.trans g2).trans g3) hm) (fun y hy => hc y (by revert y; decide)) l3 fun k4 h4 g4 l4 => ?_
  have g14 := ((g1.trans g2).trans g3).trans g4
  simp?! []
  refine stepM (cs := ["NoRegion", "NoTile", "NoBlock"]) (by decide) (by simp) (gget g14 hm) (fun y hy => hc y (by revert y; decide)) l4 fun k5 h5 g5 l5 => ?_
  simp?! []
  refine stepM (cs := ["NoDeed", "NoText", "TooMany"]) (by decide) (by simp) (gget (g14.trans g5) hm) (fun y hy => hc y (by revert y; decide)) l5 fun k6 h6 g6 l6 => ?_
  simp?! []
  refine stepM (cs := ["NoTelling", "NoMoment", "NoNumber"]) (by decide) (by simp) (gget ((g14.trans g5).trans g6) hm) (fun y hy => hc y (by revert y; decide)) l6 fun k7 h7 g7 l7 => ?_
  have g17 := ((g14.trans g5).trans g6).trans g7
  simp?! []
  rw [w_aM rfl (gget g17 hm) _ fun y hy => hc y (by revert y; decide), kB_ok, w_mkL (by rfl)]
  have l8 := lst_new h7 [D.bl (decide (c = "NoHouse")), D.bl (decide (c = "NoKept"))]
  have g8 := Gr.app h7 [Cell.lst [D.bl (decide (c = "NoHouse")), D.bl (decide (c = "NoKept"))]]
  simp?! [w_addL (g8.lst l7) l8 (by rfl)]
  exact kk _ _ ((g17.trans g8).trans (Gr.app _ _)) (lst_new _ _)
theorem kept_w {rs : List Nat} {Φ : Rs D → Prop} (e : lstAt h m = some (rs.map .ref)) (C : Cl h rs (kinds d)) : W (f_law_kept [.ref m] h) Φ = Φ (.ok (.ref h.length) (h ++ [.lst [d, d, d, d, d]])) := by
  have key : ∀ (i : Nat) (j : Int) (_ : j = (i : Int)) (c f : Str) (w : D), (kinds d)[i]? = some (.exn c (some (f, w))) → ∃ r, atI (rs.map D.ref) j = some (.ref r) ∧ h[r]? = some (.exn c (some (f, w))) := fun i j hj c f w hk => by
    subst hj
    obtain ⟨r, e1, e2⟩ := C.2 i _ hk
    have hi : i < (rs.map D.ref).length := by simpa using (List.getElem?_eq_some_iff.mp e1).1
    refine ⟨r, ?_, e2⟩
    rw [atI_nat hi]
    have := (List.getElem?_eq_some_iff.mp e1).2
    simp [this]
  obtain ⟨r1, a1, c1⟩ := key 19 19 rfl "NoTelling" "number" d rfl
  obtain ⟨r2, a2, c2⟩ := key 20 20 rfl "NoMoment" "moment" d rfl
  obtain ⟨r3, a3, c3⟩ := key 21 21 rfl "NoNumber" "number" d rfl
  obtain ⟨r4, a4, c4⟩ := key 22 22 rfl "NoHouse" "house" d rfl
  obtain ⟨r5, a5, c5⟩ := key 23 23 rfl "NoKept" "number" d rfl
  unfold f_law_kept b_law_kept
  simp?! []
  rw [w_ixL e a1, kB_ok, w_xf c1 (by decide)]
  simp?! []
  rw [w_ixL e a2, kB_ok, w_xf c2 (by decide)]
  simp?! []
  rw [w_ixL e a3, kB_ok, w_xf c3 (by decide)]
  simp?! []
  rw [w_ixL e a4, kB_ok, w_xf c4 (by decide)]
  simp?! []
  rw [w_ixL e a5, kB_ok, w_xf c5 (by decide)]
  simp?! []
end
theorem tb1 : ∀ c ∈ nm, ∀ y ∈ nm, tbX CS [y] c = some (decide (c = y)) := by decide +kernel
theorem tb2 : ∀ i : Fin 24, tbX CS ["WhereError"] nm[i] = some (decide (i.val < 20)) ∧ tbX CS ["ValueError"] nm[i] = some (decide (i.val < 20)) ∧ tbX CS ["LackError"] nm[i] = some (decide (19 < i.val)) ∧ tbX CS ["LookupError"] nm[i] = some (decide (19 < i.val)) := by decide +kernel
theorem tb3 : ∀ i : Fin 24, (nm.map fun y => decide (nm[i] = y)) = (List.range 24).map fun j => decide (j = i.val) := by decide +kernel
end K01
end
section
set_option Elab.async false
set_option linter.all false
set_option autoImplicit false
set_option maxRecDepth 100000
set_option exponentiation.threshold 20000
set_option maxHeartbeats 4000000
open PySem L2
namespace K01
open MI
def vals (d : D) : List (Option (Str × D)) := (List.replicate 19 none : List (Option (Str × D))) ++ ([some ("number", d), some ("moment", d), some ("number", d), some ("house", d), some ("number", d)] : List (Option (Str × D)))
theorem kinds_eq (d : D) : kinds d = List.zipWith (fun c v => Cell.exn c v) nm (vals d) := rfl
theorem tb0 (d : D) (i : Fin 24) : ∃ v, (kinds d)[i.val]? = some (.exn nm[i] v) := by
  have h1 : i.val < nm.length := i.2
  have h2 : i.val < (vals d).length := i.2
  refine ⟨(vals d)[i.val], ?_⟩
  rw [kinds_eq, List.getElem?_zipWith, List.getElem?_eq_getElem h1, List.getElem?_eq_getElem h2]
  rfl
section
variable {h : Hq} {mm : Nat} {rs : List Nat} {d : D} {x0 x1 x2 x3 x4 x5 x6 x9 x10 : Option D} {Ψ : SR → Prop}
theorem lp0 (i : Fin 24) (e : lstAt h mm = some (rs.map .ref)) (C : Cl h rs (kinds d)) (kk : ∀ h1, Gr h h1 → Ψ (.nx [x0, x1, x2, x3, x4, x5, x6, some (.ref mm), some (.int (i.val : Int)), x9, x10] h1)) :
    Z (Lp0 [x0, x1, x2, x3, x4, x5, x6, some (.ref mm), some (.int (i.val : Int)), x9, x10] h) Ψ := by
  obtain ⟨v, hk⟩ := tb0 d i
  obtain ⟨r, e1, e2⟩ := C.2 _ _ hk
  have hc := tb1 nm[i] (List.getElem_mem _)
  obtain ⟨t1, t2, t3, t4⟩ := tb2 i
  have t5 := tb3 i
  generalize nm[i] = c at *
  have hi : i.val < (rs.map D.ref).length := by simpa using (List.getElem?_eq_some_iff.mp e1).1
  have a1 : atI (rs.map D.ref) (i.val : Int) = some (.ref r) := by
    rw [atI_nat hi]
    have := (List.getElem?_eq_some_iff.mp e1).2
    simp [this]
  have d1 : decide ((i.val : Int) < 20) = decide (i.val < 20) := by rw [decide_eq_decide]; omega
  have d2 : decide ((19 : Int) < (i.val : Int)) = decide (19 < i.val) := by rw [decide_eq_decide]; omega
  have b0 : ∀ b : Bool, (decide (b = b) != true) = false := fun b => by simp
  generalize hn : i.val = n at *
  unfold Lp0
  simp?! [w_ixL e a1, w_isX e2 t1, w_isX e2 t2, w_isX e2 t3, w_isX e2 t4, d1, d2]
  refine marks_w e2 hc fun m1 h1 g1 l1 => ?_
  simp?! []
  rw [show (24 : Int) = ((24 : Nat) : Int) from rfl, iR_ok (by omega), w_ok, kCo_ok]
  simp?! []
  refine comp_draw (J := fun i acc h' => acc = ((List.range i).map fun j => decide (j = n)).map D.bl ∧ h' = h1 ++ [Cell.lst acc]) (by omega) ⟨rfl, rfl⟩ ?_ ?_ ?_
  · rintro i acc h' ⟨rfl, rfl⟩
    exact ⟨by simp, lst_new _ _⟩
  · rintro i acc h' hi ⟨rfl, rfl⟩
    simp?! []
    refine ⟨_, _, rfl, lst_new _ _, ?_, ?_⟩
    · rw [List.range_succ, List.map_append, List.map_append]
      congr 1
      simp
      rw [Bool.eq_iff_iff, beq_iff_eq, decide_eq_true_iff]
      omega
    · simp
  · rintro acc h' ⟨rfl, rfl⟩
    have g2 := Gr.app h1 [Cell.lst (((List.range 24).map fun j => decide (j = n)).map D.bl)]
    simp?! [eq_bls (g2.lst l1) (lst_new h1 _), t5, show ∀ l : List Bool, ((l == l) != true) = false from fun l => by simp]
    exact kk _ (g1.trans g2)
end
end K01
end
section
set_option Elab.async false
set_option linter.all false
set_option autoImplicit false
set_option maxRecDepth 100000
set_option maxHeartbeats 4000000
namespace MI
open PySem PySem.Spec PyProof.Rows L2
end MI
end
section
set_option Elab.async false
set_option linter.all false
set_option autoImplicit false
set_option maxRecDepth 100000
set_option exponentiation.threshold 20000
set_option maxHeartbeats 4000000
open PySem L2
namespace MI
/-- a thing whose repr tells it -/
structure Rl (h : Hq) (d : D) (q : PyData) : Prop where
  py : ∀ n, 5 ≤ n → toPyR h n d = some q
  sh : q.showable = true
  nl : q.hasDict = false ∨ noLst q = true
  dp : q.depth ≤ 4
  ln : q.shown.length ≤ 200000
  lv : q.leavesShort 100 = true
structure StK (K : Nat) (h h' : Hq) : Prop where
  len : h.length ≤ h'.length
  old : ∀ q, K ≤ q → q < h.length → h'[q]? = h[q]?
theorem StK.trans {K : Nat} {h h1 h2 : Hq} (a : StK K h h1) (b : StK K h1 h2) : StK K h h2 := ⟨Nat.le_trans a.len b.len, fun q n l => (b.old q n (Nat.lt_of_lt_of_le l a.len)).trans (a.old q n l)⟩
theorem StK.get {K q : Nat} {h h' : Hq} {c : Cell} (S : StK K h h') (n : K ≤ q) (e : h[q]? = some c) : h'[q]? = some c := by
  rw [S.old q n (List.getElem?_eq_some_iff.mp e).1]; exact e
theorem StK.lst {K q : Nat} {h h' : Hq} {l : List D} (S : StK K h h') (n : K ≤ q) (e : lstAt h q = some l) : lstAt h' q = some l := by
  have e1 := lstAt_some e
  have e2 := S.get n e1
  unfold lstAt
  rw [e2]
theorem Gr.stK {h h' : Hq} (g : Gr h h') (K : Nat) : StK K h h' := by
  obtain ⟨T, rfl⟩ := g
  exact ⟨by simp, fun q _ l => by rw [List.getElem?_append_left l]⟩
theorem StK.set {K r : Nat} (h : Hq) (hr : r < K) (c : Cell) : StK K h (h.set r c) := ⟨by simp, fun q n l => by rw [List.getElem?_set_ne (by omega)]⟩
theorem Step.stK {p K : Nat} {h h' : Hq} (S : Step p h h') (hp : p < K) : StK K h h' := ⟨S.len, fun q n l => S.old q (by omega) l⟩
/-- a thing, moment (b) or none, whatever becomes of the cells below p -/
structure Mth (p : Nat) (h : Hq) (d : D) (b : Bool) (q : PyData) : Prop where
  mo : ∀ h', StK p h h' → S_is_moment [d] h' = .ok (.bl b) h' ∧ S__law_is_moment [d] h' = .ok (.bl b) h' ∧ Rl h' d q
  fq : b = true → ∃ t : Qp, d = dq t ∧ Fq 300 t ∧ mom t
theorem Mth.st {p : Nat} {h h' : Hq} {d : D} {b : Bool} {q : PyData} (m : Mth p h d b q) (S : StK p h h') : Mth p h' d b q := ⟨fun h2 S2 => m.mo h2 (S.trans S2), m.fq⟩
end MI
end
section
set_option Elab.async false
set_option linter.all false
set_option autoImplicit false
set_option maxRecDepth 100000
set_option exponentiation.threshold 20000
set_option maxHeartbeats 4000000
open PySem L2
namespace K01
open MI
def q11 : List PyData := [.none, .bool true, .int (-1), .int (10 ^ 30), .str "a", .tuple [], .tuple [.tuple [.int 0, .int 1], .bool true], .list [.int 1], .dict [(.str "a", .int 1)], .int 0, .int 7]
theorem q11_ok : ∀ q ∈ q11, showsL (.list [q, q, q, q, q]) = true := by decide +kernel
/-- a thing, whatever becomes of the cells below K -/
def Th (K : Nat) (h : Hq) (d : D) : Prop := ∃ q ∈ q11, ∀ h', StK K h h' → ∀ n, toPyR h' (n + 3) d = some q
section
variable {K : Nat} {h h' : Hq} {d : D} {m r1 r2 p : Nat} {Φ : Rs D → Prop} {n : Int}
theorem pr_lst {n r : Nat} {l : List D} (e : h[r]? = some (.lst l)) : toPyR h (n + 1) (.ref r) = (opts (toPyR h n) l).map .list := by
  rw [toPyR]; simp only [e]
theorem pr_dct {n r : Nat} {l : List (L2.Key × D)} (e : h[r]? = some (.dct l)) : toPyR h (n + 1) (.ref r) = (opts (toPyR h n) (l.map (·.2))).map fun ps => .dict ((l.map fun p => keyP p.1).zip ps) := by
  rw [toPyR]; simp only [e]
theorem Th.st (t : Th K h d) (S : StK K h h') : Th K h' d := by
  obtain ⟨q, hq, e⟩ := t
  exact ⟨q, hq, fun h2 S2 => e h2 (S.trans S2)⟩
theorem th_all (k1 : K ≤ r1) (k2 : K ≤ r2) (e1 : h[r1]? = some (.lst [.int 1])) (e2 : h[r2]? = some (.dct [(.inr "a", .int 1)])) : ∀ d ∈ [D.non, .bl true, .int (-1), .int (10 ^ 30), .str "a", .tup [], .tup [.tup [.int 0, .int 1], .bl true], .ref r1, .ref r2, .int 0, .int 7], Th K h d := by
  intro d hd
  simp only [List.mem_cons, List.not_mem_nil, or_false] at hd
  have mk : ∀ (q : PyData) (d : D), q ∈ q11 → (∀ h', StK K h h' → ∀ n, toPyR h' (n + 3) d = some q) → Th K h d := fun q d a b => ⟨q, a, b⟩
  rcases hd with rfl | rfl | rfl | rfl | rfl | rfl | rfl | rfl | rfl | rfl | rfl
  · exact mk .none _ (by simp [q11]) fun h' S n => rfl
  · exact mk (.bool true) _ (by simp [q11]) fun h' S n => rfl
  · exact mk (.int (-1)) _ (by simp [q11]) fun h' S n => rfl
  · exact mk (.int (10 ^ 30)) _ (by simp [q11]) fun h' S n => rfl
  · exact mk (.str "a") _ (by simp [q11]) fun h' S n => rfl
  · exact mk (.tuple []) _ (by simp [q11]) fun h' S n => rfl
  · exact mk (.tuple [.tuple [.int 0, .int 1], .bool true]) _ (by simp [q11]) fun h' S n => rfl
  · refine mk (.list [.int 1]) _ (by simp [q11]) fun h' S n => ?_
    rw [pr_lst (S.get k1 e1)]
    rfl
  · refine mk (.dict [(.str "a", .int 1)]) _ (by simp [q11]) fun h' S n => ?_
    rw [pr_dct (S.get k2 e2)]
    rfl
  · exact mk (.int 0) _ (by simp [q11]) fun h' S n => rfl
  · exact mk (.int 7) _ (by simp [q11]) fun h' S n => rfl
theorem rep_w (t : Th K h d) : ∃ R, ∀ (h' : Hq) (m : Nat) (Ψ : Rs D → Prop), StK K h h' → lstAt h' m = some [d, d, d, d, d] → W (gReprL [.ref m] h') Ψ = Ψ (.ok (.str R) h') := by
  obtain ⟨q, hq, e⟩ := t
  refine ⟨(PyData.list [q, q, q, q, q]).shown, fun h' m Ψ S l => ?_⟩
  have e1 : toPyR h' 60 (.ref m) = some (.list [q, q, q, q, q]) := by
    rw [pr_lst (lstAt_some l)]
    simp only [opts, e h' S 56, Option.map_some, Option.bind_some]
  unfold W gReprL
  simp only [e1, q11_ok q hq, if_true]
theorem lp1 {Ψ : SR → Prop} {ns : List Int} {i : Nat} {x2 x3 x4 x5 x6 x7 x8 x9 x10 : Option D} (hi : i < 100) (kk : ∀ (h1 : Hq) (y2 y3 y4 y5 y6 y7 y8 y9 y10 : Option D), Ψ (.nx [some (.scr ns), some (.int (i : Int)), y2, y3, y4, y5, y6, y7, y8, y9, y10] h1)) :
    Z (Lp1 [some (.scr ns), some (.int (i : Int)), x2, x3, x4, x5, x6, x7, x8, x9, x10] h) Ψ := by
  unfold Lp1
  simp?! []
  refine pot_w hi fun l P0 => ?_
  have hp0 := P0.lt
  simp?! [w_mulS (show 2 ≤ (60 : Int) ∧ (60 : Int) ≤ 1000 ∧ 1 ≤ Str.length "x" ∧ Str.length "x" ≤ 1000 from by decide +kernel)]
  obtain ⟨TL, hTL⟩ : ∃ TL : List D, TL = [D.str "", .str "a", .str "no ring", .str "0", .str (strRep "x" 60), .str "two\nrows"] := ⟨_, rfl⟩
  have hTl : TL.length = 6 := by rw [hTL]; rfl
  rw [← hTL]
  have P1 := P0.app [Cell.lst TL]
  have e1 := lst_new (h ++ [Cell.lst l]) TL
  have np1 : (h ++ [Cell.lst l]).length ≠ h.length := by simp
  generalize h ++ [Cell.lst l] ++ [Cell.lst TL] = h1 at *
  generalize (h ++ [Cell.lst l]).length = m1 at *
  generalize h.length = p at *
  refine take_w P1 (by omega) (by decide) (by decide) fun r h2 r0 r1 P2 S2 => ?_
  have e2 := S2.lst np1 e1
  simp?! []
  refine w_ixP (fun _ => True) e2 r0 (by rw [hTl]; exact r1) (fun _ _ => trivial) ?_
  rintro t -
  have lp2 := P2.lt
  simp?! [w_Dct1]
  have c1 : (h2 ++ [Cell.lst [D.int 1]] ++ [Cell.dct [(.inr "a", .int 1)]] ++ [Cell.lst [D.non, .bl true, .int (-1), .int 1000000000000000000000000000000, .str "a", .tup [], .tup [.tup [.int 0, .int 1], .bl true], .ref h2.length, .ref (h2 ++ [Cell.lst [D.int 1]]).length, .int 0, .int 7]])[h2.length]? = some (.lst [.int 1]) := by simp
  have c2 : (h2 ++ [Cell.lst [D.int 1]] ++ [Cell.dct [(.inr "a", .int 1)]] ++ [Cell.lst [D.non, .bl true, .int (-1), .int 1000000000000000000000000000000, .str "a", .tup [], .tup [.tup [.int 0, .int 1], .bl true], .ref h2.length, .ref (h2 ++ [Cell.lst [D.int 1]]).length, .int 0, .int 7]])[(h2 ++ [Cell.lst [D.int 1]]).length]? = some (.dct [(.inr "a", .int 1)]) := by simp
  have T3 := th_all (K := p + 1) (by omega) (by simp; omega) c1 c2
  obtain ⟨L, hL⟩ : ∃ L : List D, L = [D.non, .bl true, .int (-1), .int 1000000000000000000000000000000, .str "a", .tup [], .tup [.tup [.int 0, .int 1], .bl true], .ref h2.length, .ref (h2 ++ [Cell.lst [D.int 1]]).length, .int 0, .int 7] := ⟨_, rfl⟩
  have hLl : L.length = 11 := by rw [hL]; rfl
  rw [show (10 : Int) ^ 30 = 1000000000000000000000000000000 from by decide, ← hL] at T3
  rw [← hL]
  have P3 := ((P2.app [Cell.lst [D.int 1]]).app [Cell.dct [(.inr "a", .int 1)]]).app [Cell.lst L]
  have e3 := lst_new (h2 ++ [Cell.lst [D.int 1]] ++ [Cell.dct [(.inr "a", .int 1)]]) L
  have np3 : (h2 ++ [Cell.lst [D.int 1]] ++ [Cell.dct [(.inr "a", .int 1)]]).length ≠ p := by simp; omega
  generalize h2 ++ [Cell.lst [D.int 1]] ++ [Cell.dct [(.inr "a", .int 1)]] ++ [Cell.lst L] = h3 at *
  generalize (h2 ++ [Cell.lst [D.int 1]] ++ [Cell.dct [(.inr "a", .int 1)]]).length = m3 at *
  clear c1 c2 hL
  refine take_w P3 (by omega) (by decide) (by decide) fun r h4 r0 r1 P4 S4 => ?_
  have e4 := S4.lst np3 e3
  simp?! []
  refine w_ixP (fun d => Th (p + 1) h3 d) e4 r0 (by rw [hLl]; exact r1) T3 ?_
  rintro d td
  simp?! []
  refine take_w P4 (by omega) (by decide) (by decide) fun r h5 r0 r1 P5 S5 => ?_
  have e5 := S5.lst np3 e4
  simp?! []
  refine w_ixP (fun d => Th (p + 1) h3 d) e5 r0 (by rw [hLl]; exact r1) T3 ?_
  rintro d' td'
  have S35 := (S4.trans S5).stK (show p < p + 1 by omega)
  obtain ⟨R, hR⟩ := rep_w (td.st S35)
  obtain ⟨R', hR'⟩ := rep_w (td'.st S35)
  simp?! []
  refine made_w fun mm rs h6 g6 e6 C6 => ?_
  simp?! []
  rw [show (24 : Int) = ((24 : Nat) : Int) from rfl, iR_ok (by omega), w_ok, kSrc_ok]
  refine range_t (I := fun j fr h' => ∃ y8, Gr h6 h' ∧ fr = [some (.scr ns), some (.int (i : Int)), some (.ref p), some t, some (.ref m3), some d, some d', some (.ref mm), y8, x9, x10]) ?_ ?_ ?_
  · exact ⟨_, Gr.refl _, rfl⟩
  · rintro j fr h' hj ⟨y8, g, rfl⟩
    simp?! []
    exact lp0 ⟨j, hj⟩ (g.lst e6) (C6.gr g) fun h1 g1 => ⟨_, g.trans g1, rfl⟩
  · rintro fr h7 ⟨y8, g7, rfl⟩
    simp?! []
    refine made_w fun mk rk h8 g8 e8 C8 => ?_
    simp?! []
    rw [kept_w e8 C8]
    have e9 := lst_new h8 [d', d', d', d', d']
    have g9 := Gr.app h8 [Cell.lst [d', d', d', d', d']]
    have g69 := (g7.trans g8).trans g9
    generalize h8 ++ [Cell.lst [d', d', d', d', d']] = h9 at *
    generalize h8.length = m9 at *
    simp?! []
    rw [kept_w (g69.lst e6) (C6.gr g69)]
    have e10 := lst_new h9 [d, d, d, d, d]
    have g10 := Gr.app h9 [Cell.lst [d, d, d, d, d]]
    generalize h9 ++ [Cell.lst [d, d, d, d, d]] = h10 at *
    generalize h9.length = m10 at *
    simp?! []
    have g510 := (g6.trans g69).trans g10
    rw [hR h10 m10 _ (g510.stK _) e10]
    have q0 : ∀ z : Str, (decide (z = z) != true) = false := fun z => by simp
    have five : ∀ x : D, (List.replicate (Int.toNat 5) [x]).flatten = [x, x, x, x, x] := fun x => rfl
    simp?! []
    rw [w_rep (lst_new h10 [d]) (⟨by decide, by decide, by rfl⟩)]
    have g11 := (Gr.app h10 [Cell.lst [d]]).trans (Gr.app (h10 ++ [Cell.lst [d]]) [Cell.lst (List.replicate (Int.toNat 5) [d]).flatten])
    have e11 := lst_new (h10 ++ [Cell.lst [d]]) (List.replicate (Int.toNat 5) [d]).flatten
    generalize h10 ++ [Cell.lst [d]] ++ [Cell.lst (List.replicate (Int.toNat 5) [d]).flatten] = h11 at *
    generalize (h10 ++ [Cell.lst [d]]).length = m11 at *
    rw [five] at e11
    simp?! []
    rw [hR h11 m11 _ ((g510.trans g11).stK _) e11]
    simp?! [q0]
    rw [hR' h11 m9 _ ((g510.trans g11).stK _) (g11.lst (g10.lst e9))]
    simp?! []
    rw [w_rep (lst_new h11 [d']) (⟨by decide, by decide, by rfl⟩)]
    have g12 := (Gr.app h11 [Cell.lst [d']]).trans (Gr.app (h11 ++ [Cell.lst [d']]) [Cell.lst (List.replicate (Int.toNat 5) [d']).flatten])
    have e12 := lst_new (h11 ++ [Cell.lst [d']]) (List.replicate (Int.toNat 5) [d']).flatten
    generalize h11 ++ [Cell.lst [d']] ++ [Cell.lst (List.replicate (Int.toNat 5) [d']).flatten] = h12 at *
    generalize (h11 ++ [Cell.lst [d']]).length = m12 at *
    rw [five] at e12
    simp?! []
    rw [hR' h12 m12 _ (((g510.trans g11).trans g12).stK _) e12]
    simp?! [q0]
    exact kk _ _ _ _ _ _ _ _ _ _
end
theorem law_ok (ns : List Int) (hns : ns.length ≤ 63) : ∃ h', flaw [.scr ns] [] = .ok (.bl true) h' := by
  suffices hw : W (flaw [.scr ns] []) fun s => ∃ d h', s = .ok d h' ∧ d = .bl true by
    obtain ⟨d, h', e, rfl⟩ := hw
    exact ⟨h', e⟩
  unfold flaw blaw
  simp?! []
  obtain ⟨m, hm, hm2⟩ := cells_n ns.length 16 (by decide) (by decide)
  have hm3 : m ≤ 16 := hm2
  rw [hm]
  rw [iR_ok (show m < 1000000 by omega), w_ok, kSrc_ok]
  refine range_t (I := fun i fr h => ∃ x1 x2 x3 x4 x5 x6 x7 x8 x9 x10, fr = [some (.scr ns), x1, x2, x3, x4, x5, x6, x7, x8, x9, x10]) ?_ ?_ ?_
  · exact ⟨_, _, _, _, _, _, _, _, _, _, rfl⟩
  · rintro i fr h hi ⟨x1, x2, x3, x4, x5, x6, x7, x8, x9, x10, rfl⟩
    simp?! []
    exact lp1 (by omega) fun h1 y2 y3 y4 y5 y6 y7 y8 y9 y10 => ⟨_, _, _, _, _, _, _, _, _, _, rfl⟩
  · rintro fr h ⟨x1, x2, x3, x4, x5, x6, x7, x8, x9, x10, rfl⟩
    simp?! [w_MkX]
    rw [w_gMkX, kB_ok, w_isX (m := h.length) (c := "WhereError") (v := none) (k := true) (by simp) (by decide +kernel)]
    simp?! [w_MkX]
    rw [w_gMkX, kB_ok, w_isX (m := (h ++ [Cell.exn "WhereError" none]).length) (c := "WhereError") (v := none) (k := false) (by simp) (by decide +kernel)]
    simp?! []
    exact ⟨_, _, rfl, rfl⟩
end K01
end
section
set_option Elab.async false
set_option linter.all false
set_option autoImplicit false
set_option maxRecDepth 100000
set_option maxHeartbeats 4000000
namespace K01
open PySem PySem.Spec PyProof.Rows L2 MI
theorem done {P : Program} {w : World} {K : PySem.W.Frag} {h : Heap} {mg : Str → Option Value} {f : Addr} (X : K.In h) (G : h.Ns mainGlobals mg) (hfa : mg ("law" : Str) = some (.ref f)) (c : He.SaysD fa fn K) (m : ex K = true) :
    ∃ fd : FuncData, (∀ (s : Shared) (v : Value), BindsTo s fd ⟨[v], []⟩ [("script", v)]) ∧ ∀ base : Heap, K.In base → base.Ns mainGlobals mg → FnG P w K mg base 4 f fd ["script"] flaw := by
  have T := txt_of X G c m
  have e := hfa.symm.trans T.g_law
  cases e
  obtain ⟨fd, F⟩ := T.F_law
  have b := FunD.bindsA (ps := ["script"]) F fun _ _ _ _ _ _ us hl => match us, hl with | [_], _ => rfl
  exact ⟨fd, fun s v => b s [v] rfl, fun base _ _ => glaw T F⟩
end K01
open PySem PySem.W PyProof.Rows
set_option maxHeartbeats 0 in
theorem PySem.Challenge.cw_wherewhen_k01_refusals_stand_alone_holds : PySem.Challenge.rw_wherewhen_k01_refusals_stand_alone.Holds := by
  w_on; o_law; k_head; (case hw => w_witness2)
  k_fill
  refine MI.walkG (l := PySem.Challenge.rw_wherewhen_k01_refusals_stand_alone) (n := 63) (k := 4) (x := "script") (sem := K01.flaw) rfl (by decide) rfl ⟨rfl, by decide, by decide⟩ (fun w h Y => PySem.W.kIn_of Y) ?F (fun ns hn => K01.law_ok ns hn)
  case F =>
    intro w mg fa h KX G hmg
    refine K01.done KX G hmg ?c ?m
    case c => show He.obsD _ _ _ = He.valD _; kernel_rfl
    case m => kernel_rfl
end
