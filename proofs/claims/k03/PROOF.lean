import PyProof.Rows.All
import Wide.All
import OpenK.AllK
import Wide.FinOn
import HandS.List
import PyProof.EqKinds
import PyProof.FactsAll.subtypes_3
import PyProof.FactsAll.subtypes_4
import PyProof.FactsAll.dict_1
import HandS.ForMost
import HandS.Exc
import HandS.ExcOwn
import HandS.TryOnly
import HandS.IsInst
import HandS.Wide
import HandS.Gcd
import HandS.TupAny
import HandS.RaiseMore
import HandS.CallSlots
import HandS.WordsExc
import PyProof.ReprRoads
import HandS.Defaults
import PyProof.RowDictHeap
import HandS.ExcIs
import HandS.Words
import HandS.HeadHook2
import PyProof.ReprLen
import PyProof.Rows.RegStrFacts
import PySem.Challenge.RW_wherewhen_k03_fractions_reckoned
section
set_option Elab.async false
set_option linter.all false
set_option maxRecDepth 100000
set_option maxHeartbeats 4000000
/-! a dict is no text: == tells False -/
namespace PySem.MiDs
open PySem PySem.Spec PyProof.Rows PySem.SeqAt
theorem no1 (z : Str) (u : Tok) (l : Addr) (dt : Array DictEntry) (n : Nat) (dd : Option Addr) (sl : Array (Option Value)) :
    Meets (Builtin.«dict.__eq__» ⟨[.ref l, .str z u], []⟩) (fun _ R s => s.heap.get? l = some ⟨.type "dict", dd, .dict dt n, sl⟩ ∧ R (.ok (.ret .notImplemented)) s) := by
  refine .of_wp fun prog w A R s q => ?_
  obtain ⟨hp, g, d, tk, os⟩ := s
  obtain ⟨hl, q2⟩ := q
  have f1 := F.sub_str_dict
  wp_walk using wpAny_loadPart' hl
  exact ⟨_, rfl, q2⟩
theorem no2 (z : Str) (u : Tok) (l : Addr) (c : Value) (dt : Array DictEntry) (n : Nat) (dd : Option Addr) (sl : Array (Option Value)) :
    Meets (Builtin.«str.__eq__» ⟨[.str z u, .ref l], []⟩) (fun _ R s => s.heap.get? l = some ⟨c, dd, .dict dt n, sl⟩ ∧ R (.ok (.ret .notImplemented)) s) := by
  refine .of_wp fun prog w A R s q => ?_
  obtain ⟨hp, g, d, tk, os⟩ := s
  obtain ⟨hl, q2⟩ := q
  wp_walk using wpAny_loadPart' hl, wpAny_load hl
  exact ⟨_, rfl, q2⟩
theorem eqDS {prog : Program} {w : World} {A : Around} {E : Value → Shared → Prop} {s : Shared} {l : Addr} {o : Obj} {dt : Array DictEntry} {n : Nat} {z : Str} {u : Tok} {Q : Value → Shared → Prop} (ho : s.heap.get? l = some o) (hc : o.cls = .type "dict") (hd : o.data = .dict dt n) (hu : A.units < cLine)
    (q : Q (.bool false) s) : wpAny (model prog w) A (compareOp .Eq (.ref l) (.str z u)) Q E s := by
  obtain ⟨c, dd, dat, sl⟩ := o
  dsimp only at hc hd
  subst hc hd
  show wpAny (model prog w) A (richCompare .Eq (.ref l) (.str z u)) Q E s
  refine rc_eq_decline_or (k := false) ⟨_, ho, rfl⟩ (typeIs_str s z u) (by decide) F.sub_str_dict F.slot_dict_eq F.slot_str_eq_refl (fun Q' q' => ?_) (fun Q' q' => ?_) (fun Q' q' => ?_) (.inr hu) q
  · exact call_meets F.slot_dict_eq ⟨_, ho, rfl⟩ F.entry_dict_eq (F.args_dict_eq_2 _ _) (no1 z u l dt n dd sl) ⟨ho, q'⟩
  · exact call_meets F.slot_str_eq_refl (typeIs_str s z u) F.entry_str_eq (F.args_str_eq_2 _ _) (no2 z u l (.type "dict") dt n dd sl) ⟨ho, q'⟩
  · exact wpAny_of_eq (rfl : isSame (.ref l) (.str z u) = pure false) q'
end PySem.MiDs
namespace L2
open PySem PySem.Spec PyProof.Rows
def rEqDS : R2 := fun x y H Q => ∃ (a : Addr) (kvs : List (L2.Key × V)) (z : Str), x = .ref a ∧ y = .str z ∧ H a = some (.dK kvs) ∧ Q (.bl false) H
theorem op_eqDS {X : Cx} (hu : X.A.units + 64 < cLine) : OpR X (compareOp .Eq) rEqDS := by
  intro pins s σ H x y v u Q I rx ry h
  obtain ⟨a, kvs, z, rfl, rfl, hx, q⟩ := h
  cases rx
  obtain ⟨t, rfl⟩ := ry
  obtain ⟨_, _, vs, _, hd⟩ : kvs.length ≤ sizeLine ∧ (a == sysModules) = false ∧ ∃ vs, KV kvs vs ∧ s.heap.DictOf (mixKind X.prog X.w) a vs := I.hok a _ hx
  obtain ⟨o, es, ep, g1, g2, g3, _⟩ := hd
  exact PySem.MiDs.eqDS g1 g2.1 g3 (by omega) ⟨.bl false, H, I, rfl, q⟩
end L2
end

section
set_option Elab.async false
set_option linter.all false
set_option autoImplicit false
set_option maxRecDepth 100000
/-! Plain values, plain heaps, and what a piece of the program is worth over them. -/
namespace MI
open PySem L2

/-- a plain value: a tuple is its items, a list is the number of its cell, the script its ints -/
inductive D where
  | non | bl (b : Bool) | int (i : Int) | str (x : Str) | tup (l : List D) | ref (n : Nat) | scr (l : List Int) | opq | adr (a : Addr) | ty (n : String)
/-- a cell -/
inductive Cell where
  | lst (l : List D)
  | dct (l : List (L2.Key × D))
abbrev Hq := List Cell
/-- what is raised: the class by its name, what it keeps -/
structure Xn where
  cls : Str
  val : Option (Str × D) := none
inductive Rs (α : Type) where
  | ok (a : α) (h : Hq)
  | exc (x : Xn) (h : Hq)
  | no
namespace Rs
variable {α β γ : Type}
def bind (r : Rs α) (f : α → Hq → Rs β) : Rs β := match r with
  | ok a h => f a h
  | exc x h => exc x h
  | no => no
@[simp] theorem bind_ok (a : α) (h : Hq) (f : α → Hq → Rs β) : (ok a h).bind f = f a h := rfl
@[simp] theorem bind_exc (x : Xn) (h : Hq) (f : α → Hq → Rs β) : (exc x h : Rs α).bind f = exc x h := rfl
@[simp] theorem bind_no (f : α → Hq → Rs β) : (no : Rs α).bind f = no := rfl
end Rs
abbrev Fr := List (Option D)
/-- an expression's, a test's, an argument list's worth -/
abbrev Sx := Fr → Hq → Rs D
abbrev Sb := Fr → Hq → Rs Bool
abbrev Sa := Fr → Hq → Rs (List D)
/-- a def's -/
abbrev Sf := List D → Hq → Rs D

/-! ### how plain things lie in the layer's heap -/
/-- the script's list, which nothing changes -/
def Scr (K : PySem.W.Frag) (H : Hp) (a : Addr) (l : List Int) : Prop :=
  (∃ o, H a = some (.frz o (.lst (l.map V.int)))) ∨
    ∃ (o : Obj) (its : Array Value) (n : Nat), K.lookup a = some o ∧ o.cls = .type "list" ∧ o.dict = none ∧ o.data = .seq its n ∧ its.size ≤ sizeLine ∧ Vals (l.map V.int) its.toList
theorem Scr.sq {K : PySem.W.Frag} {H : Hp} {a : Addr} {l : List Int} (h : Scr K H a l) : SqL K H a (l.map V.int) := by
  rcases h with ⟨o, h⟩ | h
  · exact .inl (.inr ⟨o, h⟩)
  · exact .inr h
mutual
inductive VR (K : PySem.W.Frag) (ι : List Addr) (H : Hp) : V → D → Prop
  | non : VR K ι H .non .non
  | bl (b : Bool) : VR K ι H (.bl b) (.bl b)
  | int (i : Int) : VR K ι H (.int i) (.int i)
  | str (x : Str) : VR K ι H (.str x) (.str x)
  | tup {a : Addr} {vs : List V} {l : List D} : H a = some (.tup vs) → VRs K ι H vs l → VR K ι H (.ref a) (.tup l)
  | ref {a : Addr} {n : Nat} : ι[n]? = some a → VR K ι H (.ref a) (.ref n)
  | scr {a : Addr} {l : List Int} : Scr K H a l → VR K ι H (.ref a) (.scr l)
  | opq (v : V) : VR K ι H v .opq
  | adr (a : Addr) : VR K ι H (.ref a) (.adr a)
  | ty (n : String) : VR K ι H (.ty n) (.ty n)
inductive VRs (K : PySem.W.Frag) (ι : List Addr) (H : Hp) : List V → List D → Prop
  | nil : VRs K ι H [] []
  | cons {v : V} {vs : List V} {d : D} {l : List D} : VR K ι H v d → VRs K ι H vs l → VRs K ι H (v :: vs) (d :: l)
end
/-- what grows: cells are added, what was tracked beside the cells stays -/
structure Ext (ι : List Addr) (H : Hp) (ι' : List Addr) (H' : Hp) : Prop where
  pre : ∃ t, ι' = ι ++ t ∧ ∀ a ∈ t, H a = none
  tups : ∀ a xs, H a = some (.tup xs) → H' a = some (.tup xs)
  frzs : ∀ a o u, H a = some (.frz o u) → H' a = some (.frz o u)
  keep : ∀ a o, H a = some o → a ∉ ι → H' a = some o
  live : ∀ a, H a ≠ none → H' a ≠ none
theorem Ext.refl (ι : List Addr) (H : Hp) : Ext ι H ι H := ⟨⟨[], by simp, fun a h => (nomatch h)⟩, fun _ _ h => h, fun _ _ _ h => h, fun _ _ h _ => h, fun _ h => h⟩
theorem Ext.get {ι ι' : List Addr} {H H' : Hp} (e : Ext ι H ι' H') {n : Nat} {a : Addr} (h : ι[n]? = some a) : ι'[n]? = some a := by
  obtain ⟨t, rfl, _⟩ := e.pre
  rw [List.getElem?_append_left (List.getElem?_eq_some_iff.mp h).1]
  exact h
theorem Ext.trans {ι ι1 ι2 : List Addr} {H H1 H2 : Hp} (e : Ext ι H ι1 H1) (f : Ext ι1 H1 ι2 H2) : Ext ι H ι2 H2 := by
  obtain ⟨t, rfl, ht⟩ := e.pre
  obtain ⟨u, rfl, hu⟩ := f.pre
  refine ⟨⟨t ++ u, by rw [List.append_assoc], fun a ha => ?_⟩, fun a xs h => f.tups a xs (e.tups a xs h), fun a o x h => f.frzs a o x (e.frzs a o x h), fun a o h n => ?_, fun a h => f.live a (e.live a h)⟩
  · rcases List.mem_append.mp ha with ha | ha
    · exact ht a ha
    · cases q : H a with
      | none => rfl
      | some o => exact absurd (hu a ha) (e.live a (by rw [q]; exact Option.some_ne_none o))
  · refine f.keep a o (e.keep a o h n) fun hm => ?_
    rcases List.mem_append.mp hm with hm | hm
    · exact n hm
    · rw [ht a hm] at h; cases h
theorem Scr.ext {K : PySem.W.Frag} {ι ι' : List Addr} {H H' : Hp} {a : Addr} {l : List Int} (h : Scr K H a l) (e : Ext ι H ι' H') : Scr K H' a l := by
  rcases h with ⟨o, h⟩ | h
  · exact .inl ⟨o, e.frzs _ _ _ h⟩
  · exact .inr h
mutual
theorem VR.ext {K : PySem.W.Frag} {ι ι' : List Addr} {H H' : Hp} (e : Ext ι H ι' H') : ∀ {v : V} {d : D}, VR K ι H v d → VR K ι' H' v d
  | _, _, .non => .non
  | _, _, .bl b => .bl b
  | _, _, .int i => .int i
  | _, _, .str x => .str x
  | _, _, .tup h r => .tup (e.tups _ _ h) (VRs.ext e r)
  | _, _, .ref h => .ref (e.get h)
  | _, _, .scr h => .scr (h.ext e)
  | _, _, .opq v => .opq v
  | _, _, .adr a => .adr a
  | _, _, .ty n => .ty n
theorem VRs.ext {K : PySem.W.Frag} {ι ι' : List Addr} {H H' : Hp} (e : Ext ι H ι' H') : ∀ {vs : List V} {l : List D}, VRs K ι H vs l → VRs K ι' H' vs l
  | _, _, .nil => .nil
  | _, _, .cons r t => .cons (VR.ext e r) (VRs.ext e t)
end
mutual
/-- more cells are counted, over the same heap -/
theorem VR.grow {K : PySem.W.Frag} {ι t : List Addr} {H : Hp} : ∀ {v : V} {d : D}, VR K ι H v d → VR K (ι ++ t) H v d
  | _, _, .non => .non
  | _, _, .bl b => .bl b
  | _, _, .int i => .int i
  | _, _, .str x => .str x
  | _, _, .tup h r => .tup h (VRs.grow r)
  | _, _, .ref h => .ref (by rw [List.getElem?_append_left (List.getElem?_eq_some_iff.mp h).1]; exact h)
  | _, _, .scr h => .scr h
  | _, _, .opq v => .opq v
  | _, _, .adr a => .adr a
  | _, _, .ty n => .ty n
theorem VRs.grow {K : PySem.W.Frag} {ι t : List Addr} {H : Hp} : ∀ {vs : List V} {l : List D}, VRs K ι H vs l → VRs K (ι ++ t) H vs l
  | _, _, .nil => .nil
  | _, _, .cons r u => .cons (VR.grow r) (VRs.grow u)
end
section
variable {K : PySem.W.Frag} {ι : List Addr} {H : Hp}
theorem VRs.length : ∀ {vs : List V} {l : List D}, VRs K ι H vs l → vs.length = l.length
  | _, _, .nil => rfl
  | _, _, .cons _ t => by rw [List.length_cons, List.length_cons, VRs.length t]
theorem VRs.append : ∀ {vs ws : List V} {l m : List D}, VRs K ι H vs l → VRs K ι H ws m → VRs K ι H (vs ++ ws) (l ++ m)
  | _, _, _, _, .nil, s => s
  | _, _, _, _, .cons r t, s => .cons r (VRs.append t s)
theorem VRs.get : ∀ {vs : List V} {l : List D} {i : Nat} {d : D}, VRs K ι H vs l → l[i]? = some d → ∃ v, vs[i]? = some v ∧ VR K ι H v d
  | _, _, _, _, .nil, e => by simp at e
  | _, _, 0, _, .cons r _, e => by simp at e; subst e; exact ⟨_, rfl, r⟩
  | _, _, i + 1, d, .cons _ t, e => by
    obtain ⟨v, h1, h2⟩ := VRs.get (i := i) (d := d) t (by simpa using e)
    exact ⟨v, by simpa using h1, h2⟩
theorem VRs.set {v : V} {d : D} (r : VR K ι H v d) : ∀ {vs : List V} {l : List D} (i : Nat), VRs K ι H vs l → VRs K ι H (vs.set i v) (l.set i d)
  | _, _, _, .nil => .nil
  | _, _, 0, .cons _ t => .cons r t
  | _, _, i + 1, .cons q t => .cons q (VRs.set r i t)
theorem VRs.take : ∀ {vs : List V} {l : List D} (n : Nat), VRs K ι H vs l → VRs K ι H (vs.take n) (l.take n)
  | _, _, 0, _ => .nil
  | _, _, _ + 1, .nil => .nil
  | _, _, n + 1, .cons r t => .cons r (VRs.take n t)
theorem VRs.drop : ∀ {vs : List V} {l : List D} (n : Nat), VRs K ι H vs l → VRs K ι H (vs.drop n) (l.drop n)
  | _, _, 0, r => r
  | _, _, _ + 1, .nil => .nil
  | _, _, n + 1, .cons _ t => VRs.drop n t
theorem VRs.one {vs : List V} {d : D} (r : VRs K ι H vs [d]) : ∃ v, vs = [v] ∧ VR K ι H v d := by
  cases r with
  | cons a b => cases b; exact ⟨_, rfl, a⟩
theorem VRs.two {vs : List V} {d e : D} (r : VRs K ι H vs [d, e]) : ∃ v w, vs = [v, w] ∧ VR K ι H v d ∧ VR K ι H w e := by
  cases r with
  | cons a b => obtain ⟨w, rfl, q⟩ := b.one; exact ⟨_, _, rfl, a, q⟩
end
theorem ixA {l : List Addr} (hN : l.Nodup) {i j : Nat} {x : Addr} (a : l[i]? = some x) (b : l[j]? = some x) : i = j := by
  obtain ⟨h1, e1⟩ := List.getElem?_eq_some_iff.mp a
  obtain ⟨h2, e2⟩ := List.getElem?_eq_some_iff.mp b
  exact (List.getElem_inj hN).mp (e1.trans e2.symm)
/-- a cell as it lies -/
def CR (K : PySem.W.Frag) (ι : List Addr) (H : Hp) (a : Addr) : Cell → Prop
  | .lst l => ∃ vs, H a = some (.lst vs) ∧ VRs K ι H vs l
  | .dct l => ∃ kvs, H a = some (.dK kvs) ∧ kvs.map (·.1) = l.map (·.1) ∧ VRs K ι H (kvs.map (·.2)) (l.map (·.2))
structure HR (K : PySem.W.Frag) (ι : List Addr) (h : Hq) (H : Hp) : Prop where
  len : ι.length = h.length
  nd : ι.Nodup
  cells : ∀ (n : Nat) (c : Cell) (a : Addr), h[n]? = some c → ι[n]? = some a → CR K ι H a c
theorem CR.tracked {K : PySem.W.Frag} {ι : List Addr} {H : Hp} {a : Addr} {c : Cell} (r : CR K ι H a c) : ∃ o, H a = some o ∧ (∀ xs, o ≠ .tup xs) ∧ ∀ b u, o ≠ .frz b u := by
  cases c with
  | lst l => obtain ⟨vs, h, _⟩ := r; exact ⟨_, h, fun _ z => (nomatch z), fun _ _ z => (nomatch z)⟩
  | dct l => obtain ⟨kvs, h, _⟩ := r; exact ⟨_, h, fun _ z => (nomatch z), fun _ _ z => (nomatch z)⟩
section
variable {K : PySem.W.Frag} {ι ι' : List Addr} {h h' : Hq} {H H' : Hp}
theorem HR.addr (r : HR K ι h H) {n : Nat} {c : Cell} (e : h[n]? = some c) : ∃ a, ι[n]? = some a ∧ CR K ι H a c := by
  have hn : n < ι.length := by rw [r.len]; exact (List.getElem?_eq_some_iff.mp e).1
  exact ⟨ι[n], List.getElem?_eq_getElem hn, r.cells n c _ e (List.getElem?_eq_getElem hn)⟩
theorem HR.mem (r : HR K ι h H) {a : Addr} (m : a ∈ ι) : ∃ o, H a = some o ∧ (∀ xs, o ≠ .tup xs) ∧ ∀ b u, o ≠ .frz b u := by
  obtain ⟨n, hn, rfl⟩ := List.getElem_of_mem m
  have hh : n < h.length := by rw [← r.len]; exact hn
  exact (r.cells n h[n] _ (List.getElem?_eq_getElem hh) (List.getElem?_eq_getElem hn)).tracked
theorem CR.ext (e : Ext ι H ι' H') {a : Addr} {c : Cell} (r : CR K ι H a c) (s : H' a = H a) : CR K ι' H' a c := by
  cases c with
  | lst l => obtain ⟨vs, q, t⟩ := r; exact ⟨vs, s.trans q, t.ext e⟩
  | dct l => obtain ⟨kvs, q, k, t⟩ := r; exact ⟨kvs, s.trans q, k, t.ext e⟩
/-- a new tuple -/
theorem HR.tup (r : HR K ι h H) {p : Addr} (np : H p = none) (vs : List V) : Ext ι H ι (upd H p (.tup vs)) ∧ HR K ι h (upd H p (.tup vs)) := by
  have ne : ∀ a o, H a = some o → a ≠ p := fun a o q => ne_of_none q np
  have e : Ext ι H ι (upd H p (.tup vs)) := ⟨⟨[], by simp, fun a z => (nomatch z)⟩, fun a xs q => by rw [upd_ne (ne a _ q)]; exact q, fun a o u q => by rw [upd_ne (ne a _ q)]; exact q,
    fun a o q _ => by rw [upd_ne (ne a _ q)]; exact q, fun a q => by
      by_cases hp : a = p
      · subst hp; exact absurd np q
      · rw [upd_ne hp]; exact q⟩
  refine ⟨e, r.len, r.nd, fun n c a h1 h2 => (r.cells n c a h1 h2).ext e ?_⟩
  obtain ⟨o, q, _⟩ := r.mem (List.mem_of_getElem? h2)
  rw [upd_ne (ne a o q)]
/-- a new cell -/
theorem HR.new (r : HR K ι h H) {p : Addr} (np : H p = none) {o : HO} {c : Cell} (hc : ∀ ι' H', Ext ι H ι' H' → H' p = some o → CR K ι' H' p c) :
    Ext ι H (ι ++ [p]) (upd H p o) ∧ HR K (ι ++ [p]) (h ++ [c]) (upd H p o) := by
  have ne : ∀ a u, H a = some u → a ≠ p := fun a u q => ne_of_none q np
  have e : Ext ι H (ι ++ [p]) (upd H p o) := ⟨⟨[p], rfl, fun a z => by rw [List.mem_singleton.mp z]; exact np⟩, fun a xs q => by rw [upd_ne (ne a _ q)]; exact q, fun a b u q => by rw [upd_ne (ne a _ q)]; exact q,
    fun a u q _ => by rw [upd_ne (ne a _ q)]; exact q, fun a q => by
      by_cases hp : a = p
      · subst hp; exact absurd np q
      · rw [upd_ne hp]; exact q⟩
  have hp : p ∉ ι := fun m => by
    obtain ⟨u, q, _⟩ := r.mem m
    rw [np] at q; cases q
  refine ⟨e, by simp [r.len], List.nodup_append.mpr ⟨r.nd, by simp, fun a ha b hb => by
    rw [List.mem_singleton.mp hb]; rintro rfl; exact hp ha⟩, fun n d a h1 h2 => ?_⟩
  by_cases hn : n < h.length
  · rw [List.getElem?_append_left hn] at h1
    rw [List.getElem?_append_left (by rw [r.len]; exact hn)] at h2
    refine (r.cells n d a h1 h2).ext e ?_
    obtain ⟨u, q, _⟩ := r.mem (List.mem_of_getElem? h2)
    rw [upd_ne (ne a u q)]
  · have hl : n = h.length := by
      have := (List.getElem?_eq_some_iff.mp h1).1
      simp at this; omega
    subst hl
    rw [List.getElem?_append_right (Nat.le_refl _)] at h1
    rw [List.getElem?_append_right (by rw [r.len]; exact Nat.le_refl _)] at h2
    have hz : h.length - ι.length = 0 := by rw [r.len]; omega
    rw [hz] at h2
    have e1 : c = d := by simpa using h1
    have e2 : p = a := by simpa using h2
    subst e1 e2
    exact hc _ _ e upd_same
/-- a cell written -/
theorem HR.put (r : HR K ι h H) {n : Nat} {a : Addr} {c0 : Cell} (h0 : h[n]? = some c0) (ha : ι[n]? = some a) {o : HO} {c : Cell} (hc : ∀ H', Ext ι H ι H' → H' a = some o → CR K ι H' a c) :
    Ext ι H ι (upd H a o) ∧ HR K ι (h.set n c) (upd H a o) := by
  obtain ⟨u0, q0, nt, nf⟩ := r.mem (List.mem_of_getElem? ha)
  have e : Ext ι H ι (upd H a o) := ⟨⟨[], by simp, fun b z => (nomatch z)⟩, fun b xs q => by
      rw [upd_ne (fun z => by subst z; rw [q0] at q; exact nt _ (Option.some.inj q))]; exact q, fun b y u q => by
      rw [upd_ne (fun z => by subst z; rw [q0] at q; exact nf _ _ (Option.some.inj q))]; exact q, fun b u q m => by
      rw [upd_ne (fun z => by subst z; exact m (List.mem_of_getElem? ha))]; exact q, fun b q => by
      by_cases hb : b = a
      · subst hb; rw [upd_same]; exact Option.some_ne_none _
      · rw [upd_ne hb]; exact q⟩
  refine ⟨e, by simp [r.len], r.nd, fun m d b h1 h2 => ?_⟩
  by_cases hm : m = n
  · subst hm
    rw [ha] at h2; cases h2
    rw [List.getElem?_set_self (List.getElem?_eq_some_iff.mp h0).1] at h1
    cases h1
    exact hc _ e upd_same
  · rw [List.getElem?_set_ne (Ne.symm hm)] at h1
    refine (r.cells m d b h1 h2).ext e ?_
    rw [upd_ne fun z => ?_]
    subst z
    exact hm (ixA r.nd h2 ha)
end
/-- slots -/
structure FR (K : PySem.W.Frag) (ι : List Addr) (H : Hp) (σ : L2.St) (fr : Fr) : Prop where
  len : σ.length = fr.length
  val : ∀ (i : Nat) (d : D), fr[i]? = some (some d) → ∃ v, σ[i]? = some (some v) ∧ VR K ι H v d
section
variable {K : PySem.W.Frag} {ι ι' : List Addr} {H H' : Hp} {σ : L2.St} {fr : Fr}
theorem FR.ext (e : Ext ι H ι' H') (r : FR K ι H σ fr) : FR K ι' H' σ fr := ⟨r.len, fun i d q => let ⟨v, a, b⟩ := r.val i d q; ⟨v, a, b.ext e⟩⟩
theorem FR.set (r : FR K ι H σ fr) {i : Nat} {v : V} {d : D} (q : VR K ι H v d) : FR K ι H (σ.set i (some v)) (fr.set i (some d)) := by
  refine ⟨by simp [r.len], fun j e h => ?_⟩
  by_cases hj : j = i
  · subst hj
    have hl : j < fr.length := by
      have := (List.getElem?_eq_some_iff.mp h).1
      simpa using this
    rw [List.getElem?_set_self hl] at h
    cases h
    exact ⟨v, List.getElem?_set_self (by rw [r.len]; exact hl), q⟩
  · rw [List.getElem?_set_ne (Ne.symm hj)] at h ⊢
    exact r.val j e h
theorem FR.wipe (r : FR K ι H σ fr) (i : Nat) : FR K ι H (σ.set i none) (fr.set i none) := by
  refine ⟨by simp [r.len], fun j e h => ?_⟩
  by_cases hj : j = i
  · subst hj
    have hl : j < fr.length := by
      have := (List.getElem?_eq_some_iff.mp h).1
      simpa using this
    rw [List.getElem?_set_self hl] at h
    cases h
  · rw [List.getElem?_set_ne (Ne.symm hj)] at h ⊢
    exact r.val j e h
end
/-- what lies of an exception -/
def XR (K : PySem.W.Frag) (mg : Str → Option Value) (ι : List Addr) (H : Hp) (x : Xn) (cls : Value) (d : Option Addr) : Prop :=
  ∃ C : Addr, mg x.cls = some (.ref C) ∧ cls = .ref C ∧ match x.val with
    | none => d = none
    | some (f, w) => ∃ a v, d = some a ∧ H a = some (.xd [(f, v)]) ∧ VR K ι H v w
/-- what is wanted of a worth: of each way that things may lie behind it -/
def Po (K : PySem.W.Frag) (mg : Str → Option Value) {α β : Type} (R : List Addr → Hp → β → α → Prop) (ι : List Addr) (H : Hp) (Q : β → Hp → Prop) (E : XK) : Rs α → Prop
  | .ok a h' => ∀ ι' H' v, Ext ι H ι' H' → HR K ι' h' H' → R ι' H' v a → Q v H'
  | .exc x h' => ∀ ι' H' cls d, Ext ι H ι' H' → HR K ι' h' H' → XR K mg ι' H' x cls d → E cls d H'
  | .no => False
abbrev PoV (K : PySem.W.Frag) (mg : Str → Option Value) (ι : List Addr) (H : Hp) (Q : VK) (E : XK) : Rs D → Prop := Po K mg (VR K) ι H Q E
abbrev PoB (K : PySem.W.Frag) (mg : Str → Option Value) (ι : List Addr) (H : Hp) (Q : Bool → Hp → Prop) (E : XK) : Rs Bool → Prop := Po K mg (fun _ _ (b c : Bool) => b = c) ι H Q E
abbrev PoA (K : PySem.W.Frag) (mg : Str → Option Value) (ι : List Addr) (H : Hp) (Q : List V → Hp → Prop) (E : XK) : Rs (List D) → Prop := Po K mg (VRs K) ι H Q E
section
variable {K : PySem.W.Frag} {mg : Str → Option Value} {ι ι' : List Addr} {H H' : Hp} {E : XK}
theorem Po.ext {α β : Type} {R : List Addr → Hp → β → α → Prop} {Q : β → Hp → Prop} (e : Ext ι H ι' H') : ∀ {r : Rs α}, Po K mg R ι H Q E r → Po K mg R ι' H' Q E r
  | .ok _ _, h => fun i2 H2 v e2 => h i2 H2 v (e.trans e2)
  | .exc _ _, h => fun i2 H2 c d e2 => h i2 H2 c d (e.trans e2)
  | .no, h => h
/-- the first of two: what it is worth, and behind it what is wanted of the rest -/
theorem Po.bind {α β γ δ : Type} {R : List Addr → Hp → β → α → Prop} {S : List Addr → Hp → δ → γ → Prop} {Q : δ → Hp → Prop} {f : α → Hq → Rs γ} : ∀ {r : Rs α}, Po K mg S ι H Q E (r.bind f) →
    Po K mg R ι H (fun v H1 => ∃ ι1 h1 a, Ext ι H ι1 H1 ∧ HR K ι1 h1 H1 ∧ R ι1 H1 v a ∧ Po K mg S ι1 H1 Q E (f a h1)) E r
  | .ok a h1, h => fun i1 H1 v e1 r1 q => ⟨i1, h1, a, e1, r1, q, Po.ext e1 h⟩
  | .exc _ _, h => h
  | .no, h => h
end
end MI
end

section
set_option Elab.async false
set_option linter.all false
set_option autoImplicit false
set_option maxRecDepth 100000
set_option maxHeartbeats 4000000
namespace MI
open PySem L2

theorem line_eq : (sizeLine : Nat) = 16777216 := PySem.sizeLine_eq

/-! ### the judgements -/
section
variable {K : PySem.W.Frag} {mg : Str → Option Value} {ι ι' : List Addr} {H H' : Hp} {E : XK}
theorem Po.mono {α β : Type} {R : List Addr → Hp → β → α → Prop} {Q Q' : β → Hp → Prop} (m : ∀ v H1, Q v H1 → Q' v H1) : ∀ {r : Rs α}, Po K mg R ι H Q E r → Po K mg R ι H Q' E r
  | .ok _ _, h => fun i1 H1 v e1 r1 q => m _ _ (h i1 H1 v e1 r1 q)
  | .exc _ _, h => h
  | .no, h => h
end
/-- where one stands -/
def tM (K : PySem.W.Frag) (mg : Str → Option Value) (E : XK) (f : Sx) : TE := fun σ H Q => ∃ ι h fr, HR K ι h H ∧ FR K ι H σ fr ∧ PoV K mg ι H Q E (f fr h)
def tMb (K : PySem.W.Frag) (mg : Str → Option Value) (E : XK) (f : Sb) : TT := fun σ H Q => ∃ ι h fr, HR K ι h H ∧ FR K ι H σ fr ∧ PoB K mg ι H Q E (f fr h)
def tMa (K : PySem.W.Frag) (mg : Str → Option Value) (E : XK) (f : Sa) : TA := fun σ H Q => ∃ ι h fr, HR K ι h H ∧ FR K ι H σ fr ∧ PoA K mg ι H Q E (f fr h)
abbrev PM (X : Cx) (E : XK) (e : Expr) (f : Sx) : Prop := PE X e (tM X.K X.mg E f)
abbrev PMb (X : Cx) (E : XK) (e : Expr) (f : Sb) : Prop := PT X e (tMb X.K X.mg E f)
abbrev PMw (X : Cx) (E : XK) (e : Expr) (f : Sb) : Prop := PW X e (tMb X.K X.mg E f)
abbrev PMa (X : Cx) (E : XK) (es : List Expr) (f : Sa) : Prop := PA X es (tMa X.K X.mg E f)

section
variable {X : Cx} {e : Expr} {es : List Expr}
theorem pe_imp {t t' : TE} (h : PE X e t) (m : ∀ σ H Q, t' σ H Q → t σ H Q) : PE X e t' := ⟨fun pins s σ H Q I q => h.run pins s σ H Q I (m σ H Q q)⟩
theorem pt_imp {t t' : TT} (h : PT X e t) (m : ∀ σ H Q, t' σ H Q → t σ H Q) : PT X e t' := ⟨fun pins s σ H Q I q => h.run pins s σ H Q I (m σ H Q q)⟩
theorem pw_imp {t t' : TT} (h : PW X e t) (m : ∀ σ H Q, t' σ H Q → t σ H Q) : PW X e t' := ⟨fun wh pins s σ H Q I q => h.run wh pins s σ H Q I (m σ H Q q)⟩
theorem pa_imp {t t' : TA} (h : PA X es t) (m : ∀ σ H Q, t' σ H Q → t σ H Q) : PA X es t' := ⟨fun pos pins s σ H Q I q => h.run pos pins s σ H Q I (m σ H Q q)⟩
end

/-! ### values -/
def eK (d : D) : Sx := fun _ h => .ok d h
def eV (i : Nat) : Sx := fun fr h => match fr[i]? with
  | some (some d) => .ok d h
  | _ => .no
section
variable {X : Cx} {E : XK}
theorem m_int {i : Int} {j : Nat} {pos : Pos} : PM X E (.Constant (.int i) j pos) (eK (.int i)) := pe_imp pe_int fun σ H Q ⟨ι, h, fr, R, F, P⟩ => P ι H _ (Ext.refl _ _) R (.int i)
theorem m_bl {b : Bool} {j : Nat} {pos : Pos} : PM X E (.Constant (.bool b) j pos) (eK (.bl b)) := pe_imp pe_bl fun σ H Q ⟨ι, h, fr, R, F, P⟩ => P ι H _ (Ext.refl _ _) R (.bl b)
theorem m_non {j : Nat} {pos : Pos} : PM X E (.Constant .none j pos) (eK .non) := pe_imp pe_non fun σ H Q ⟨ι, h, fr, R, F, P⟩ => P ι H _ (Ext.refl _ _) R .non
theorem m_str {x : Str} {j : Nat} {pos : Pos} : PM X E (.Constant (.str x) j pos) (eK (.str x)) := pe_imp pe_str fun σ H Q ⟨ι, h, fr, R, F, P⟩ => P ι H _ (Ext.refl _ _) R (.str x)
theorem m_var (i : Nat) {x : Str} {pos : Pos} (hN : X.N[i]? = some x := by rfl) (hv : Vis X.env.scope x := by first | exact Or.inl rfl | exact Or.inr (Or.inl rfl) | exact Or.inr (Or.inr rfl)) (hd : (x == ("__debug__" : Str)) = false := by decide)
    (hcd : (x == ("__classdict__" : Str)) = false := by decide) : PM X E (.Name x pos) (eV i) := pe_imp (pe_var hN hv hd hcd) fun σ H Q ⟨ι, h, fr, R, F, P⟩ => by
  unfold eV at P
  split at P
  · rename_i d q
    obtain ⟨v, e, r⟩ := F.val i d q
    exact ⟨v, e, P ι H v (Ext.refl _ _) R r⟩
  · exact P.elim
/-- a module's number -/
theorem m_glob {x : Str} {i : Int} {t : Tok} {pos : Pos} (hm : X.mg x = some (.int i t)) (hg : Gl X x := by rfl) (hd : (x == ("__debug__" : Str)) = false := by decide) : PM X E (.Name x pos) (eK (.int i)) :=
  pe_imp (pe_glob (v := V.int i) hg hm ⟨t, rfl⟩ hd) fun σ H Q ⟨ι, h, fr, R, F, P⟩ => P ι H _ (Ext.refl _ _) R (.int i)
end

/-! ### two-place operations -/
def eOp (g : D → D → Hq → Rs D) (a b : Sx) : Sx := fun fr h => (a fr h).bind fun x h1 => (b fr h1).bind fun y h2 => g x y h2
def OpS (K : PySem.W.Frag) (mg : Str → Option Value) (E : XK) (g : D → D → Hq → Rs D) (r : R2) : Prop :=
  ∀ (ι : List Addr) (h : Hq) (H : Hp) (x y : D) (v w : V) (Q : VK), HR K ι h H → VR K ι H v x → VR K ι H w y → PoV K mg ι H Q E (g x y h) → r v w H Q
theorem op_in {K : PySem.W.Frag} {mg : Str → Option Value} {E : XK} {g : D → D → Hq → Rs D} {r : R2} (hs : OpS K mg E g r) {fa fb : Sx} {σ : L2.St} {H : Hp} {Q : VK} (q : tM K mg E (eOp g fa fb) σ H Q) :
    tOp r (tM K mg E fa) (tM K mg E fb) σ H Q := by
  obtain ⟨ι, h, fr, R, F, P⟩ := q
  refine ⟨ι, h, fr, R, F, Po.mono ?_ (Po.bind P)⟩
  rintro v H1 ⟨ι1, h1, x, e1, R1, r1, P1⟩
  refine ⟨ι1, h1, fr, R1, F.ext e1, Po.mono ?_ (Po.bind P1)⟩
  rintro w H2 ⟨ι2, h2, y, e2, R2, r2, P2⟩
  exact hs ι2 h2 H2 x y v w Q R2 (r1.ext e2) r2 P2
section
variable {X : Cx} {E : XK} {a b : Expr} {fa fb : Sx} {pos : Pos}
theorem m_bin {op : Operator} {g : D → D → Hq → Rs D} {r : R2} (ho : OpR X (binaryOp op) r) (hs : OpS X.K X.mg E g r) (ha : PM X E a fa) (hb : PM X E b fb) : PM X E (.BinOp a op b pos) (eOp g fa fb) :=
  pe_imp (pe_op ho ha hb) fun _ _ _ q => op_in hs q
theorem m_cmpV {op : CmpOp} {g : D → D → Hq → Rs D} {r : R2} (ho : OpR X (compareOp op) r) (hs : OpS X.K X.mg E g r) (ha : PM X E a fa) (hb : PM X E b fb) (hm : behindInMarks op b = false := by first | rfl | decide) :
    PM X E (.Compare a [op] [b] pos) (eOp g fa fb) := pe_imp (pe_cmpR ho ha hb hm) fun _ _ _ q => op_in hs q
end
/-- a worth that is a truth -/
def isB (r : Rs D) : Rs Bool := r.bind fun x h => match x with
  | .bl b => .ok b h
  | _ => .no
def bOf (f : Sx) : Sb := fun fr h => isB (f fr h)
theorem test_in {K : PySem.W.Frag} {mg : Str → Option Value} {E : XK} {f : Sx} {σ : L2.St} {H : Hp} {Q : Bool → Hp → Prop} (q : tMb K mg E (bOf f) σ H Q) :
    tM K mg E f σ H fun x H1 => ∃ c, x = .bl c ∧ Q c H1 := by
  obtain ⟨ι, h, fr, R, F, P⟩ := q
  refine ⟨ι, h, fr, R, F, Po.mono ?_ (Po.bind P)⟩
  rintro v H1 ⟨ι1, h1, x, e1, R1, r1, P1⟩
  cases x with
  | bl b =>
    cases r1
    exact ⟨b, rfl, P1 ι1 H1 b (Ext.refl _ _) R1 rfl⟩
  | _ => exact P1.elim
section
variable {X : Cx} {E : XK} {a b c : Expr} {fa fb : Sx} {pos : Pos}
theorem m_cmp {op : CmpOp} {g : D → D → Hq → Rs D} {r : R2} (ho : OpR X (compareOp op) r) (hs : OpS X.K X.mg E g r) (ha : PM X E a fa) (hb : PM X E b fb) (hm : behindInMarks op b = false := by first | rfl | decide) :
    PMb X E (.Compare a [op] [b] pos) (bOf (eOp g fa fb)) := pt_imp (pt_cmpR ho ha hb hm) fun σ H Q q => op_in hs (test_in q)
/-- an expression whose worth is a truth, as a test -/
theorem m_test (ha : PM X E a fa) (he : ∀ whole, isTrue a X.env whole = (do let v ← whole; standAt a.pos; holding [v] (truthy v)) := by intro _; rfl) : PMb X E a (bOf fa) :=
  pt_imp (pt_val ha he) fun σ H Q q => test_in q
/-- a test as a worth -/
def eB (f : Sb) : Sx := fun fr h => (f fr h).bind fun b h1 => .ok (.bl b) h1
end

/-! ### and, or, not -/
def bAnd (f g : Sb) : Sb := fun fr h => (f fr h).bind fun c h1 => if c = true then g fr h1 else .ok false h1
def bOr (f g : Sb) : Sb := fun fr h => (f fr h).bind fun c h1 => if c = true then .ok true h1 else g fr h1
def bNot (f : Sb) : Sb := fun fr h => (f fr h).bind fun c h1 => .ok (!c) h1
section
variable {X : Cx} {E : XK} {a b : Expr} {fa fb : Sb} {rest : List Expr} {pos : Pos}
theorem m_and1 (ha : PMb X E a fa) : PMw X E (.BoolOp .And [a] pos) fa := pw_and1 ha
theorem m_or1 (ha : PMb X E a fa) : PMw X E (.BoolOp .Or [a] pos) fa := pw_or1 ha
theorem m_and (ha : PMb X E a fa) (hb : PMw X E (.BoolOp .And (b :: rest) pos) fb) : PMw X E (.BoolOp .And (a :: b :: rest) pos) (bAnd fa fb) := pw_imp (pw_and ha hb) fun σ H Q ⟨ι, h, fr, R, F, P⟩ => by
  refine ⟨ι, h, fr, R, F, Po.mono ?_ (Po.bind P)⟩
  rintro c H1 ⟨ι1, h1, d, e1, R1, r1, P1⟩
  subst r1
  cases c with
  | true => exact ⟨ι1, h1, fr, R1, F.ext e1, P1⟩
  | false => exact P1 ι1 H1 false (Ext.refl _ _) R1 rfl
theorem m_or (ha : PMb X E a fa) (hb : PMw X E (.BoolOp .Or (b :: rest) pos) fb) : PMw X E (.BoolOp .Or (a :: b :: rest) pos) (bOr fa fb) := pw_imp (pw_or ha hb) fun σ H Q ⟨ι, h, fr, R, F, P⟩ => by
  refine ⟨ι, h, fr, R, F, Po.mono ?_ (Po.bind P)⟩
  rintro c H1 ⟨ι1, h1, d, e1, R1, r1, P1⟩
  subst r1
  cases c with
  | false => exact ⟨ι1, h1, fr, R1, F.ext e1, P1⟩
  | true => exact P1 ι1 H1 true (Ext.refl _ _) R1 rfl
theorem m_w (h : PMw X E a fa) : PMb X E a fa := h.pt
theorem m_not (ha : PMb X E a fa) : PMb X E (.UnaryOp .Not a pos) (bNot fa) := pt_imp (pt_not ha) fun σ H Q ⟨ι, h, fr, R, F, P⟩ => by
  refine ⟨ι, h, fr, R, F, Po.mono ?_ (Po.bind P)⟩
  rintro c H1 ⟨ι1, h1, d, e1, R1, r1, P1⟩
  subst r1
  exact P1 ι1 H1 _ (Ext.refl _ _) R1 rfl
end
/-- .. as values -/
def eAnd (f g : Sx) : Sx := fun fr h => (isB (f fr h)).bind fun c h1 => if c = true then g fr h1 else .ok (.bl false) h1
def eOr (f g : Sx) : Sx := fun fr h => (isB (f fr h)).bind fun c h1 => if c = true then .ok (.bl true) h1 else g fr h1
def eNot (f : Sx) : Sx := fun fr h => (isB (f fr h)).bind fun c h1 => .ok (.bl (!c)) h1
theorem isB_in {K : PySem.W.Frag} {mg : Str → Option Value} {ι : List Addr} {H : Hp} {E : XK} {δ γ : Type} {S : List Addr → Hp → δ → γ → Prop} {Q : δ → Hp → Prop} {k : Bool → Hq → Rs γ} {r : Rs D} (P : Po K mg S ι H Q E ((isB r).bind k)) :
    PoV K mg ι H (fun v H1 => ∃ c, v = .bl c ∧ ∃ ι1 h1, Ext ι H ι1 H1 ∧ HR K ι1 h1 H1 ∧ Po K mg S ι1 H1 Q E (k c h1)) E r := by
  have P' : Po K mg S ι H Q E (r.bind fun x h => (match x with | .bl b => (.ok b h : Rs Bool) | _ => .no).bind k) := by
    cases r with
    | ok a h => exact P
    | exc x h => exact P
    | no => exact P
  refine Po.mono ?_ (Po.bind P')
  rintro v H1 ⟨ι1, h1, d, e1, R1, r1, P1⟩
  cases d with
  | bl b => cases r1; exact ⟨b, rfl, ι1, h1, e1, R1, P1⟩
  | _ => exact P1.elim
section
variable {X : Cx} {E : XK} {a b : Expr} {fa fb : Sx} {rest : List Expr} {pos : Pos}
theorem m_one {op : BoolOp} (ha : PM X E a fa) : PM X E (.BoolOp op [a] pos) fa := pe_one ha
theorem m_andV (ha : PM X E a fa) (hb : PM X E (.BoolOp .And (b :: rest) pos) fb) : PM X E (.BoolOp .And (a :: b :: rest) pos) (eAnd fa fb) := pe_imp (pe_and ha hb) fun σ H Q ⟨ι, h, fr, R, F, P⟩ => by
  refine ⟨ι, h, fr, R, F, Po.mono ?_ (isB_in P)⟩
  rintro v H1 ⟨c, rfl, ι1, h1, e1, R1, P1⟩
  refine ⟨c, rfl, ?_⟩
  cases c with
  | true => exact ⟨ι1, h1, fr, R1, F.ext e1, P1⟩
  | false => exact P1 ι1 H1 _ (Ext.refl _ _) R1 (.bl false)
theorem m_orV (ha : PM X E a fa) (hb : PM X E (.BoolOp .Or (b :: rest) pos) fb) : PM X E (.BoolOp .Or (a :: b :: rest) pos) (eOr fa fb) := pe_imp (pe_or ha hb) fun σ H Q ⟨ι, h, fr, R, F, P⟩ => by
  refine ⟨ι, h, fr, R, F, Po.mono ?_ (isB_in P)⟩
  rintro v H1 ⟨c, rfl, ι1, h1, e1, R1, P1⟩
  refine ⟨c, rfl, ?_⟩
  cases c with
  | true => exact P1 ι1 H1 _ (Ext.refl _ _) R1 (.bl true)
  | false => exact ⟨ι1, h1, fr, R1, F.ext e1, P1⟩
theorem m_notV (ha : PM X E a fa) : PM X E (.UnaryOp .Not a pos) (eNot fa) := pe_imp (pe_not ha) fun σ H Q ⟨ι, h, fr, R, F, P⟩ => by
  refine ⟨ι, h, fr, R, F, Po.mono ?_ (isB_in P)⟩
  rintro v H1 ⟨c, rfl, ι1, h1, e1, R1, P1⟩
  exact ⟨c, rfl, P1 ι1 H1 _ (Ext.refl _ _) R1 (.bl _)⟩
def eIf (t : Sb) (f g : Sx) : Sx := fun fr h => (t fr h).bind fun c h1 => if c = true then f fr h1 else g fr h1
theorem m_if {c : Expr} {fc : Sb} (hc : PMb X E c fc) (ha : PM X E a fa) (hb : PM X E b fb) : PM X E (.IfExp c a b pos) (eIf fc fa fb) := pe_imp (pe_ifExp hc ha hb) fun σ H Q ⟨ι, h, fr, R, F, P⟩ => by
  refine ⟨ι, h, fr, R, F, Po.mono ?_ (Po.bind P)⟩
  rintro c H1 ⟨ι1, h1, d, e1, R1, r1, P1⟩
  subst r1
  cases c with
  | true => rw [if_pos rfl]; exact ⟨ι1, h1, fr, R1, F.ext e1, P1⟩
  | false => rw [if_neg Bool.false_ne_true]; exact ⟨ι1, h1, fr, R1, F.ext e1, P1⟩
end

/-! ### arguments, displays -/
def aNil : Sa := fun _ h => .ok [] h
def aCons (f : Sx) (g : Sa) : Sa := fun fr h => (f fr h).bind fun x h1 => (g fr h1).bind fun xs h2 => .ok (x :: xs) h2
section
variable {X : Cx} {E : XK} {a : Expr} {as : List Expr} {fa : Sx} {fs : Sa} {pos : Pos}
theorem m_nil : PMa X E [] aNil := pa_imp pa_nil fun σ H Q ⟨ι, h, fr, R, F, P⟩ => P ι H [] (Ext.refl _ _) R .nil
theorem m_cons (ha : PM X E a fa) (hr : PMa X E as fs) (hs : starEach (a :: as) X.env = (false, eval a X.env) :: starEach as X.env := by rfl) : PMa X E (a :: as) (aCons fa fs) := pa_imp (pa_cons ha hr hs) fun σ H Q ⟨ι, h, fr, R, F, P⟩ => by
  refine ⟨ι, h, fr, R, F, Po.mono ?_ (Po.bind P)⟩
  rintro v H1 ⟨ι1, h1, x, e1, R1, r1, P1⟩
  refine ⟨ι1, h1, fr, R1, F.ext e1, Po.mono ?_ (Po.bind P1)⟩
  rintro vs H2 ⟨ι2, h2, xs, e2, R2, r2, P2⟩
  exact P2 ι2 H2 _ (Ext.refl _ _) R2 (.cons (r1.ext e2) r2)
def small (n : Nat) : Bool := decide (n ≤ 16777216)
def eTup (f : Sa) : Sx := fun fr h => (f fr h).bind fun xs h1 => if small xs.length = true then .ok (.tup xs) h1 else .no
def eLst (f : Sa) : Sx := fun fr h => (f fr h).bind fun xs h1 => if small xs.length = true then .ok (.ref h1.length) (h1 ++ [.lst xs]) else .no
theorem small_le {n : Nat} (h : small n = true) : n ≤ sizeLine := by rw [line_eq]; exact of_decide_eq_true h
theorem m_tup {k : Nat} (h : PMa X E as fs) : PM X E (.Tuple as k pos) (eTup fs) := pe_imp (pe_tup h) fun σ H Q ⟨ι, h, fr, R, F, P⟩ => by
  refine ⟨ι, h, fr, R, F, Po.mono ?_ (Po.bind P)⟩
  rintro vs H1 ⟨ι1, h1, xs, e1, R1, r1, P1⟩
  split at P1
  · rename_i hz
    refine ⟨by rw [r1.length]; exact small_le hz, fun p np => ?_⟩
    obtain ⟨e2, R2⟩ := R1.tup np vs
    exact P1 ι1 _ _ e2 R2 (.tup upd_same (r1.ext e2))
  · exact P1.elim
theorem ref_new {ι : List Addr} {h : Hq} {H : Hp} {K : PySem.W.Frag} (R : HR K ι h H) (p : Addr) : (ι ++ [p])[h.length]? = some p := by
  rw [← R.len, List.getElem?_append_right (Nat.le_refl _), Nat.sub_self]; rfl
theorem m_lst (h : PMa X E as fs) : PM X E (.List as pos) (eLst fs) := pe_imp (pe_lst h) fun σ H Q ⟨ι, h, fr, R, F, P⟩ => by
  refine ⟨ι, h, fr, R, F, Po.mono ?_ (Po.bind P)⟩
  rintro vs H1 ⟨ι1, h1, xs, e1, R1, r1, P1⟩
  split at P1
  · rename_i hz
    refine ⟨by rw [r1.length]; exact small_le hz, fun p np => ?_⟩
    obtain ⟨e2, R2⟩ := R1.new np (o := .lst vs) (c := .lst xs) fun ι' H' e q => ⟨vs, q, r1.ext e⟩
    exact P1 _ _ _ e2 R2 (.ref (ref_new R1 p))
  · exact P1.elim
/-- {} -/
def eDct0 : Sx := fun _ h => .ok (.ref h.length) (h ++ [.dct []])
theorem m_dct0 : PM X E (.Dict [] [] pos) eDct0 := pe_imp pe_dnewK fun σ H Q ⟨ι, h, fr, R, F, P⟩ p np => by
  obtain ⟨e2, R2⟩ := R.new np (o := .dK []) (c := .dct []) fun ι' H' e q => ⟨[], q, rfl, .nil⟩
  exact P _ _ _ e2 R2 (.ref (ref_new R p))
end
end MI
end

section
set_option Elab.async false
set_option linter.all false
set_option autoImplicit false
set_option maxRecDepth 100000
set_option maxHeartbeats 4000000
namespace MI
open PySem L2

def lstAt (h : Hq) (n : Nat) : Option (List D) := match h[n]? with
  | some (.lst l) => some l
  | _ => none
theorem lstAt_some {h : Hq} {n : Nat} {l : List D} (e : lstAt h n = some l) : h[n]? = some (.lst l) := by
  unfold lstAt at e
  split at e
  · rename_i l' q; cases e; exact q
  · cases e
theorem HR.lst {K : PySem.W.Frag} {ι : List Addr} {h : Hq} {H : Hp} (R : HR K ι h H) {n : Nat} {a : Addr} {l : List D} (ha : ι[n]? = some a) (e : lstAt h n = some l) : ∃ vs, H a = some (.lst vs) ∧ VRs K ι H vs l :=
  R.cells n _ a (lstAt_some e) ha
def ltI (a b : Nat) : Bool := decide (a < b)

/-! ### + - * // % ** -/
def dAdd (x y : D) (h : Hq) : Rs D := match x, y with
  | .int i, .int j => .ok (.int (i + j)) h
  | .str a, .str b => if small (a.length + b.length) = true then .ok (.str (a ++ b)) h else .no
  | .tup a, .tup b => if small (a.length + b.length) = true then .ok (.tup (a ++ b)) h else .no
  | .ref m, .ref n => match lstAt h m, lstAt h n with
    | some a, some b => if small (a.length + b.length) = true then .ok (.ref h.length) (h ++ [.lst (a ++ b)]) else .no
    | _, _ => .no
  | _, _ => .no
def rAddA (K : PySem.W.Frag) : R2 := fun x y H Q => (∃ i j, x = .int i ∧ y = .int j ∧ Q (.int (i + j)) H) ∨ ((∃ i j, x = .str i ∧ y = .str j ∧ i.length + j.length ≤ sizeLine ∧ Q (.str (i ++ j)) H) ∨ (rCatA K x y H Q ∨ rCat x y H Q))
theorem nil_of {K : PySem.W.Frag} {ι : List Addr} {H : Hp} {vs : List V} {l : List D} (r : VRs K ι H vs l) : vs = [] ↔ l = [] := by
  cases r <;> simp
section
variable {K : PySem.W.Frag} {mg : Str → Option Value} {E : XK}
theorem s_add : OpS K mg E dAdd (rAddA K) := by
  intro ι h H x y v w Q R rx ry P
  unfold dAdd at P
  split at P
  · cases rx; cases ry
    exact .inl ⟨_, _, rfl, rfl, P ι H _ (Ext.refl _ _) R (.int _)⟩
  · split at P
    · rename_i a b hz
      cases rx; cases ry
      exact .inr (.inl ⟨_, _, rfl, rfl, small_le hz, P ι H _ (Ext.refl _ _) R (.str _)⟩)
    · exact P.elim
  · rename_i l m
    split at P
    · rename_i hz
      cases rx with
      | tup hx qx =>
        cases ry with
        | tup hy qy =>
          rename_i a vs b ws
          refine .inr (.inr (.inl ⟨a, b, vs, ws, rfl, rfl, .of hx, .of hy, ?_, fun e => ?_, fun _ e => ?_, fun _ _ p np => ?_⟩))
          · rw [qx.length, qy.length]; exact small_le hz
          · have : l = [] := (nil_of qx).mp e
            subst this
            exact P ι H _ (Ext.refl _ _) R (.tup hy qy)
          · have : m = [] := (nil_of qy).mp e
            subst this
            rw [List.append_nil] at P
            exact P ι H _ (Ext.refl _ _) R (.tup hx qx)
          · obtain ⟨e2, R2⟩ := R.tup np (vs ++ ws)
            exact P ι _ _ e2 R2 (.tup upd_same ((qx.append qy).ext e2))
    · exact P.elim
  · split at P
    · rename_i m n l1 l2 e1 e2
      split at P
      · rename_i hz
        cases rx with
        | ref hx =>
          cases ry with
          | ref hy =>
            rename_i a b
            obtain ⟨vs, c1, q1⟩ := R.lst hx e1
            obtain ⟨ws, c2, q2⟩ := R.lst hy e2
            refine .inr (.inr (.inr ⟨a, b, vs, ws, rfl, rfl, c1, c2, ?_, fun p np => ?_⟩))
            · rw [q1.length, q2.length]; exact small_le hz
            · obtain ⟨e3, R3⟩ := R.new np (o := .lst (vs ++ ws)) (c := .lst (l1 ++ l2)) fun ι' H' e q => ⟨_, q, (q1.append q2).ext e⟩
              exact P _ _ _ e3 R3 (.ref (ref_new R p))
      · exact P.elim
    · exact P.elim
  · exact P.elim
theorem o_add {X : Cx} : OpR X (binaryOp .Add) (rAddA X.K) := op_add.or (op_add_str.or (op_catA.or op_cat))
def dSub (x y : D) (h : Hq) : Rs D := match x, y with
  | .int i, .int j => .ok (.int (i - j)) h
  | _, _ => .no
theorem s_sub : OpS K mg E dSub (rI0 fun i j => .int (i - j)) := by
  intro ι h H x y v w Q R rx ry P
  unfold dSub at P
  split at P
  · cases rx; cases ry
    exact ⟨_, _, rfl, rfl, P ι H _ (Ext.refl _ _) R (.int _)⟩
  · exact P.elim
def mulOk (i j : Int) : Bool := decide (i.natAbs.log2 + j.natAbs.log2 < 1000000)
def dMul (x y : D) (h : Hq) : Rs D := match x, y with
  | .int i, .int j => if mulOk i j = true then .ok (.int (i * j)) h else .no
  | .ref m, .int k => match lstAt h m with
    | some l => if 0 ≤ k ∧ k < 1000000 ∧ small (l.length * k.toNat) = true then .ok (.ref h.length) (h ++ [.lst (List.replicate k.toNat l).flatten]) else .no
    | none => .no
  | _, _ => .no
theorem VRs.rep {ι : List Addr} {H : Hp} {vs : List V} {l : List D} (r : VRs K ι H vs l) : ∀ n : Nat, VRs K ι H (List.replicate n vs).flatten (List.replicate n l).flatten
  | 0 => by simp only [List.replicate_zero, List.flatten_nil]; exact .nil
  | n + 1 => by simp only [List.replicate_succ, List.flatten_cons]; exact r.append (VRs.rep r n)
theorem s_mul : OpS K mg E dMul (fun x y H Q => rI CMulW (fun i j => .int (i * j)) x y H Q ∨ rRep x y H Q) := by
  intro ι h H x y v w Q R rx ry P
  unfold dMul at P
  split at P
  · split at P
    · rename_i i j hz
      cases rx; cases ry
      have hz' : CMulW i j := by unfold CMulW; exact of_decide_eq_true hz
      exact .inl ⟨_, _, rfl, rfl, hz', P ι H _ (Ext.refl _ _) R (.int _)⟩
    · exact P.elim
  · split at P
    · rename_i m k _ l e1
      split at P
      · rename_i hz
        cases rx with
        | ref hx =>
          cases ry
          rename_i a
          obtain ⟨vs, c1, q1⟩ := R.lst hx e1
          refine .inr ⟨a, k, vs, rfl, rfl, c1, by omega, by omega, ?_, fun p np => ?_⟩
          · rw [q1.length]; exact small_le hz.2.2
          · obtain ⟨e3, R3⟩ := R.new np (o := .lst (List.replicate k.toNat vs).flatten) (c := .lst (List.replicate k.toNat l).flatten) fun ι' H' e q => ⟨_, q, (q1.rep _).ext e⟩
            exact P _ _ _ e3 R3 (.ref (ref_new R p))
      · exact P.elim
    · exact P.elim
  · exact P.elim
theorem o_mul {X : Cx} : OpR X (binaryOp .Mult) (fun x y H Q => rI CMulW (fun i j => .int (i * j)) x y H Q ∨ rRep x y H Q) := op_mulW.or op_rep
def divOk (j : Int) : Bool := decide (0 < j) && decide (j.natAbs.log2 < 9000)
def dDiv (x y : D) (h : Hq) : Rs D := match x, y with
  | .int i, .int j => if divOk j = true then .ok (.int (i / j)) h else .no
  | _, _ => .no
theorem s_div : OpS K mg E dDiv (rI CDivW fun i j => .int (i / j)) := by
  intro ι h H x y v w Q R rx ry P
  unfold dDiv at P
  split at P
  · split at P
    · rename_i hz
      cases rx; cases ry
      have hz' := Bool.and_eq_true_iff.mp hz
      exact ⟨_, _, rfl, rfl, ⟨of_decide_eq_true hz'.1, of_decide_eq_true hz'.2⟩, P ι H _ (Ext.refl _ _) R (.int _)⟩
    · exact P.elim
  · exact P.elim
def dMod (x y : D) (h : Hq) : Rs D := match x, y with
  | .int i, .int j => if 0 < j then .ok (.int (i % j)) h else .no
  | _, _ => .no
theorem s_mod : OpS K mg E dMod (rI (fun _ j => 0 < j) fun i j => .int (i % j)) := by
  intro ι h H x y v w Q R rx ry P
  unfold dMod at P
  split at P
  · split at P
    · rename_i hz
      cases rx; cases ry
      exact ⟨_, _, rfl, rfl, hz, P ι H _ (Ext.refl _ _) R (.int _)⟩
    · exact P.elim
  · exact P.elim
def dPow (x y : D) (h : Hq) : Rs D := match x, y with
  | .int i, .int j => if 0 ≤ j ∧ j ≤ 1000 ∧ i.natAbs.log2 < 10000 then .ok (.int (i ^ j.toNat)) h else .no
  | _, _ => .no
def CPowL (i j : Int) : Prop := 0 ≤ j ∧ j ≤ 1000 ∧ i.natAbs.log2 < 10000
theorem o_pow {X : Cx} : OpR X (binaryOp .Pow) (rI CPowL fun i j => .int (i ^ j.toNat)) := opI fun i j _ _ _ _ _ hc q => PyProof.Rows.pow_int hc.1 (by
  obtain ⟨h0, h1, h2⟩ := hc
  have hb : Builtin.Int.intBits i ≤ 10000 := by
    unfold Builtin.Int.intBits
    split <;> omega
  have h3 : (Builtin.Int.intBits i : Int) * j ≤ 10000 * j := Int.mul_le_mul_of_nonneg_right (by omega) h0
  omega) q
theorem s_pow : OpS K mg E dPow (rI CPowL fun i j => .int (i ^ j.toNat)) := by
  intro ι h H x y v w Q R rx ry P
  unfold dPow at P
  split at P
  · split at P
    · rename_i hz
      cases rx; cases ry
      exact ⟨_, _, rfl, rfl, hz, P ι H _ (Ext.refl _ _) R (.int _)⟩
    · exact P.elim
  · exact P.elim
end
/-- one-place -/
def eUn (g : D → Hq → Rs D) (a : Sx) : Sx := fun fr h => (a fr h).bind g
def UnS (K : PySem.W.Frag) (mg : Str → Option Value) (E : XK) (g : D → Hq → Rs D) (r : V → Hp → VK → Prop) : Prop :=
  ∀ (ι : List Addr) (h : Hq) (H : Hp) (x : D) (v : V) (Q : VK), HR K ι h H → VR K ι H v x → PoV K mg ι H Q E (g x h) → r v H Q
section
variable {X : Cx} {E : XK} {a b c : Expr} {fa fb fc : Sx} {pos : Pos} {K : PySem.W.Frag} {mg : Str → Option Value}
theorem m_un {op : UnaryOp} {g : D → Hq → Rs D} {r : V → Hp → VK → Prop} (ho : UnR X (unaryOp op) r) (hs : UnS X.K X.mg E g r) (ha : PM X E a fa) : PM X E (.UnaryOp op a pos) (eUn g fa) := pe_imp (pe_un ho ha) fun σ H Q ⟨ι, h, fr, R, F, P⟩ => by
  refine ⟨ι, h, fr, R, F, Po.mono ?_ (Po.bind P)⟩
  rintro v H1 ⟨ι1, h1, x, e1, R1, r1, P1⟩
  exact hs ι1 h1 H1 x v Q R1 r1 P1
def dNeg (x : D) (h : Hq) : Rs D := match x with
  | .int i => .ok (.int (-i)) h
  | _ => .no
theorem s_neg : UnS K mg E dNeg (rU fun i => .int (-i)) := by
  intro ι h H x v Q R rx P
  unfold dNeg at P
  split at P
  · cases rx; exact ⟨_, rfl, P ι H _ (Ext.refl _ _) R (.int _)⟩
  · exact P.elim
theorem m_add (ha : PM X E a fa) (hb : PM X E b fb) : PM X E (.BinOp a .Add b pos) (eOp dAdd fa fb) := m_bin o_add s_add ha hb
theorem m_sub (ha : PM X E a fa) (hb : PM X E b fb) : PM X E (.BinOp a .Sub b pos) (eOp dSub fa fb) := m_bin op_sub s_sub ha hb
theorem m_mul (ha : PM X E a fa) (hb : PM X E b fb) : PM X E (.BinOp a .Mult b pos) (eOp dMul fa fb) := m_bin o_mul s_mul ha hb
theorem m_fdiv (ha : PM X E a fa) (hb : PM X E b fb) : PM X E (.BinOp a .FloorDiv b pos) (eOp dDiv fa fb) := m_bin op_fdivW s_div ha hb
theorem m_mod (ha : PM X E a fa) (hb : PM X E b fb) : PM X E (.BinOp a .Mod b pos) (eOp dMod fa fb) := m_bin op_mod s_mod ha hb
theorem m_pow (ha : PM X E a fa) (hb : PM X E b fb) : PM X E (.BinOp a .Pow b pos) (eOp dPow fa fb) := m_bin o_pow s_pow ha hb
theorem m_neg (ha : PM X E a fa) : PM X E (.UnaryOp .USub a pos) (eUn dNeg fa) := m_un un_neg s_neg ha

/-! ### comparisons -/
def dRel (p : Int → Int → Bool) (x y : D) (h : Hq) : Rs D := match x, y with
  | .int i, .int j => .ok (.bl (p i j)) h
  | _, _ => .no
theorem s_rel (p : Int → Int → Bool) : OpS K mg E (dRel p) (rI0 fun i j => .bl (p i j)) := by
  intro ι h H x y v w Q R rx ry P
  unfold dRel at P
  split at P
  · cases rx; cases ry
    exact ⟨_, _, rfl, rfl, P ι H _ (Ext.refl _ _) R (.bl _)⟩
  · exact P.elim
abbrev dLt : D → D → Hq → Rs D := dRel fun i j => decide (i < j)
abbrev dLe : D → D → Hq → Rs D := dRel fun i j => decide (i ≤ j)
abbrev dGt : D → D → Hq → Rs D := dRel fun i j => decide (j < i)
abbrev dGe : D → D → Hq → Rs D := dRel fun i j => decide (j ≤ i)
theorem m_lt (ha : PM X E a fa) (hb : PM X E b fb) : PMb X E (.Compare a [.Lt] [b] pos) (bOf (eOp dLt fa fb)) := m_cmp op_lt (s_rel _) ha hb (nomark _)
theorem m_le (ha : PM X E a fa) (hb : PM X E b fb) : PMb X E (.Compare a [.LtE] [b] pos) (bOf (eOp dLe fa fb)) := m_cmp op_le (s_rel _) ha hb (nomark _)
theorem m_gt (ha : PM X E a fa) (hb : PM X E b fb) : PMb X E (.Compare a [.Gt] [b] pos) (bOf (eOp dGt fa fb)) := m_cmp op_gt (s_rel _) ha hb (nomark _)
theorem m_ge (ha : PM X E a fa) (hb : PM X E b fb) : PMb X E (.Compare a [.GtE] [b] pos) (bOf (eOp dGe fa fb)) := m_cmp op_ge (s_rel _) ha hb (nomark _)
theorem m_ltV (ha : PM X E a fa) (hb : PM X E b fb) : PM X E (.Compare a [.Lt] [b] pos) (eOp dLt fa fb) := m_cmpV op_lt (s_rel _) ha hb (nomark _)
theorem m_leV (ha : PM X E a fa) (hb : PM X E b fb) : PM X E (.Compare a [.LtE] [b] pos) (eOp dLe fa fb) := m_cmpV op_le (s_rel _) ha hb (nomark _)
theorem m_gtV (ha : PM X E a fa) (hb : PM X E b fb) : PM X E (.Compare a [.Gt] [b] pos) (eOp dGt fa fb) := m_cmpV op_gt (s_rel _) ha hb (nomark _)
theorem m_geV (ha : PM X E a fa) (hb : PM X E b fb) : PM X E (.Compare a [.GtE] [b] pos) (eOp dGe fa fb) := m_cmpV op_ge (s_rel _) ha hb (nomark _)
/-- a chain a op b op' c of ints -/
def eChain (p q : Int → Int → Bool) (fa fb fc : Sx) : Sx := fun fr h => (fa fr h).bind fun x h1 => (fb fr h1).bind fun y h2 => match x, y with
  | .int i, .int j => if p i j = true then (fc fr h2).bind fun z h3 => dRel q (.int j) z h3 else .ok (.bl false) h2
  | _, _ => .no
theorem m_chainV {op op' : CmpOp} {p q : Int → Int → Bool} (ho : OpR X (compareOp op) (rI0 fun i j => .bl (p i j))) (ho' : OpR X (compareOp op') (rI0 fun i j => .bl (q i j))) (ha : PM X E a fa) (hb : PM X E b fb) (hc : PM X E c fc)
    (hm : lastMarks [op, op'] [b, c] = false := by with_unfolding_all rfl) : PM X E (.Compare a [op, op'] [b, c] pos) (eChain p q fa fb fc) := pe_imp (pe_chain ho ho' ha hb hc hm) fun σ H Q ⟨ι, h, fr, R, F, P⟩ => by
  refine ⟨ι, h, fr, R, F, Po.mono ?_ (Po.bind P)⟩
  rintro v H1 ⟨ι1, h1, x, e1, R1, r1, P1⟩
  refine ⟨ι1, h1, fr, R1, F.ext e1, Po.mono ?_ (Po.bind P1)⟩
  rintro w H2 ⟨ι2, h2, y, e2, R2, r2, P2⟩
  split at P2
  · rename_i i j
    cases r1; cases r2
    refine ⟨i, j, rfl, rfl, p i j, rfl, ?_⟩
    cases hp : p i j with
    | true =>
      rw [hp, if_pos rfl] at P2
      rw [if_pos rfl]
      refine ⟨ι2, h2, fr, R2, (F.ext e1).ext e2, Po.mono ?_ (Po.bind P2)⟩
      rintro z H3 ⟨ι3, h3, u, e3, R3, r3, P3⟩
      exact s_rel q ι3 h3 H3 (.int j) u _ z Q R3 (.int j) r3 P3
    | false =>
      rw [hp, if_neg Bool.false_ne_true] at P2
      rw [if_neg Bool.false_ne_true]
      exact P2 ι2 H2 _ (Ext.refl _ _) R2 (.bl false)
  · exact P2.elim
theorem m_leLe (ha : PM X E a fa) (hb : PM X E b fb) (hc : PM X E c fc) (hm : lastMarks [.LtE, .LtE] [b, c] = false := by with_unfolding_all rfl) :
    PM X E (.Compare a [.LtE, .LtE] [b, c] pos) (eChain (fun i j => decide (i ≤ j)) (fun i j => decide (i ≤ j)) fa fb fc) := m_chainV op_le op_le ha hb hc hm
/-- is None -/
def dIsN (neg : Bool) (x y : D) (h : Hq) : Rs D := match x, y with
  | .opq, _ => .no
  | .adr _, _ => .no
  | .ty _, _ => .no
  | .non, .non => .ok (.bl (!neg)) h
  | _, .non => .ok (.bl neg) h
  | _, _ => .no
theorem s_isN : OpS K mg E (dIsN false) (fun x y H Q => y = .non ∧ Q (.bl (decide (x = .non))) H) := by
  intro ι h H x y v w Q R rx ry P
  unfold dIsN at P
  split at P
  · exact P.elim
  · exact P.elim
  · exact P.elim
  · cases rx; cases ry
    exact ⟨rfl, P ι H _ (Ext.refl _ _) R (.bl _)⟩
  · rename_i h1 ha ht h2
    cases ry
    have := P ι H _ (Ext.refl _ _) R (.bl _)
    cases rx <;> first
      | exact ⟨rfl, this⟩
      | exact absurd rfl h1
      | exact absurd rfl h2
      | exact absurd rfl (ha _)
      | exact absurd rfl (ht _)
  · exact P.elim
theorem s_notN : OpS K mg E (dIsN true) (fun x y H Q => y = .non ∧ Q (.bl (!decide (x = .non))) H) := by
  intro ι h H x y v w Q R rx ry P
  unfold dIsN at P
  split at P
  · exact P.elim
  · exact P.elim
  · exact P.elim
  · cases rx; cases ry
    exact ⟨rfl, P ι H _ (Ext.refl _ _) R (.bl _)⟩
  · rename_i h1 ha ht h2
    cases ry
    have := P ι H _ (Ext.refl _ _) R (.bl _)
    cases rx <;> first
      | exact ⟨rfl, this⟩
      | exact absurd rfl h1
      | exact absurd rfl h2
      | exact absurd rfl (ha _)
      | exact absurd rfl (ht _)
  · exact P.elim
theorem m_isN (ha : PM X E a fa) (hb : PM X E b fb) : PMb X E (.Compare a [.Is] [b] pos) (bOf (eOp (dIsN false) fa fb)) := m_cmp op_isN s_isN ha hb (nomark _)
theorem m_notN (ha : PM X E a fa) (hb : PM X E b fb) : PMb X E (.Compare a [.IsNot] [b] pos) (bOf (eOp (dIsN true) fa fb)) := m_cmp op_notN s_notN ha hb (nomark _)
theorem m_isNV (ha : PM X E a fa) (hb : PM X E b fb) : PM X E (.Compare a [.Is] [b] pos) (eOp (dIsN false) fa fb) := m_cmpV op_isN s_isN ha hb (nomark _)
theorem m_notNV (ha : PM X E a fa) (hb : PM X E b fb) : PM X E (.Compare a [.IsNot] [b] pos) (eOp (dIsN true) fa fb) := m_cmpV op_notN s_notN ha hb (nomark _)

/-! ### data as a whole: == -/
def opts {α β : Type} (f : α → Option β) : List α → Option (List β)
  | [] => some []
  | d :: l => match f d, opts f l with
    | some p, some q => some (p :: q)
    | _, _ => none
def toPy (h : Hq) : Nat → D → Option PyData
  | 0, _ => none
  | _ + 1, .non => some .none
  | _ + 1, .bl b => some (.bool b)
  | _ + 1, .int i => some (.int i)
  | _ + 1, .str x => some (.str x)
  | n + 1, .tup l => (opts (toPy h n) l).map .tuple
  | n + 1, .ref m => match lstAt h m with
    | some l => (opts (toPy h n) l).map .list
    | none => none
  | _ + 1, .scr l => some (.list (l.map .int))
  | _ + 1, .opq => none
  | _ + 1, .adr _ => none
  | _ + 1, .ty _ => none
theorem dp_ints {H : Hp} : ∀ l : List Int, DpAll K H (l.map V.int) (l.map PyData.int)
  | [] => .nil
  | i :: l => .cons (.int i) (dp_ints l)
theorem dp_all {ι : List Addr} {H : Hp} {f : D → Option PyData} (hf : ∀ d p v, f d = some p → VR K ι H v d → Dp K H v p) : ∀ {l : List D} {ps : List PyData} {vs : List V}, opts f l = some ps → VRs K ι H vs l → DpAll K H vs ps
  | [], ps, vs, e, r => by
    cases r
    cases e
    exact .nil
  | d :: l, ps, vs, e, r => by
    unfold opts at e
    split at e
    · rename_i p q h1 h2
      cases e
      cases r with
      | cons r1 r2 => exact .cons (hf _ _ _ h1 r1) (dp_all hf h2 r2)
    · cases e
theorem dp_of {ι : List Addr} {h : Hq} {H : Hp} (R : HR K ι h H) : ∀ (n : Nat) (d : D) (p : PyData) (v : V), toPy h n d = some p → VR K ι H v d → Dp K H v p
  | 0, _, _, _, e, _ => by cases e
  | n + 1, d, p, v, e, r => by
    cases r with
    | non => cases e; exact .non
    | bl b => cases e; exact .bl b
    | int i => cases e; exact .int i
    | str x => cases e; exact .str x
    | tup hx q =>
      rename_i a vs l
      have e' : (opts (toPy h n) l).map PyData.tuple = some p := e
      obtain ⟨ps, h1, h2⟩ := Option.map_eq_some_iff.mp e'
      subst h2
      exact .tup (.of hx) (dp_all (fun d p v => dp_of R n d p v) h1 q)
    | ref hx =>
      rename_i a m
      have e' : (match lstAt h m with | some l => (opts (toPy h n) l).map PyData.list | none => none) = some p := e
      split at e'
      · rename_i l hl
        obtain ⟨ps, h1, h2⟩ := Option.map_eq_some_iff.mp e'
        subst h2
        obtain ⟨vs, c1, q1⟩ := R.lst hx hl
        exact .lst (.of c1) (dp_all (fun d p v => dp_of R n d p v) h1 q1)
      · cases e'
    | scr hx =>
      cases e
      exact .lst hx.sq (dp_ints _)
    | opq v => cases e
    | adr a => cases e
    | ty n => cases e
def eqQ (neg : Bool) (x y : D) (h : Hq) : Option Bool := match x, y with
  | .str a, .str b => some (decide (a = b) != neg)
  | .ref m, .str _ => match h[m]? with
    | some (.dct _) => if neg = true then none else some false
    | _ => none
  | _, _ => none
def dEqP (neg : Bool) (x y : D) (h : Hq) : Rs D := match toPy h 60 x, toPy h 60 y with
  | some p, some q => if SeqAt.shaped p = true ∧ SeqAt.shaped q = true then .ok (.bl (PyData.eqv p q != neg)) h else .no
  | _, _ => .no
def dEqs (neg : Bool) (x y : D) (h : Hq) : Rs D := match eqQ neg x y h with
  | some b => .ok (.bl b) h
  | none => dEqP neg x y h
theorem dec_str {a b : Str} : decide (V.str a = V.str b) = decide (a = b) := by
  rw [Bool.eq_iff_iff]
  simp
theorem eqQ_in {ι : List Addr} {h : Hq} {H : Hp} {neg b : Bool} {x y : D} {v w : V} (R : HR K ι h H) (rx : VR K ι H v x) (ry : VR K ι H w y) (e : eqQ neg x y h = some b) :
    (∃ p q, v = .str p ∧ w = .str q ∧ b = (decide (p = q) != neg)) ∨ (neg = false ∧ b = false ∧ ∃ a kvs z, v = .ref a ∧ w = .str z ∧ H a = some (.dK kvs)) := by
  unfold eqQ at e
  split at e
  · cases rx; cases ry; cases e
    exact .inl ⟨_, _, rfl, rfl, rfl⟩
  · split at e
    · rename_i l hl
      split at e
      · cases e
      · rename_i hn
        cases e
        cases rx with
        | ref hx =>
          cases ry
          obtain ⟨kvs, c1, _⟩ := R.cells _ _ _ hl hx
          exact .inr ⟨by simpa using hn, rfl, _, kvs, _, rfl, rfl, c1⟩
    · cases e
  · cases e
theorem s_eq : OpS K mg E (dEqs false) (fun x y H Q => rEq x y H Q ∨ (rEqDS x y H Q ∨ rEqD K x y H Q)) := by
  intro ι h H x y v w Q R rx ry P
  unfold dEqs at P
  split at P
  · rename_i b e
    have := P ι H _ (Ext.refl _ _) R (.bl _)
    rcases eqQ_in R rx ry e with ⟨p, q, rfl, rfl, rfl⟩ | ⟨_, rfl, a, kvs, z, rfl, rfl, hx⟩
    · refine .inl ⟨rfl, ?_⟩
      rw [dec_str]
      rw [Bool.bne_false] at this
      exact this
    · exact .inr (.inl ⟨a, kvs, z, rfl, rfl, hx, this⟩)
  · unfold dEqP at P
    split at P
    · rename_i p q e1 e2
      split at P
      · rename_i hs
        have := P ι H _ (Ext.refl _ _) R (.bl _)
        rw [Bool.bne_false] at this
        exact .inr (.inr ⟨p, q, dp_of R 60 x p v e1 rx, dp_of R 60 y q w e2 ry, hs.1, hs.2, this⟩)
      · exact P.elim
    · exact P.elim
theorem s_ne : OpS K mg E (dEqs true) (fun x y H Q => rNe x y H Q ∨ rNeD K x y H Q) := by
  intro ι h H x y v w Q R rx ry P
  unfold dEqs at P
  split at P
  · rename_i b e
    have := P ι H _ (Ext.refl _ _) R (.bl _)
    rcases eqQ_in R rx ry e with ⟨p, q, rfl, rfl, rfl⟩ | ⟨hn, _⟩
    · refine .inl ⟨rfl, ?_⟩
      rw [dec_str]
      rw [Bool.bne_true] at this
      exact this
    · cases hn
  · unfold dEqP at P
    split at P
    · rename_i p q e1 e2
      split at P
      · rename_i hs
        have := P ι H _ (Ext.refl _ _) R (.bl _)
        rw [Bool.bne_true] at this
        exact .inr ⟨p, q, dp_of R 60 x p v e1 rx, dp_of R 60 y q w e2 ry, hs.1, hs.2, this⟩
      · exact P.elim
    · exact P.elim
theorem m_eq (hu : X.A.units + 64 < cLine) (ha : PM X E a fa) (hb : PM X E b fb) : PMb X E (.Compare a [.Eq] [b] pos) (bOf (eOp (dEqs false) fa fb)) := m_cmp (op_eq.or ((op_eqDS hu).or (op_eqD hu))) s_eq ha hb (nomark _)
theorem m_ne (hu : X.A.units + 64 < cLine) (ha : PM X E a fa) (hb : PM X E b fb) : PMb X E (.Compare a [.NotEq] [b] pos) (bOf (eOp (dEqs true) fa fb)) := m_cmp (op_ne.or (op_neD hu)) s_ne ha hb (nomark _)
theorem m_eqV (hu : X.A.units + 64 < cLine) (ha : PM X E a fa) (hb : PM X E b fb) : PM X E (.Compare a [.Eq] [b] pos) (eOp (dEqs false) fa fb) := m_cmpV (op_eq.or ((op_eqDS hu).or (op_eqD hu))) s_eq ha hb (nomark _)
theorem m_neV (hu : X.A.units + 64 < cLine) (ha : PM X E a fa) (hb : PM X E b fb) : PM X E (.Compare a [.NotEq] [b] pos) (eOp (dEqs true) fa fb) := m_cmpV (op_ne.or (op_neD hu)) s_ne ha hb (nomark _)

/-! ### items, slices -/
def dIx (x y : D) (h : Hq) : Rs D := match x, y with
  | .tup l, .int i => match atI l i with
    | some d => .ok d h
    | none => .no
  | .ref m, .int i => match lstAt h m with
    | some l => match atI l i with
      | some d => .ok d h
      | none => .no
    | none => .no
  | .scr l, .int i => match atI l i with
    | some k => .ok (.int k) h
    | none => .no
  | _, _ => .no
theorem atI_at {α β : Type} {xs : List α} {ys : List β} (hl : xs.length = ys.length) {i : Int} {y : β} (h : atI ys i = some y) : ∃ j : Nat, ys[j]? = some y ∧ ∀ x, xs[j]? = some x → atI xs i = some x := by
  unfold atI at h ⊢
  rw [hl]
  cases e : ixN ys.length i with
  | none => rw [e] at h; cases h
  | some j => rw [e] at h; exact ⟨j, h, fun x hx => hx⟩
theorem s_ix : OpS K mg E dIx (fun x y H Q => rIxL K x y H Q ∨ rIxT K x y H Q) := by
  intro ι h H x y v w Q R rx ry P
  unfold dIx at P
  split at P
  · split at P
    · rename_i l i _ d e
      cases rx with
      | tup hx q =>
        cases ry
        rename_i a vs
        obtain ⟨j, h1, h2⟩ := atI_at q.length e
        obtain ⟨u, g1, g2⟩ := q.get h1
        exact .inr ⟨a, vs, i, u, rfl, rfl, .of hx, h2 u g1, P ι H u (Ext.refl _ _) R g2⟩
    · exact P.elim
  · split at P
    · split at P
      · rename_i m i _ l hl _ d e
        cases rx with
        | ref hx =>
          cases ry
          rename_i a
          obtain ⟨vs, c1, q⟩ := R.lst hx hl
          obtain ⟨j, h1, h2⟩ := atI_at q.length e
          obtain ⟨u, g1, g2⟩ := q.get h1
          exact .inl ⟨a, vs, i, u, rfl, rfl, .of c1, h2 u g1, P ι H u (Ext.refl _ _) R g2⟩
      · exact P.elim
    · exact P.elim
  · split at P
    · rename_i l i _ k e
      cases rx with
      | scr hx =>
        cases ry
        rename_i a
        obtain ⟨j, h1, h2⟩ := atI_at (xs := l.map V.int) (by simp) e
        exact .inl ⟨a, _, i, .int k, rfl, rfl, hx.sq, h2 _ (by rw [List.getElem?_map, h1]; rfl), P ι H _ (Ext.refl _ _) R (.int k)⟩
    · exact P.elim
  · exact P.elim
theorem m_ix (ha : PM X E a fa) (hb : PM X E b fb) (hs : PlainIx b := by exact fun _ _ => rfl) : PM X E (.Subscript a b pos) (eOp dIx fa fb) := pe_imp (pe_ix (ix_list.or ix_tup) ha hb hs) fun _ _ _ q => op_in s_ix q
end
/-- the parts of a slice -/
abbrev So := Fr → Hq → Rs (Option Int)
def oNone : So := fun _ h => .ok none h
def oSome (f : Sx) : So := fun fr h => (f fr h).bind fun x h1 => match x with
  | .int i => .ok (some i) h1
  | _ => .no
def tMo (K : PySem.W.Frag) (mg : Str → Option Value) (E : XK) (f : So) : TO := fun σ H Q => ∃ ι h fr, HR K ι h H ∧ FR K ι H σ fr ∧ Po K mg (fun _ _ (b c : Option Int) => b = c) ι H Q E (f fr h)
abbrev PMo (X : Cx) (E : XK) (e : Option Expr) (f : So) : Prop := PO X e (tMo X.K X.mg E f)
def cutD (xs : List D) (lo hi : Option Int) : List D := (xs.drop (HT.sIx xs.length 0 lo)).take (HT.sIx xs.length xs.length hi - HT.sIx xs.length 0 lo)
def dCut (x : D) (lo hi : Option Int) (h : Hq) : Rs D := match x with
  | .tup l => .ok (.tup (cutD l lo hi)) h
  | .ref m => match lstAt h m with
    | some l => .ok (.ref h.length) (h ++ [.lst (cutD l lo hi)])
    | none => .no
  | _ => .no
def eCut (f : Sx) (lo hi : So) : Sx := fun fr h => (f fr h).bind fun x h1 => (lo fr h1).bind fun l h2 => (hi fr h2).bind fun u h3 => dCut x l u h3
theorem cut_rel {K : PySem.W.Frag} {ι : List Addr} {H : Hp} {vs : List V} {l : List D} (r : VRs K ι H vs l) (lo hi : Option Int) : VRs K ι H (cutV vs lo hi) (cutD l lo hi) := by
  unfold cutV cutD
  rw [r.length]
  exact (r.drop _).take _
theorem cut_whole {l : List D} {lo hi : Option Int} (h : HT.sIx l.length 0 lo = 0 ∧ HT.sIx l.length l.length hi = l.length) : cutD l lo hi = l := by
  unfold cutD
  rw [h.1, h.2]
  simp
section
variable {X : Cx} {E : XK} {a : Expr} {fa : Sx} {lo hi : Option Expr} {fl fu : So} {pos p2 : Pos}
theorem m_ono : PMo X E none oNone := ⟨fun pins s σ H Q I ⟨ι, h, fr, R, F, P⟩ => po_none.run pins s σ H Q I (P ι H _ (Ext.refl _ _) R rfl)⟩
theorem m_oso (ha : PM X E a fa) : PMo X E (some a) (oSome fa) := ⟨fun pins s σ H Q I ⟨ι, h, fr, R, F, P⟩ => (po_some ha).run pins s σ H Q I (by
  refine ⟨ι, h, fr, R, F, Po.mono ?_ (Po.bind P)⟩
  rintro v H1 ⟨ι1, h1, x, e1, R1, r1, P1⟩
  split at P1
  · cases r1; exact ⟨_, rfl, P1 ι1 H1 _ (Ext.refl _ _) R1 rfl⟩
  · exact P1.elim)⟩
theorem m_cut (ha : PM X E a fa) (hl : PMo X E lo fl) (hu : PMo X E hi fu) : PM X E (.Subscript a (.Slice lo hi none p2) pos) (eCut fa fl fu) := pe_imp (pe_slice (sl_tupA.or sl_list) ha hl hu) fun σ H Q ⟨ι, h, fr, R, F, P⟩ => by
  refine ⟨ι, h, fr, R, F, Po.mono ?_ (Po.bind P)⟩
  rintro v H1 ⟨ι1, h1, x, e1, R1, r1, P1⟩
  refine ⟨ι1, h1, fr, R1, F.ext e1, Po.mono ?_ (Po.bind P1)⟩
  rintro l H2 ⟨ι2, h2, l', e2, R2, r2, P2⟩
  subst r2
  refine ⟨ι2, h2, fr, R2, (F.ext e1).ext e2, Po.mono ?_ (Po.bind P2)⟩
  rintro u H3 ⟨ι3, h3, u', e3, R3, r3, P3⟩
  subst r3
  have rx := r1.ext (e2.trans e3)
  unfold dCut at P3
  split at P3
  · cases rx with
    | tup hx q =>
      rename_i xs a vs
      refine .inl ⟨a, vs, rfl, .of hx, fun hw => ?_, fun _ p np => ?_⟩
      · rw [q.length] at hw
        rw [cut_whole hw] at P3
        exact P3 ι3 H3 _ (Ext.refl _ _) R3 (.tup hx q)
      · obtain ⟨e4, R4⟩ := R3.tup np (cutV vs l u)
        exact P3 ι3 _ _ e4 R4 (.tup upd_same ((cut_rel q l u).ext e4))
  · split at P3
    · rename_i m xs hl
      cases rx with
      | ref hx =>
        rename_i a
        obtain ⟨vs, c1, q⟩ := R3.lst hx hl
        refine .inr ⟨a, vs, rfl, .of c1, fun p np => ?_⟩
        obtain ⟨e4, R4⟩ := R3.new np (o := .lst (cutV vs l u)) (c := .lst (cutD xs l u)) fun ι' H' e z => ⟨_, z, (cut_rel q l u).ext e⟩
        exact P3 _ _ _ e4 R4 (.ref (ref_new R3 p))
    · exact P3.elim
  · exact P3.elim
end
end MI
end

section
set_option Elab.async false
set_option linter.all false
set_option autoImplicit false
set_option maxRecDepth 100000
set_option maxHeartbeats 4000000
namespace MI
open PySem L2

/-! ### what a def is worth -/
/-- the def at f, called (below the guards' line) with plain things, is worth what sem tells -/
structure FnG (P : Program) (w : World) (K : PySem.W.Frag) (mg : Str → Option Value) (base : Heap) (k : Nat) (f : Addr) (fd : FuncData) (ps : List Str) (sem : Sf) : Prop where
  go : ∀ (A : Around) (outer : List Env) (s : Shared) (H : Hp) (args : Args) (us : List Value) (vs : List V) (ds : List D) (ι : List Addr) (h : Hq) (Q : VK) (E : XK),
    Room k A → A.guards = some [] → Env0 P w K mg base A outer s H → BindsTo s fd args (ps.zip us) → Vals vs us → HR K ι h H → VRs K ι H vs ds → ds.length = ps.length →
    PoV K mg ι H Q E (sem ds h) → codeAny (model P w) A (.call (.ref f) args) (L2.CR (L2.CX P w) outer P w H s Q E) s
theorem FnG.mono {P : Program} {w : World} {K : PySem.W.Frag} {mg : Str → Option Value} {base : Heap} {j k : Nat} {f : Addr} {fd : FuncData} {ps : List Str} {sem : Sf} (F : FnG P w K mg base j f fd ps sem) (hjk : j ≤ k) : FnG P w K mg base k f fd ps sem :=
  ⟨fun A outer s H args us vs ds ι h Q E hr => F.go A outer s H args us vs ds ι h Q E (hr.mono hjk)⟩
/-- the same worth, told otherwise -/
theorem FnG.as {P : Program} {w : World} {K : PySem.W.Frag} {mg : Str → Option Value} {base : Heap} {k : Nat} {f : Addr} {fd : FuncData} {ps : List Str} {sem sem' : Sf} (F : FnG P w K mg base k f fd ps sem)
    (e : ∀ ds h, sem' ds h = .no ∨ sem ds h = sem' ds h) : FnG P w K mg base k f fd ps sem' :=
  ⟨fun A outer s H args us vs ds ι h Q E hr hg e0 hb rv R r hl P => F.go A outer s H args us vs ds ι h Q E hr hg e0 hb rv R r hl (by
    rcases e ds h with z | z
    · rw [z] at P; exact P.elim
    · rw [z]; exact P)⟩

/-- where a def's body stands: what is raised is taken as E tells, the guards' line is free -/
structure Wh (X : Cx) (E : XK) : Prop where
  tk : Takes X (fun cls d _ H => E cls d H)
  po : PassesOwn (model X.prog X.w) X.A X.env X.xe
  gd : X.A.guards = some []
  calm : X.calm = true
  nd : X.N.Nodup

def eCall (n : Nat) (sem : Sf) (f : Sa) : Sx := fun fr h => (f fr h).bind fun ds h1 => if ds.length = n then sem ds h1 else .no
section
variable {X : Cx} {E : XK} {k : Nat} {f : Addr} {fd : FuncData} {ps : List Str} {sem : Sf} {x : Str} {p pos : Pos} {a : Expr} {as : List Expr} {fs : Sa}
theorem runG {pins : List (Addr × Obj)} {σ : L2.St} {H : Hp} {s : Shared} {Q : VK} {us : List Value} {vs : List V} {ds : List D} {ι : List Addr} {h : Hq} {args : Args} {us' : List Value} {vs' : List V} (F : FnG X.prog X.w X.K X.mg X.base k f fd ps sem) (wh : Wh X E) (hr : Room k X.A)
    (I : Inv X pins σ H s) (hb : BindsTo s fd args (ps.zip us')) (rv : Vals vs' us') (R : HR X.K ι h H) (r : VRs X.K ι H vs' ds) (hl : ds.length = ps.length) (P : PoV X.K X.mg ι H Q E (sem ds h)) :
    codeAny (model X.prog X.w) X.A (.call (.ref f) args) (fun r s' => match r with
      | .ok (.ret u) => EP X pins σ Q u s'
      | .ok _ => False
      | .error e => X.xe e s') s := by
  refine codeAny_mono (F.go X.A X.stack s H args us' vs' ds ι h Q E hr wh.gd I.env0 hb rv R r hl P) fun z s' q => ?_
  cases z with
  | error e => exact wh.tk e s' (XE.of_call (W := fun cls d _ H => E cls d H) I (fun _ _ _ z => z) q)
  | ok fl =>
    cases fl with
    | ret u => exact I.after q
    | next => exact q.elim
    | brk => exact q.elim
    | cont => exact q.elim
/-- f(e, ..): the written arguments, then the defaults -/
theorem m_callD {dds : List D} {dvs : List V} {dus : List Value} (F : FnG X.prog X.w X.K X.mg X.base k f fd ps sem) (wh : Wh X E) (hr : Room k X.A) (hm : X.mg x = some (.ref f)) (hk : PySem.W.keepIn X.K (.ref f) = true) (hb : Binds X.K fd ps dus)
    (hd : Vals dvs dus) (hdd : ∀ ι H, VRs X.K ι H dvs dds) (ha : PMa X E (a :: as) fs) (hg : Gl X x := by rfl) (hdb : (x == ("__debug__" : Str)) = false := by decide)
    (he : starEach (a :: as) X.env = (false, eval a X.env) :: starEach as X.env := by rfl) (hpl : (backTo pos (starEach as X.env)).any (·.1) = false := by rfl) :
    PM X E (.Call (.Name x p) (a :: as) [] pos) (eCall ps.length (fun ds => sem ds) (fun fr h => (fs fr h).bind fun ds h1 => .ok (ds ++ dds) h1)) := by
  constructor
  intro pins s σ H Q I q
  obtain ⟨ι, h, fr, R, F', P⟩ := q
  have P' : PoV X.K X.mg ι H Q E ((fs fr h).bind fun ds h1 => if (ds ++ dds).length = ps.length then sem (ds ++ dds) h1 else .no) := by
    have e : eCall ps.length (fun ds => sem ds) (fun fr h => (fs fr h).bind fun ds h1 => .ok (ds ++ dds) h1) fr h = (fs fr h).bind fun ds h1 => if (ds ++ dds).length = ps.length then sem (ds ++ dds) h1 else .no := by
      show ((fs fr h).bind fun ds h1 => Rs.ok (ds ++ dds) h1).bind _ = _
      cases fs fr h <;> rfl
    rw [← e]; exact P
  refine wpAny_Call_Name_kw (ld_glob I hg hm ?_ hdb)
  refine PySem.W.callWith_K (h₀ := X.base) I.ok.mod.kin hk (thn (ha.run pos pins s σ H _ I ⟨ι, h, fr, R, F', Po.bind P'⟩) ?_) he hpl
  rintro us s1 ⟨vs, H1, I1, rv, ι1, h1, ds, e1, R1, r1, P1⟩
  refine ⟨I1.kIn, ?_⟩
  split at P1
  · rename_i hl
    have rr : VRs X.K ι1 H1 (vs ++ dvs) (ds ++ dds) := r1.append (hdd ι1 H1)
    have ru : Vals (vs ++ dvs) (us ++ dus) := rv.append hd
    refine wpAny_call (codeAny_mono (runG (us := us) (vs := vs) F wh hr I1 (hb s1 us I1.kIn (by rw [← ru.length, rr.length]; exact hl)) ru R1 rr hl P1) ?_)
    intro z s' q
    cases z with
    | error e => exact q
    | ok fl =>
      cases fl with
      | ret u => exact q
      | next => exact q.elim
      | brk => exact q.elim
      | cont => exact q.elim
  · exact P1.elim
theorem m_call (F : FnG X.prog X.w X.K X.mg X.base k f fd ps sem) (wh : Wh X E) (hr : Room k X.A) (hm : X.mg x = some (.ref f)) (hk : PySem.W.keepIn X.K (.ref f) = true) (hb : Binds X.K fd ps [])
    (ha : PMa X E (a :: as) fs) (hg : Gl X x := by rfl) (hdb : (x == ("__debug__" : Str)) = false := by decide)
    (he : starEach (a :: as) X.env = (false, eval a X.env) :: starEach as X.env := by rfl) (hpl : (backTo pos (starEach as X.env)).any (·.1) = false := by rfl) :
    PM X E (.Call (.Name x p) (a :: as) [] pos) (eCall ps.length sem fs) := by
  have q := m_callD (dds := []) (dvs := []) F wh hr hm hk hb .nil (fun _ _ => .nil) ha hg hdb he hpl (p := p) (pos := pos)
  have e : (eCall ps.length (fun ds => sem ds) (fun fr h => (fs fr h).bind fun ds h1 => .ok (ds ++ []) h1)) = eCall ps.length sem fs := by
    funext fr h
    show ((fs fr h).bind fun ds h1 => Rs.ok (ds ++ []) h1).bind _ = (fs fr h).bind _
    cases fs fr h with
    | ok ds h1 => simp only [Rs.bind_ok, List.append_nil]
    | exc x h1 => rfl
    | no => rfl
  rw [e] at q
  exact q
end

/-! ### calls of built-ins -/
def CaS (K : PySem.W.Frag) (mg : Str → Option Value) (E : XK) (g : List D → Hq → Rs D) (r : List V → Hp → VK → Prop) : Prop :=
  ∀ (ι : List Addr) (h : Hq) (H : Hp) (ds : List D) (vs : List V) (Q : VK), HR K ι h H → VRs K ι H vs ds → PoV K mg ι H Q E (g ds h) → r vs H Q
def eBi (g : List D → Hq → Rs D) (f : Sa) : Sx := fun fr h => (f fr h).bind g
theorem bi_in {K : PySem.W.Frag} {mg : Str → Option Value} {E : XK} {g : List D → Hq → Rs D} {r : List V → Hp → VK → Prop} (hs : CaS K mg E g r) {f : Sa} {σ : L2.St} {H : Hp} {Q : VK} (q : tM K mg E (eBi g f) σ H Q) : tCB r (tMa K mg E f) σ H Q := by
  obtain ⟨ι, h, fr, R, F, P⟩ := q
  refine ⟨ι, h, fr, R, F, Po.mono ?_ (Po.bind P)⟩
  rintro vs H1 ⟨ι1, h1, ds, e1, R1, r1, P1⟩
  exact hs ι1 h1 H1 ds vs Q R1 r1 P1
section
variable {X : Cx} {E : XK} {a : Expr} {as : List Expr} {fs : Sa} {x : Str} {p pos : Pos} {K : PySem.W.Frag} {mg : Str → Option Value}
theorem m_bi {id : String} {g : List D → Hq → Rs D} {r : List V → Hp → VK → Prop} (hc : CallR X (.builtin id) r) (hs : CaS X.K X.mg E g r) (hm : X.mg x = none) (hv : bootBuiltins x = some (.builtin id)) (ha : PMa X E (a :: as) fs) (hg : Gl X x := by rfl) (hn : x ≠ "__name__" := by decide)
    (hdb : (x == ("__debug__" : Str)) = false := by decide) (he : starEach (a :: as) X.env = (false, eval a X.env) :: starEach as X.env := by rfl) (hpl : (backTo pos (starEach as X.env)).any (·.1) = false := by rfl) : PM X E (.Call (.Name x p) (a :: as) [] pos) (eBi g fs) :=
  pe_imp (pe_callB hc hg hm hv ha hn hdb he hpl) fun _ _ _ q => bi_in hs q
theorem m_ty {T : String} {g : List D → Hq → Rs D} {r : List V → Hp → VK → Prop} (hc : CallR X (.type T) r) (hs : CaS X.K X.mg E g r) (hm : X.mg x = none) (hv : bootBuiltins x = some (.type T)) (ha : PMa X E (a :: as) fs) (hg : Gl X x := by rfl) (hn : x ≠ "__name__" := by decide)
    (hdb : (x == ("__debug__" : Str)) = false := by decide) (he : starEach (a :: as) X.env = (false, eval a X.env) :: starEach as X.env := by rfl) (hpl : (backTo pos (starEach as X.env)).any (·.1) = false := by rfl) : PM X E (.Call (.Name x p) (a :: as) [] pos) (eBi g fs) :=
  pe_imp (pe_callTy hc hg hm hv ha hn hdb he hpl) fun _ _ _ q => bi_in hs q
/-- a module's name for a built-in (gcd) -/
theorem m_bf {id : String} {g : List D → Hq → Rs D} {r : List V → Hp → VK → Prop} (hc : CallR X (.builtin id) r) (hs : CaS X.K X.mg E g r) (hm : X.mg x = some (.builtin id)) (ha : PMa X E (a :: as) fs) (hg : Gl X x := by rfl)
    (hdb : (x == ("__debug__" : Str)) = false := by decide) (he : starEach (a :: as) X.env = (false, eval a X.env) :: starEach as X.env := by rfl) (hpl : (backTo pos (starEach as X.env)).any (·.1) = false := by rfl) : PM X E (.Call (.Name x p) (a :: as) [] pos) (eBi g fs) :=
  pe_imp (pe_callBfun hc hg hm ha hdb he hpl) fun _ _ _ q => bi_in hs q
def gAbs (ds : List D) (h : Hq) : Rs D := match ds with
  | [.int i] => .ok (.int (if i < 0 then -i else i)) h
  | _ => .no
theorem s_abs : CaS K mg E gAbs (fun xs H Q => ∃ i, xs = [.int i] ∧ Q (.int (if i < 0 then -i else i)) H) := by
  intro ι h H ds vs Q R r P
  unfold gAbs at P
  split at P
  · obtain ⟨v, rfl, q⟩ := r.one
    cases q
    exact ⟨_, rfl, P ι H _ (Ext.refl _ _) R (.int _)⟩
  · exact P.elim
def gMax (ds : List D) (h : Hq) : Rs D := match ds with
  | [.int i, .int j] => .ok (.int (if j > i then j else i)) h
  | _ => .no
theorem s_max : CaS K mg E gMax (fun xs H Q => ∃ i j, xs = [.int i, .int j] ∧ Q (.int (if j > i then j else i)) H) := by
  intro ι h H ds vs Q R r P
  unfold gMax at P
  split at P
  · obtain ⟨v, w, rfl, q1, q2⟩ := r.two
    cases q1; cases q2
    exact ⟨_, _, rfl, P ι H _ (Ext.refl _ _) R (.int _)⟩
  · exact P.elim
def gMin (ds : List D) (h : Hq) : Rs D := match ds with
  | [.int i, .int j] => .ok (.int (if j < i then j else i)) h
  | _ => .no
theorem s_min : CaS K mg E gMin (fun xs H Q => ∃ i j, xs = [.int i, .int j] ∧ Q (.int (if j < i then j else i)) H) := by
  intro ι h H ds vs Q R r P
  unfold gMin at P
  split at P
  · obtain ⟨v, w, rfl, q1, q2⟩ := r.two
    cases q1; cases q2
    exact ⟨_, _, rfl, P ι H _ (Ext.refl _ _) R (.int _)⟩
  · exact P.elim
def gInt (ds : List D) (h : Hq) : Rs D := match ds with
  | [.int i] => .ok (.int i) h
  | [.bl b] => .ok (.int (if b then 1 else 0)) h
  | _ => .no
theorem s_int : CaS K mg E gInt (fun xs H Q => (∃ i, xs = [.int i] ∧ Q (.int i) H) ∨ ∃ k, xs = [.bl k] ∧ Q (.int (if k then 1 else 0)) H) := by
  intro ι h H ds vs Q R r P
  unfold gInt at P
  split at P
  · obtain ⟨v, rfl, q⟩ := r.one
    cases q
    exact .inl ⟨_, rfl, P ι H _ (Ext.refl _ _) R (.int _)⟩
  · obtain ⟨v, rfl, q⟩ := r.one
    cases q
    exact .inr ⟨_, rfl, P ι H _ (Ext.refl _ _) R (.int _)⟩
  · exact P.elim
def bitsOk (i : Int) : Bool := decide (i.natAbs.log2 < 1920)
def gStr (ds : List D) (h : Hq) : Rs D := match ds with
  | [.int i] => if bitsOk i = true then .ok (.str (toString i)) h else .no
  | [.bl b] => .no
  | _ => .no
theorem s_str : CaS K mg E gStr (fun xs H Q => ∃ i, xs = [.int i] ∧ i.natAbs.log2 < 1920 ∧ Q (.str (toString i)) H) := by
  intro ι h H ds vs Q R r P
  unfold gStr at P
  split at P
  · split at P
    · rename_i hz
      obtain ⟨v, rfl, q⟩ := r.one
      cases q
      exact ⟨_, rfl, of_decide_eq_true hz, P ι H _ (Ext.refl _ _) R (.str _)⟩
    · exact P.elim
  · exact P.elim
  · exact P.elim
def gLen (ds : List D) (h : Hq) : Rs D := match ds with
  | [.tup l] => .ok (.int l.length) h
  | [.scr l] => .ok (.int l.length) h
  | [.ref m] => match lstAt h m with
    | some l => .ok (.int l.length) h
    | none => .no
  | _ => .no
theorem s_len : CaS K mg E gLen (fun xs H Q => ∃ p ys, xs = [.ref p] ∧ (SqL K H p ys ∨ SqT K H p ys) ∧ Q (.int ys.length) H) := by
  intro ι h H ds vs Q R r P
  unfold gLen at P
  split at P
  · obtain ⟨v, rfl, q⟩ := r.one
    cases q with
    | tup hx q => exact ⟨_, _, rfl, .inr (.of hx), by rw [q.length]; exact P ι H _ (Ext.refl _ _) R (.int _)⟩
  · obtain ⟨v, rfl, q⟩ := r.one
    cases q with
    | scr hx => exact ⟨_, _, rfl, .inl hx.sq, by rw [List.length_map]; exact P ι H _ (Ext.refl _ _) R (.int _)⟩
  · split at P
    · rename_i hl
      obtain ⟨v, rfl, q⟩ := r.one
      cases q with
      | ref hx =>
        obtain ⟨ws, c1, q1⟩ := R.lst hx hl
        exact ⟨_, _, rfl, .inl (.of c1), by rw [q1.length]; exact P ι H _ (Ext.refl _ _) R (.int _)⟩
    · exact P.elim
  · exact P.elim
def gList (ds : List D) (h : Hq) : Rs D := match ds with
  | [.tup l] => .ok (.ref h.length) (h ++ [.lst l])
  | [.ref m] => match lstAt h m with
    | some l => .ok (.ref h.length) (h ++ [.lst l])
    | none => .no
  | _ => .no
theorem s_list : CaS K mg E gList (fun xs H Q => ∃ p ys, xs = [.ref p] ∧ (SqL K H p ys ∨ SqT K H p ys) ∧ ∀ l, H l = none → Q (.ref l) (upd H l (.lst ys))) := by
  intro ι h H ds vs Q R r P
  unfold gList at P
  split at P
  · rename_i l
    obtain ⟨v, rfl, q⟩ := r.one
    cases q with
    | tup hx q =>
      refine ⟨_, _, rfl, .inr (.of hx), fun p np => ?_⟩
      obtain ⟨e3, R3⟩ := R.new np (c := .lst l) fun ι' H' e z => ⟨_, z, q.ext e⟩
      exact P _ _ _ e3 R3 (.ref (ref_new R p))
  · split at P
    · rename_i l hl
      obtain ⟨v, rfl, q⟩ := r.one
      cases q with
      | ref hx =>
        obtain ⟨ws, c1, q1⟩ := R.lst hx hl
        refine ⟨_, _, rfl, .inl (.of c1), fun p np => ?_⟩
        obtain ⟨e3, R3⟩ := R.new np (c := .lst l) fun ι' H' e z => ⟨_, z, q1.ext e⟩
        exact P _ _ _ e3 R3 (.ref (ref_new R p))
    · exact P.elim
  · exact P.elim
def gTuple (ds : List D) (h : Hq) : Rs D := match ds with
  | [.tup l] => .ok (.tup l) h
  | [.ref m] => match lstAt h m with
    | some l => .ok (.tup l) h
    | none => .no
  | _ => .no
theorem s_tuple : CaS K mg E gTuple (fun xs H Q => ∃ p ys, xs = [.ref p] ∧ ((SqL K H p ys ∧ ∀ l, H l = none → Q (.ref l) (upd H l (.tup ys))) ∨ (SqT K H p ys ∧ Q (.ref p) H))) := by
  intro ι h H ds vs Q R r P
  unfold gTuple at P
  split at P
  · rename_i l
    obtain ⟨v, rfl, q⟩ := r.one
    cases q with
    | tup hx q => exact ⟨_, _, rfl, .inr ⟨.of hx, P ι H _ (Ext.refl _ _) R (.tup hx q)⟩⟩
  · split at P
    · rename_i l hl
      obtain ⟨v, rfl, q⟩ := r.one
      cases q with
      | ref hx =>
        obtain ⟨ws, c1, q1⟩ := R.lst hx hl
        refine ⟨_, ws, rfl, .inl ⟨.of c1, fun p np => ?_⟩⟩
        obtain ⟨e3, R3⟩ := R.tup np ws
        exact P _ _ _ e3 R3 (.tup upd_same (q1.ext e3))
    · exact P.elim
  · exact P.elim
def gGcd (ds : List D) (h : Hq) : Rs D := match ds with
  | [.int i, .int j] => .ok (.int ((Nat.gcd i.natAbs j.natAbs : Nat) : Int)) h
  | _ => .no
theorem s_gcd : CaS K mg E gGcd rGcd := by
  intro ι h H ds vs Q R r P
  unfold gGcd at P
  split at P
  · obtain ⟨v, w, rfl, q1, q2⟩ := r.two
    cases q1; cases q2
    exact ⟨_, _, rfl, P ι H _ (Ext.refl _ _) R (.int _)⟩
  · exact P.elim
theorem m_abs (hm : X.mg "abs" = none) (ha : PMa X E (a :: as) fs) (hg : Gl X "abs" := by rfl) (he : starEach (a :: as) X.env = (false, eval a X.env) :: starEach as X.env := by rfl) (hpl : (backTo pos (starEach as X.env)).any (·.1) = false := by rfl) :
    PM X E (.Call (.Name "abs" p) (a :: as) [] pos) (eBi gAbs fs) := m_bi call_abs s_abs hm (by decide +kernel) ha hg (he := he) (hpl := hpl)
theorem m_max (hc : X.calm = true) (hm : X.mg "max" = none) (ha : PMa X E (a :: as) fs) (hg : Gl X "max" := by rfl) (he : starEach (a :: as) X.env = (false, eval a X.env) :: starEach as X.env := by rfl) (hpl : (backTo pos (starEach as X.env)).any (·.1) = false := by rfl) :
    PM X E (.Call (.Name "max" p) (a :: as) [] pos) (eBi gMax fs) := m_bi (call_max2 hc) s_max hm (by decide +kernel) ha hg (he := he) (hpl := hpl)
theorem m_min (hc : X.calm = true) (hm : X.mg "min" = none) (ha : PMa X E (a :: as) fs) (hg : Gl X "min" := by rfl) (he : starEach (a :: as) X.env = (false, eval a X.env) :: starEach as X.env := by rfl) (hpl : (backTo pos (starEach as X.env)).any (·.1) = false := by rfl) :
    PM X E (.Call (.Name "min" p) (a :: as) [] pos) (eBi gMin fs) := m_bi (call_min2 hc) s_min hm (by decide +kernel) ha hg (he := he) (hpl := hpl)
theorem m_len (hm : X.mg "len" = none) (ha : PMa X E (a :: as) fs) (hg : Gl X "len" := by rfl) (he : starEach (a :: as) X.env = (false, eval a X.env) :: starEach as X.env := by rfl) (hpl : (backTo pos (starEach as X.env)).any (·.1) = false := by rfl) :
    PM X E (.Call (.Name "len" p) (a :: as) [] pos) (eBi gLen fs) := m_bi call_len_seq s_len hm boot_len ha hg (he := he) (hpl := hpl)
theorem m_intc (hm : X.mg "int" = none) (ha : PMa X E (a :: as) fs) (hg : Gl X "int" := by rfl) (he : starEach (a :: as) X.env = (false, eval a X.env) :: starEach as X.env := by rfl) (hpl : (backTo pos (starEach as X.env)).any (·.1) = false := by rfl) :
    PM X E (.Call (.Name "int" p) (a :: as) [] pos) (eBi gInt fs) := m_ty call_int1 s_int hm (by decide +kernel) ha hg (he := he) (hpl := hpl)
theorem m_strc (hm : X.mg "str" = none) (ha : PMa X E (a :: as) fs) (hg : Gl X "str" := by rfl) (he : starEach (a :: as) X.env = (false, eval a X.env) :: starEach as X.env := by rfl) (hpl : (backTo pos (starEach as X.env)).any (·.1) = false := by rfl) :
    PM X E (.Call (.Name "str" p) (a :: as) [] pos) (eBi gStr fs) := m_ty call_str_int s_str hm (by decide +kernel) ha hg (he := he) (hpl := hpl)
theorem m_listc (hm : X.mg "list" = none) (ha : PMa X E (a :: as) fs) (hg : Gl X "list" := by rfl) (he : starEach (a :: as) X.env = (false, eval a X.env) :: starEach as X.env := by rfl) (hpl : (backTo pos (starEach as X.env)).any (·.1) = false := by rfl) :
    PM X E (.Call (.Name "list" p) (a :: as) [] pos) (eBi gList fs) := m_ty call_list_of s_list hm (by decide +kernel) ha hg (he := he) (hpl := hpl)
theorem m_tuplec (hm : X.mg "tuple" = none) (ha : PMa X E (a :: as) fs) (hg : Gl X "tuple" := by rfl) (he : starEach (a :: as) X.env = (false, eval a X.env) :: starEach as X.env := by rfl) (hpl : (backTo pos (starEach as X.env)).any (·.1) = false := by rfl) :
    PM X E (.Call (.Name "tuple" p) (a :: as) [] pos) (eBi gTuple fs) := m_ty call_tuple_of s_tuple hm (by decide +kernel) ha hg (he := he) (hpl := hpl)
theorem m_gcd (hm : X.mg "gcd" = some (.builtin "math.gcd")) (ha : PMa X E (a :: as) fs) (hg : Gl X "gcd" := by rfl) (he : starEach (a :: as) X.env = (false, eval a X.env) :: starEach as X.env := by rfl) (hpl : (backTo pos (starEach as X.env)).any (·.1) = false := by rfl) :
    PM X E (.Call (.Name "gcd" p) (a :: as) [] pos) (eBi gGcd fs) := m_bf cr_gcd s_gcd hm ha hg (he := he) (hpl := hpl)
end

/-! ### isinstance -/
inductive Tn where
  | int | str | bool | list | tuple | dict
def Tn.s : Tn → String
  | .int => "int" | .str => "str" | .bool => "bool" | .list => "list" | .tuple => "tuple" | .dict => "dict"
/-- the type's name of a plain thing -/
def tyD (h : Hq) : D → Option String
  | .non => some "NoneType"
  | .bl _ => some "bool"
  | .int _ => some "int"
  | .str _ => some "str"
  | .tup _ => some "tuple"
  | .scr _ => some "list"
  | .opq => none
  | .adr _ => none
  | .ty _ => none
  | .ref m => match h[m]? with
    | some (.lst _) => some "list"
    | some (.dct _) => some "dict"
    | none => none
theorem tyD_rel {K : PySem.W.Frag} {ι : List Addr} {h : Hq} {H : Hp} (R : HR K ι h H) {v : V} {d : D} {n : String} (r : VR K ι H v d) (e : tyD h d = some n) : TyX K H v (.type n) := by
  cases r with
  | non => cases e; exact .base .non
  | bl b => cases e; exact .base (.bl b)
  | int i => cases e; exact .base (.int i)
  | str x => cases e; exact .base (.str x)
  | tup hx _ => cases e; exact .base (.tup hx)
  | opq v => cases e
  | adr a => cases e
  | ty n => cases e
  | scr hx =>
    cases e
    rcases hx with ⟨o, hx⟩ | ⟨o, its, m, hk, hc, _⟩
    · exact .base (.frz hx)
    · exact .kList hk hc
  | ref hx =>
    rename_i a m
    have e' : (match h[m]? with | some (.lst _) => some "list" | some (.dct _) => some "dict" | none => none) = some n := e
    split at e'
    · rename_i l q
      cases e'
      obtain ⟨vs, c1, _⟩ := R.cells m _ a q hx
      exact .base (.lst c1)
    · rename_i l q
      cases e'
      obtain ⟨vs, c1, _⟩ := R.cells m _ a q hx
      exact .base (.dK c1)
    · cases e'
/-- isinstance(x, T): what the library's own look at built-in classes says -/
def gIsi (c : String) (d : D) (h : Hq) : Rs D := match tyD h d with
  | some n => match kitB n c with
    | some b => .ok (.bl b) h
    | none => .no
  | none => .no
def eIsi (c : String) (f : Sx) : Sx := fun fr h => (f fr h).bind fun d h1 => gIsi c d h1
section
variable {X : Cx} {E : XK} {a b c : Expr} {fa : Sx} {p pos q : Pos} {x : Str}
theorem m_isi {T : String} (hi : X.mg "isinstance" = none) (hx : X.mg x = none) (hv : bootBuiltins x = some (.type T)) (ha : PM X E a fa) (hg : Gl X "isinstance" := by rfl) (hgx : Gl X x := by rfl) (hn : x ≠ "__name__" := by decide) (hdb : (x == ("__debug__" : Str)) = false := by decide)
    (he : starEach [a, .Name x q] X.env = (false, eval a X.env) :: starEach [.Name x q] X.env := by rfl) (he2 : starEach [.Name x q] X.env = (false, eval (.Name x q) X.env) :: starEach [] X.env := by rfl)
    (hpl : (backTo pos (starEach [.Name x q] X.env)).any (·.1) = false := by rfl) :
    PM X E (.Call (.Name "isinstance" p) [a, .Name x q] [] pos) (eIsi T fa) := by
  have h1 := pe_callB (p := p) (pos := pos) call_isi hg hi (by decide +kernel) (pa_cons ha (pa_cons (pe_bltn (v := .ty T) hgx hx hv rfl hn hdb) pa_nil he2) he) (he := he) (hpl := hpl)
  refine pe_imp h1 fun σ H Q ⟨ι, h, fr, R, F, P⟩ => ?_
  refine ⟨ι, h, fr, R, F, Po.mono ?_ (Po.bind P)⟩
  rintro v H1 ⟨ι1, h1, d, e1, R1, r1, P1⟩
  unfold gIsi at P1
  split at P1
  · rename_i n hn
    split at P1
    · rename_i b hb
      exact ⟨v, .ty T, .type n, .type T, b, rfl, .ty T, tyD_rel R1 r1 hn, kit_ty hb, P1 ι1 H1 _ (Ext.refl _ _) R1 (.bl b)⟩
    · exact P1.elim
  · exact P1.elim
/-- isinstance(x, (S, T)) -/
def eIsi2 (c1 c2 : String) (f : Sx) : Sx := fun fr h => (f fr h).bind fun d h1 => match tyD h1 d with
  | some n => match kitB n c1, kitB n c2 with
    | some b, some b2 => .ok (.bl (b || b2)) h1
    | _, _ => .no
  | none => .no
theorem m_isi2 {T S : String} {y : Str} {q2 q3 : Pos} {kk : Nat} (hi : X.mg "isinstance" = none) (hx : X.mg x = none) (hv : bootBuiltins x = some (.type T)) (hy : X.mg y = none) (hvy : bootBuiltins y = some (.type S)) (ha : PM X E a fa) (hg : Gl X "isinstance" := by rfl) (hgx : Gl X x := by rfl) (hgy : Gl X y := by rfl)
    (hn : x ≠ "__name__" := by decide) (hdb : (x == ("__debug__" : Str)) = false := by decide) (hn2 : y ≠ "__name__" := by decide) (hdb2 : (y == ("__debug__" : Str)) = false := by decide)
    (he : starEach [a, .Tuple [.Name x q, .Name y q2] kk q3] X.env = (false, eval a X.env) :: starEach [.Tuple [.Name x q, .Name y q2] kk q3] X.env := by rfl)
    (he2 : starEach [.Tuple [.Name x q, .Name y q2] kk q3] X.env = (false, eval (.Tuple [.Name x q, .Name y q2] kk q3) X.env) :: starEach [] X.env := by rfl)
    (he3 : starEach [.Name x q, .Name y q2] X.env = (false, eval (.Name x q) X.env) :: starEach [.Name y q2] X.env := by rfl) (he4 : starEach [.Name y q2] X.env = (false, eval (.Name y q2) X.env) :: starEach [] X.env := by rfl)
    (hpl : (backTo pos (starEach [.Tuple [.Name x q, .Name y q2] kk q3] X.env)).any (·.1) = false := by rfl) :
    PM X E (.Call (.Name "isinstance" p) [a, .Tuple [.Name x q, .Name y q2] kk q3] [] pos) (eIsi2 T S fa) := by
  have h0 := pe_tup (x1 := kk) (pos := q3) (pa_cons (pe_bltn (v := .ty T) (pos := q) hgx hx hv rfl hn hdb) (pa_cons (pe_bltn (v := .ty S) (pos := q2) hgy hy hvy rfl hn2 hdb2) pa_nil he4) he3)
  have h1 := pe_callB (p := p) (pos := pos) call_isiT hg hi (by decide +kernel) (pa_cons ha (pa_cons h0 pa_nil he2) he) (he := he) (hpl := hpl)
  refine pe_imp h1 fun σ H Q ⟨ι, h, fr, R, F, P⟩ => ?_
  refine ⟨ι, h, fr, R, F, Po.mono ?_ (Po.bind P)⟩
  rintro v H1 ⟨ι1, h1, d, e1, R1, r1, P1⟩
  refine ⟨by show 2 ≤ sizeLine; rw [line_eq]; omega, fun t nt => ?_⟩
  obtain ⟨e2, R2⟩ := R1.tup nt [.ty T, .ty S]
  split at P1
  · rename_i n hn
    split at P1
    · rename_i b b2 hb hb2
      have hn' : TyX X.K (upd H1 t (.tup [.ty T, .ty S])) v (.type n) := tyD_rel R2 (r1.ext e2) hn
      refine ⟨v, t, [.ty T, .ty S], .type n, [.type T, .type S], b || b2, rfl, upd_same, .cons (.ty T) (.cons (.ty S) .nil), hn', ?_, P1 ι1 _ _ e2 R2 (.bl _)⟩
      refine kitAny_cons (kit_ty hb) (fun e => ?_) fun e => by rw [e]; rfl
      rw [e, Bool.false_or]
      refine kitAny_cons (kit_ty hb2) (fun e => ?_) fun e => by rw [e]
      rw [e]; exact kitAny_nil
    · exact P1.elim
  · exact P1.elim
end
end MI
end

section
set_option Elab.async false
set_option linter.all false
set_option autoImplicit false
set_option maxRecDepth 100000
set_option maxHeartbeats 4000000
namespace MI
open PySem L2

/-! ### statements -/
inductive SR where
  | nx (fr : Fr) (h : Hq) | rt (d : D) (h : Hq) | bk (fr : Fr) (h : Hq) | ct (fr : Fr) (h : Hq) | exc (x : Xn) (h : Hq) | no
abbrev Ss := Fr → Hq → SR
def SR.then (r : SR) (g : Ss) : SR := match r with
  | .nx fr h => g fr h
  | r => r
/-- an expression first -/
def Rs.into {α : Type} (r : Rs α) (f : α → Hq → SR) : SR := match r with
  | .ok a h => f a h
  | .exc x h => .exc x h
  | .no => .no
@[simp] theorem Rs.into_ok {α : Type} (a : α) (h : Hq) (f : α → Hq → SR) : (Rs.ok a h).into f = f a h := rfl
@[simp] theorem Rs.into_exc {α : Type} (x : Xn) (h : Hq) (f : α → Hq → SR) : (Rs.exc x h : Rs α).into f = .exc x h := rfl
@[simp] theorem Rs.into_no {α : Type} (f : α → Hq → SR) : (Rs.no : Rs α).into f = .no := rfl
@[simp] theorem SR.then_nx (fr : Fr) (h : Hq) (g : Ss) : (SR.nx fr h).then g = g fr h := rfl
@[simp] theorem SR.then_rt (d : D) (h : Hq) (g : Ss) : (SR.rt d h).then g = .rt d h := rfl
@[simp] theorem SR.then_exc (x : Xn) (h : Hq) (g : Ss) : (SR.exc x h).then g = .exc x h := rfl
@[simp] theorem SR.then_no (g : Ss) : SR.no.then g = .no := rfl
@[simp] theorem SR.then_bk (fr : Fr) (h : Hq) (g : Ss) : (SR.bk fr h).then g = .bk fr h := rfl
@[simp] theorem SR.then_ct (fr : Fr) (h : Hq) (g : Ss) : (SR.ct fr h).then g = .ct fr h := rfl
def SPo (K : PySem.W.Frag) (mg : Str → Option Value) (ι : List Addr) (H : Hp) (Z : Ends) (E : XK) : SR → Prop
  | .nx fr h' => ∀ ι' H' σ', Ext ι H ι' H' → HR K ι' h' H' → FR K ι' H' σ' fr → Z.nx σ' H'
  | .rt d h' => ∀ ι' H' v, Ext ι H ι' H' → HR K ι' h' H' → VR K ι' H' v d → Z.rt v H'
  | .bk fr h' => ∀ ι' H' σ', Ext ι H ι' H' → HR K ι' h' H' → FR K ι' H' σ' fr → Z.bk σ' H'
  | .ct fr h' => ∀ ι' H' σ', Ext ι H ι' H' → HR K ι' h' H' → FR K ι' H' σ' fr → Z.ct σ' H'
  | .exc x h' => ∀ ι' H' cls d, Ext ι H ι' H' → HR K ι' h' H' → XR K mg ι' H' x cls d → E cls d H'
  | .no => False
section
variable {K : PySem.W.Frag} {mg : Str → Option Value} {ι ι' : List Addr} {H H' : Hp} {E : XK} {Z Z' : Ends}
theorem SPo.ext (e : Ext ι H ι' H') : ∀ {r : SR}, SPo K mg ι H Z E r → SPo K mg ι' H' Z E r
  | .nx _ _, h => fun a b c e2 => h a b c (e.trans e2)
  | .rt _ _, h => fun a b c e2 => h a b c (e.trans e2)
  | .bk _ _, h => fun a b c e2 => h a b c (e.trans e2)
  | .ct _ _, h => fun a b c e2 => h a b c (e.trans e2)
  | .exc _ _, h => fun a b c d e2 => h a b c d (e.trans e2)
  | .no, h => h
/-- what a statement's rest wants, as what is wanted behind it -/
def Rest (K : PySem.W.Frag) (mg : Str → Option Value) (ι : List Addr) (H : Hp) (Z : Ends) (E : XK) (g : Ss) (σ : L2.St) (H1 : Hp) : Prop :=
  ∃ ι1 h1 fr, Ext ι H ι1 H1 ∧ HR K ι1 h1 H1 ∧ FR K ι1 H1 σ fr ∧ SPo K mg ι1 H1 Z E (g fr h1)
theorem SPo.then {g : Ss} : ∀ {r : SR}, SPo K mg ι H Z E (r.then g) → SPo K mg ι H { Z with nx := Rest K mg ι H Z E g } E r
  | .nx fr h1, h => fun i1 H1 σ e R F => ⟨i1, h1, fr, e, R, F, SPo.ext e h⟩
  | .rt _ _, h => h
  | .bk _ _, h => h
  | .ct _ _, h => h
  | .exc _ _, h => h
  | .no, h => h
theorem Po.into {α β : Type} {R : List Addr → Hp → β → α → Prop} {f : α → Hq → SR} : ∀ {r : Rs α}, SPo K mg ι H Z E (r.into f) →
    Po K mg R ι H (fun v H1 => ∃ ι1 h1 a, Ext ι H ι1 H1 ∧ HR K ι1 h1 H1 ∧ R ι1 H1 v a ∧ SPo K mg ι1 H1 Z E (f a h1)) E r
  | .ok a h1, h => fun i1 H1 v e1 r1 q => ⟨i1, h1, a, e1, r1, q, SPo.ext e1 h⟩
  | .exc _ _, h => h
  | .no, h => h
end
def tMs (K : PySem.W.Frag) (mg : Str → Option Value) (E : XK) (f : Ss) : TS := fun Z σ H => ∃ ι h fr, HR K ι h H ∧ FR K ι H σ fr ∧ SPo K mg ι H Z E (f fr h)
abbrev PMs (X : Cx) (E : XK) (st : Stmt) (f : Ss) : Prop := PS X st (tMs X.K X.mg E f)
abbrev PMb' (X : Cx) (E : XK) (st : List Stmt) (f : Ss) : Prop := PSs X st (tMs X.K X.mg E f)
section
variable {X : Cx}
theorem ps_imp {st : Stmt} {t t' : TS} (h : PS X st t) (m : ∀ Z σ H, t' Z σ H → t Z σ H) : PS X st t' := ⟨fun pins s σ H Z I q => h.run pins s σ H Z I (m Z σ H q)⟩
theorem pss_imp {st : List Stmt} {t t' : TS} (h : PSs X st t) (m : ∀ Z σ H, t' Z σ H → t Z σ H) : PSs X st t' := ⟨fun pins s σ H Z I q => h.run pins s σ H Z I (m Z σ H q)⟩
variable {E : XK} {st : Stmt} {rest : List Stmt} {f g : Ss} {e a b c : Expr} {fe : Sx} {pos : Pos}
def sEnd : Ss := fun fr h => .nx fr h
def sSeq (f g : Ss) : Ss := fun fr h => (f fr h).then g
theorem m_end : PMb' X E [] sEnd := pss_imp pss_nil fun Z σ H ⟨ι, h, fr, R, F, P⟩ => P ι H σ (Ext.refl _ _) R F
theorem m_seq (h1 : PMs X E st f) (h2 : PMb' X E rest g) : PMb' X E (st :: rest) (sSeq f g) := pss_imp (pss_cons h1 h2) fun Z σ H ⟨ι, h, fr, R, F, P⟩ => by
  refine ⟨ι, h, fr, R, F, ?_⟩
  have q := SPo.then P
  revert q
  cases f fr h with
  | nx fr1 h1 =>
    intro q i1 H1 σ1 e1 R1 F1
    obtain ⟨i2, h2, fr2, e2, R2, F2, P2⟩ := q i1 H1 σ1 e1 R1 F1
    exact ⟨i2, h2, fr2, R2, F2, P2⟩
  | rt d h1 => exact fun q => q
  | bk fr1 h1 => exact fun q => q
  | ct fr1 h1 => exact fun q => q
  | exc x h1 => exact fun q => q
  | no => exact fun q => q
theorem m_pass : PMs X E (.Pass pos) sEnd := ps_imp ps_pass fun Z σ H ⟨ι, h, fr, R, F, P⟩ => P ι H σ (Ext.refl _ _) R F
def sBreak : Ss := fun fr h => .bk fr h
def sCont : Ss := fun fr h => .ct fr h
theorem m_break : PMs X E (.Break pos) sBreak := ps_imp ps_break fun Z σ H ⟨ι, h, fr, R, F, P⟩ => P ι H σ (Ext.refl _ _) R F
theorem m_cont : PMs X E (.Continue pos) sCont := ps_imp ps_continue fun Z σ H ⟨ι, h, fr, R, F, P⟩ => P ι H σ (Ext.refl _ _) R F
theorem m_doc {x : Str} {j : Nat} {pos' : Pos} : PMs X E (.Expr (.Constant (.str x) j pos) pos') sEnd := ps_imp ps_doc fun Z σ H ⟨ι, h, fr, R, F, P⟩ => P ι H σ (Ext.refl _ _) R F
def sRet (f : Sx) : Ss := fun fr h => (f fr h).into fun d h1 => .rt d h1
theorem m_ret (ha : PM X E e fe) : PMs X E (.Return (some e) pos) (sRet fe) := ps_imp (ps_ret ha) fun Z σ H ⟨ι, h, fr, R, F, P⟩ => by
  refine ⟨ι, h, fr, R, F, Po.mono ?_ (Po.into P)⟩
  rintro v H1 ⟨i1, h1, d, e1, R1, r1, P1⟩
  exact P1 i1 H1 v (Ext.refl _ _) R1 r1
def sExpr (f : Sx) : Ss := fun fr h => (f fr h).into fun _ h1 => .nx fr h1
theorem m_expr (ha : PM X E e fe) (hs : swapsWith e none pos.line X.env = pure false := by rfl) : PMs X E (.Expr e pos) (sExpr fe) := ps_imp (ps_expr ha hs) fun Z σ H ⟨ι, h, fr, R, F, P⟩ => by
  refine ⟨ι, h, fr, R, F, Po.mono ?_ (Po.into P)⟩
  rintro v H1 ⟨i1, h1, d, e1, R1, r1, P1⟩
  exact P1 i1 H1 σ (Ext.refl _ _) R1 (F.ext e1)
def sIf (c : Sb) (f g : Ss) : Ss := fun fr h => (c fr h).into fun b h1 => if b = true then f fr h1 else g fr h1
theorem m_ifs {fc : Sb} {bs cs : List Stmt} (hc : PMb X E c fc) (hb : PMb' X E bs f) (ho : PMb' X E cs g) : PMs X E (.If c bs cs pos) (sIf fc f g) := ps_imp (ps_if hc hb ho) fun Z σ H ⟨ι, h, fr, R, F, P⟩ => by
  refine ⟨ι, h, fr, R, F, Po.mono ?_ (Po.into P)⟩
  rintro v H1 ⟨i1, h1, d, e1, R1, r1, P1⟩
  subst r1
  cases v with
  | true => exact ⟨i1, h1, fr, R1, F.ext e1, P1⟩
  | false => exact ⟨i1, h1, fr, R1, F.ext e1, P1⟩

/-! ### stores -/
abbrev Tg := D → Fr → Option Fr
def TgS (K : PySem.W.Frag) (g : TG) (t : Tg) : Prop :=
  ∀ (ι : List Addr) (h : Hq) (H : Hp) (v : V) (d : D) (σ : L2.St) (fr fr' : Fr) (Q : L2.St → Hp → Prop), HR K ι h H → VR K ι H v d → FR K ι H σ fr → t d fr = some fr' → (∀ σ', FR K ι H σ' fr' → Q σ' H) → g v σ H Q
structure PMg (X : Cx) (tg : Expr) (t : Tg) : Prop where
  ex : ∃ g, PG X tg g ∧ TgS X.K g t
def tgN (i : Nat) : Tg := fun d fr => some (fr.set i (some d))
theorem tgN_s {K : PySem.W.Frag} (i : Nat) : TgS K (gName i) (tgN i) := by
  intro ι h H v d σ fr fr' Q R r F e k
  cases e
  exact k _ (F.set r)
theorem m_tgN (i : Nat) {x : Str} (nd : X.N.Nodup) (hi : X.N[i]? = some x := by rfl) (hx : Loc X.env.scope x := by first | exact Or.inl rfl | exact Or.inr rfl) (hf : X.fn x = true ∨ X.env.scope.names.lookup x = some .local := by first | exact .inl rfl | exact .inr rfl) :
    PMg X (.Name x pos) (tgN i) := ⟨_, pg_name nd hi hx hf, tgN_s i⟩
/-- a, b, .. from a tuple -/
def setAll : List Nat → List D → Fr → Option Fr
  | [], [], fr => some fr
  | i :: is, d :: ds, fr => setAll is ds (fr.set i (some d))
  | _, _, _ => none
def tgT (is : List Nat) : Tg := fun d fr => match d with
  | .tup l => setAll is l fr
  | _ => none
structure PMgs (X : Cx) (tgs : List Expr) (is : List Nat) : Prop where
  ex : ∃ g, PGs X tgs g ∧ ∀ (ι : List Addr) (h : Hq) (H : Hp) (vs : List V) (ds : List D) (σ : L2.St) (fr fr' : Fr) (Q : L2.St → Hp → Prop), HR X.K ι h H → VRs X.K ι H vs ds → FR X.K ι H σ fr → setAll is ds fr = some fr' → (∀ σ', FR X.K ι H σ' fr' → Q σ' H) → g vs σ H Q
theorem m_gnil : PMgs X [] [] := ⟨_, pgs_nil, fun ι h H vs ds σ fr fr' Q R r F e k => by
  cases r with
  | nil => cases e; exact ⟨rfl, k σ F⟩
  | cons _ _ => cases e⟩
theorem m_gcons (i : Nat) {x : Str} {ts : List Expr} {is : List Nat} (nd : X.N.Nodup) (ht : PMgs X ts is) (hi : X.N[i]? = some x := by rfl) (hx : Loc X.env.scope x := by first | exact Or.inl rfl | exact Or.inr rfl)
    (hf : X.fn x = true ∨ X.env.scope.names.lookup x = some .local := by first | exact .inl rfl | exact .inr rfl) (hs : (assignEach (.Name x pos :: ts) X.env).map (·.2) = assign (.Name x pos) X.env :: (assignEach ts X.env).map (·.2) := by rfl) :
    PMgs X (.Name x pos :: ts) (i :: is) := by
  obtain ⟨g, hg, hgs⟩ := ht.ex
  refine ⟨_, pgs_cons (pg_name nd hi hx hf) hg hs, fun ι h H vs ds σ fr fr' Q R r F e k => ?_⟩
  cases r with
  | nil => cases e
  | cons r1 r2 => exact ⟨_, _, rfl, hgs ι h H _ _ _ _ _ Q R r2 (F.set r1) e k⟩
theorem setAll_len : ∀ {is : List Nat} {ds : List D} {fr fr' : Fr}, setAll is ds fr = some fr' → ds.length = is.length
  | [], [], _, _, _ => rfl
  | [], _ :: _, _, _, e => by cases e
  | _ :: _, [], _, _, e => by cases e
  | _ :: is, _ :: ds, _, _, e => by rw [List.length_cons, List.length_cons, setAll_len (is := is) (ds := ds) e]
theorem m_tgT {ts : List Expr} {is : List Nat} {k : Nat} (hc : X.calm = true) (ht : PMgs X ts is) (hn : (assignEach ts X.env).length = is.length := by rfl) (hst : (assignEach ts X.env).findIdx? (·.1) = none := by rfl) : PMg X (.Tuple ts k pos) (tgT is) := by
  obtain ⟨g, hg, hgs⟩ := ht.ex
  refine ⟨_, pg_tup hc hg hn hst, fun ι h H v d σ fr fr' Q R r F e kk => ?_⟩
  unfold tgT at e
  split at e
  · cases r with
    | tup hx q =>
      refine ⟨_, _, rfl, .of hx, by rw [q.length]; exact setAll_len e, ?_⟩
      exact hgs ι h H _ _ _ _ _ Q R q F e kk
  · cases e
def sAsg (f : Sx) (t : Tg) : Ss := fun fr h => (f fr h).into fun d h1 => match t d fr with
  | some fr' => .nx fr' h1
  | none => .no
theorem asg_in {K : PySem.W.Frag} {mg : Str → Option Value} {gg : TG} {t : Tg} (hs : TgS K gg t) {Z : Ends} {σ : L2.St} {H : Hp} (q : tMs K mg E (sAsg fe t) Z σ H) : tAsg (tM K mg E fe) gg Z σ H := by
  obtain ⟨ι, h, fr, R, F, P⟩ := q
  refine ⟨ι, h, fr, R, F, Po.mono ?_ (Po.into P)⟩
  rintro v H1 ⟨i1, h1, d, e1, R1, r1, P1⟩
  split at P1
  · rename_i fr' e
    exact hs i1 h1 H1 v d σ fr fr' _ R1 r1 (F.ext e1) e fun σ' F' => P1 i1 H1 σ' (Ext.refl _ _) R1 F'
  · exact P1.elim
/-- name = e -/
theorem m_set (i : Nat) {x : Str} {pos' : Pos} (nd : X.N.Nodup) (ha : PM X E e fe) (hi : X.N[i]? = some x := by rfl) (hx : Loc X.env.scope x := by first | exact Or.inl rfl | exact Or.inr rfl) (hs : swapsWith e (some (.Name x pos')) pos.line X.env = pure false := by rfl)
    (hf : X.fn x = true ∨ X.env.scope.names.lookup x = some .local := by first | exact .inl rfl | exact .inr rfl) : PMs X E (.Assign [.Name x pos'] e pos) (sAsg fe (tgN i)) := ps_imp (ps_set nd hi hx ha hs hf) fun _ _ _ q => asg_in (tgN_s i) q
/-- a target of another form = e -/
theorem m_asg {tg : Expr} {t : Tg} (ha : PM X E e fe) (ht : PMg X tg t) (hs : swapsWithSole [tg] e pos.line X.env = pure false := by rfl) (hw : swappedStores [tg] e X.env = pure none := by rfl) (h1 : (assignEach [tg] X.env).map (·.2) = [assign tg X.env] := by rfl) :
    PMs X E (.Assign [tg] e pos) (sAsg fe t) := by
  obtain ⟨g, hg, hgs⟩ := ht.ex
  exact ps_imp (ps_asg ha hg hs hw h1) fun _ _ _ q => asg_in hgs q
/-- a, b = x, y -/
def sPar (i j : Nat) (fs : Sa) : Ss := fun fr h => (fs fr h).into fun ds h1 => match ds with
  | [d, e] => .nx ((fr.set i (some d)).set j (some e)) h1
  | _ => .no
theorem m_par (i j : Nat) {x y : Str} {fs : Sa} {px py pt : Pos} {kt k2 : Nat} {pt2 : Pos} (wh : Wh X E) (ha : PMa X E [a, b] fs) (hi : X.N[i]? = some x := by rfl) (hj : X.N[j]? = some y := by rfl) (hij : i ≠ j := by decide)
    (hx : X.env.scope.names.lookup x = some .local := by rfl) (hy : X.env.scope.names.lookup y = some .local := by rfl) (hw : swappedStores [.Tuple [.Name x px, .Name y py] kt pt] (.Tuple [a, b] k2 pt2) X.env = pure (some [x, y]) := by rfl)
    (hs : swapsWithSole [.Tuple [.Name x px, .Name y py] kt pt] (.Tuple [a, b] k2 pt2) pos.line X.env = pure false := by rfl) :
    PMs X E (.Assign [.Tuple [.Name x px, .Name y py] kt pt] (.Tuple [a, b] k2 pt2) pos) (sPar i j fs) := ps_imp (ps_par wh.calm wh.nd hi hj hij hx hy ha hw hs) fun Z σ H ⟨ι, h, fr, R, F, P⟩ => by
  refine ⟨ι, h, fr, R, F, Po.mono ?_ (Po.into P)⟩
  rintro vs H1 ⟨i1, h1, ds, e1, R1, r1, P1⟩
  split at P1
  · obtain ⟨v, w, rfl, q1, q2⟩ := r1.two
    exact ⟨v, w, rfl, P1 i1 H1 _ (Ext.refl _ _) R1 (((F.ext e1).set q1).set q2)⟩
  · exact P1.elim
/-- xs[k] = e -/
def sPut (fe fo fi : Sx) : Ss := fun fr h => (fe fr h).into fun d h1 => (fo fr h1).into fun o h2 => (fi fr h2).into fun k h3 => match o, k with
  | .ref m, .int j => match lstAt h3 m with
    | some l => match ixN l.length j with
      | some n => .nx fr (h3.set m (.lst (l.set n d)))
      | none => .no
    | none => .no
  | _, _ => .no
theorem m_put {fo fi : Sx} {p2 : Pos} (ha : PM X E e fe) (ho : PM X E a fo) (hi : PM X E b fi) (hh : ∀ v, assign (.Subscript a b p2) X.env v = (do
      let ov ← holding [v] (eval a X.env)
      let iv ← holding [v, ov] (eval b X.env)
      standAt p2
      holding [v, ov, iv] (setItem ov iv v)
      release [v, ov, iv] []) := by intro _; rfl) (hs : swapsWithSole [.Subscript a b p2] e pos.line X.env = pure false := by rfl) (hw : swappedStores [.Subscript a b p2] e X.env = pure none := by rfl)
    (h1 : (assignEach [.Subscript a b p2] X.env).map (·.2) = [assign (.Subscript a b p2) X.env] := by rfl) :
    PMs X E (.Assign [.Subscript a b p2] e pos) (sPut fe fo fi) := ps_imp (ps_asg ha (pg_sub ho hi set_list hh) hs hw h1) fun Z σ H ⟨ι, h, fr, R, F, P⟩ => by
  refine ⟨ι, h, fr, R, F, Po.mono ?_ (Po.into P)⟩
  rintro v H1 ⟨i1, h1, d, e1, R1, r1, P1⟩
  refine ⟨i1, h1, fr, R1, F.ext e1, Po.mono ?_ (Po.into P1)⟩
  rintro o H2 ⟨i2, h2, od, e2, R2, r2, P2⟩
  refine ⟨i2, h2, fr, R2, (F.ext e1).ext e2, Po.mono ?_ (Po.into P2)⟩
  rintro i H3 ⟨i3, h3, kd, e3, R3, r3, P3⟩
  split at P3
  · rename_i m j
    split at P3
    · rename_i _ l hl
      split at P3
      · rename_i _ n hn
        cases r3
        cases r2.ext e3 with
        | ref hx =>
          rename_i p
          obtain ⟨vs, c1, q⟩ := R3.lst hx hl
          have rv := (r1.ext e2).ext e3
          obtain ⟨e4, R4⟩ := R3.put (lstAt_some hl) hx (o := .lst (vs.set n v)) (c := .lst (l.set n d)) fun H' e z => ⟨_, z, (VRs.set rv n q).ext e⟩
          exact ⟨p, vs, j, n, rfl, rfl, c1, by rw [q.length]; exact hn, P3 i3 _ σ e4 R4 ((((F.ext e1).ext e2).ext e3).ext e4)⟩
      · exact P3.elim
    · exact P3.elim
  · exact P3.elim
end
end MI
end

section
set_option Elab.async false
set_option linter.all false
set_option autoImplicit false
set_option maxRecDepth 100000
set_option maxHeartbeats 4000000
namespace MI
open PySem L2

/-! ### loops -/
/-- n turns from the i-th on: get tells a turn's item (none: it can't be told), fin whether the walk ends where it should -/
def turns (get : Nat → Hq → Option D) (fin : Nat → Hq → Bool) (t : Tg) (b : Ss) : Nat → Nat → Ss
  | 0, i, fr, h => if fin i h = true then .nx fr h else .no
  | n + 1, i, fr, h => match get i h with
    | none => .no
    | some d => match t d fr with
      | none => .no
      | some fr1 => match b fr1 h with
        | .nx fr2 h2 => turns get fin t b n (i + 1) fr2 h2
        | .ct fr2 h2 => turns get fin t b n (i + 1) fr2 h2
        | .bk fr2 h2 => .nx fr2 h2
        | .rt d h2 => .rt d h2
        | .exc x h2 => .exc x h2
        | .no => .no
/-- an iterator J (over the heap as it lies) walks as get and fin tell -/
structure Wk (K : PySem.W.Frag) (ι : List Addr) (H0 : Hp) (J : It) (get : Nat → Hq → Option D) (fin : Nat → Hq → Bool) : Prop where
  go : ∀ (i : Nat) (ι' : List Addr) (h : Hq) (H : Hp) (d : D), Ext ι H0 ι' H → HR K ι' h H → get i h = some d → J.go i H ∧ ∀ x H', J.yld i H x H' → ∃ ι2, Ext ι' H ι2 H' ∧ HR K ι2 h H' ∧ VR K ι2 H' x d
  stop : ∀ (i : Nat) (ι' : List Addr) (h : Hq) (H : Hp), Ext ι H0 ι' H → HR K ι' h H → fin i h = true → J.stop i H
section
variable {K : PySem.W.Frag} {mg : Str → Option Value} {E : XK} {Z : Ends}
/-- the loop's wish, from the worth of its turns -/
theorem for_in {ι : List Addr} {H0 : Hp} {J : It} {get : Nat → Hq → Option D} {fin : Nat → Hq → Bool} {t : Tg} {b : Ss} {gg : TG} {tb : TS} (w : Wk K ι H0 J get fin) (hg : TgS K gg t)
    (hb : ∀ (Z' : Ends) (σ : L2.St) (H : Hp), tMs K mg E b Z' σ H → tb Z' σ H) {n : Nat} {h0 : Hq} {fr0 : Fr} {σ0 : L2.St} (R0 : HR K ι h0 H0) (F0 : FR K ι H0 σ0 fr0) (P0 : SPo K mg ι H0 Z E (turns get fin t b n 0 fr0 h0)) :
    ∃ W : Nat → Nat → L2.St → Hp → Prop, (∃ m, W 0 m σ0 H0) ∧ ∀ i m σ H, W i m σ H →
      (J.stop i H ∧ Z.nx σ H) ∨ (J.go i H ∧ ∃ N : L2.St → Hp → Prop, (∀ σ' H', N σ' H' → ∃ m', m' < m ∧ W (i + 1) m' σ' H') ∧ ∀ x H', J.yld i H x H' → gg x σ H' fun σ2 H2 => tb { Z with nx := N, ct := N, bk := Z.nx } σ2 H2) := by
  refine ⟨fun i m σ H => ∃ ι1 h fr, Ext ι H0 ι1 H ∧ HR K ι1 h H ∧ FR K ι1 H σ fr ∧ SPo K mg ι1 H Z E (turns get fin t b m i fr h), ⟨n, ι, h0, fr0, Ext.refl _ _, R0, F0, P0⟩, ?_⟩
  rintro i m σ H ⟨ι1, h, fr, e1, R, F, P⟩
  cases m with
  | zero =>
    unfold turns at P
    split at P
    · rename_i hf
      exact .inl ⟨w.stop i ι1 h H e1 R hf, P ι1 H σ (Ext.refl _ _) R F⟩
    · exact P.elim
  | succ m =>
    unfold turns at P
    split at P
    · exact P.elim
    · rename_i _ d hd
      split at P
      · exact P.elim
      · rename_i _ fr1 ht
        obtain ⟨g1, g2⟩ := w.go i ι1 h H d e1 R hd
        refine .inr ⟨g1, fun σ' H' => ∃ ι2 h2 fr2, Ext ι H0 ι2 H' ∧ HR K ι2 h2 H' ∧ FR K ι2 H' σ' fr2 ∧ SPo K mg ι2 H' Z E (turns get fin t b m (i + 1) fr2 h2), fun σ' H' q => ⟨m, Nat.lt_succ_self m, q⟩, fun x H' y => ?_⟩
        obtain ⟨ι2, e2, R2, r2⟩ := g2 x H' y
        refine hg ι2 h H' x d σ fr fr1 _ R2 r2 (F.ext e2) ht fun σ2 F2 => hb _ _ _ ⟨ι2, h, fr1, R2, F2, ?_⟩
        have P2 := SPo.ext e2 P
        revert P2
        cases b fr1 h with
        | nx fr3 h3 => exact fun q ι3 H3 σ3 e3 R3 F3 => ⟨ι3, h3, fr3, (e1.trans e2).trans e3, R3, F3, SPo.ext e3 q⟩
        | ct fr3 h3 => exact fun q ι3 H3 σ3 e3 R3 F3 => ⟨ι3, h3, fr3, (e1.trans e2).trans e3, R3, F3, SPo.ext e3 q⟩
        | bk fr3 h3 => exact fun q => q
        | rt d3 h3 => exact fun q => q
        | exc x3 h3 => exact fun q => q
        | no => exact fun q => q
end
/-- what is walked: how many turns, each turn's item, the end -/
structure Src where
  n : Nat
  get : Nat → Hq → Option D
  fin : Nat → Hq → Bool
abbrev Si := Fr → Hq → Rs Src
def tMi (K : PySem.W.Frag) (mg : Str → Option Value) (E : XK) (f : Si) : TI := fun σ H Q => ∃ ι h fr, HR K ι h H ∧ FR K ι H σ fr ∧ Po K mg (fun ι' H' (J : It) (S : Src) => Wk K ι' H' J S.get S.fin) ι H Q E (f fr h)
abbrev PMi (X : Cx) (E : XK) (tg iter : Expr) (f : Si) : Prop := PI X tg iter (tMi X.K X.mg E f)
theorem pi_imp {X : Cx} {tg iter : Expr} {w w' : TI} (h : PI X tg iter w) (m : ∀ σ H Q, w' σ H Q → w σ H Q) : PI X tg iter w' := ⟨fun pins s σ H R I q => h.run pins s σ H R I (m σ H R q)⟩
section
variable {X : Cx} {E : XK} {tg e e2 : Expr} {body : List Stmt} {fe fe2 : Sx} {fs : Sa} {b : Ss} {t : Tg} {pos p : Pos} {src : Si}
def sFor (t : Tg) (src : Si) (b : Ss) : Ss := fun fr h => (src fr h).into fun S h1 => turns S.get S.fin t b S.n 0 fr h1
theorem m_for (wh : Wh X E) (hi : PMi X E tg e src) (ht : PMg X tg t) (hb : PMb' X E body b) (hf : ∀ x, foldedSetIterable e X.env x = pure x := by intro _; rfl) : PMs X E (.For tg e body [] pos) (sFor t src b) := by
  obtain ⟨gg, hgg, hgs⟩ := ht.ex
  refine ps_imp (ps_for wh.po wh.calm hi hgg hb hf) fun Z σ H ⟨ι, h, fr, R, F, P⟩ => ?_
  refine ⟨ι, h, fr, R, F, Po.mono ?_ (Po.into P)⟩
  rintro J H1 ⟨i1, h1, S, e1, R1, w, P1⟩
  exact for_in w hgs (fun _ _ _ q => q) R1 (F.ext e1) P1
/-- range(n), range(m, n) -/
def iR (lo n : Int) (h : Hq) : Rs Src := if n < 2 ^ 61 ∧ -(2 ^ 61) < n ∧ lo < 2 ^ 61 ∧ -(2 ^ 61) < lo then .ok ⟨(n - lo).toNat, fun i _ => if i < (n - lo).toNat then some (.int (lo + i)) else none, fun i _ => decide ((n - lo).toNat ≤ i)⟩ h else .no
def iRange (fs : Sa) : Si := fun fr h => (fs fr h).bind fun ds h1 => match ds with
  | [.int j] => iR 0 j h1
  | _ => .no
def iRange2 (fs : Sa) : Si := fun fr h => (fs fr h).bind fun ds h1 => match ds with
  | [.int i, .int j] => iR i j h1
  | _ => .no
theorem wk_range (K : PySem.W.Frag) (ι : List Addr) (H0 : Hp) (lo : Int) (n : Nat) : Wk K ι H0 (Itr lo n) (fun i _ => if i < n then some (.int (lo + i)) else none) (fun i _ => decide (n ≤ i)) where
  go := fun i ι' h H d e R q => by
    split at q
    · rename_i hi
      cases q
      refine ⟨hi, fun x H' ⟨e1, e2⟩ => ?_⟩
      subst e1 e2
      exact ⟨ι', Ext.refl _ _, R, .int _⟩
    · cases q
  stop := fun i ι' h H e R q => show n ≤ i from of_decide_eq_true q
theorem m_range (hm : X.mg "range" = none) (ha : PMa X E [e] fs) (hg : Gl X "range" := by rfl) (hs : starEach [e] X.env = [(false, eval e X.env)] := by rfl) : PMi X E tg (.Call (.Name "range" p) [e] [] pos) (iRange fs) := pi_imp (pi_range1 hg hm ha hs) fun σ H Q ⟨ι, h, fr, R, F, P⟩ => by
  refine ⟨ι, h, fr, R, F, Po.mono ?_ (Po.bind P)⟩
  rintro vs H1 ⟨i1, h1, ds, e1, R1, r1, P1⟩
  split at P1
  · rename_i j
    unfold iR at P1
    split at P1
    · obtain ⟨v, rfl, q⟩ := r1.one
      cases q
      refine ⟨j, rfl, by omega, by omega, P1 i1 H1 _ (Ext.refl _ _) R1 ?_⟩
      rw [Int.sub_zero]
      exact wk_range X.K i1 H1 0 j.toNat
    · exact P1.elim
  · exact P1.elim
theorem m_range2 (hm : X.mg "range" = none) (ha : PMa X E [e, e2] fs) (hg : Gl X "range" := by rfl) (hs : starEach [e, e2] X.env = [(false, eval e X.env), (false, eval e2 X.env)] := by rfl) (hs2 : starEach [e2] X.env = [(false, eval e2 X.env)] := by rfl) :
    PMi X E tg (.Call (.Name "range" p) [e, e2] [] pos) (iRange2 fs) := pi_imp (pi_range2 hg hm ha hs hs2) fun σ H Q ⟨ι, h, fr, R, F, P⟩ => by
  refine ⟨ι, h, fr, R, F, Po.mono ?_ (Po.bind P)⟩
  rintro vs H1 ⟨i1, h1, ds, e1, R1, r1, P1⟩
  split at P1
  · rename_i i j
    unfold iR at P1
    split at P1
    · obtain ⟨v, w, rfl, q1, q2⟩ := r1.two
      cases q1; cases q2
      exact ⟨i, j, rfl, by omega, P1 i1 H1 _ (Ext.refl _ _) R1 (wk_range X.K i1 H1 i (j - i).toNat)⟩
    · exact P1.elim
  · exact P1.elim
/-- a list or a tuple -/
def srcT (l : List D) : Src := ⟨l.length, fun i _ => l[i]?, fun i _ => decide (l.length ≤ i)⟩
def srcC (m n : Nat) : Src := ⟨n, fun i h => (lstAt h m).bind fun l => l[i]?, fun i h => match lstAt h m with | some l => decide (l.length ≤ i) | none => false⟩
def iSeq (f : Sx) : Si := fun fr h => (f fr h).bind fun d h1 => match d with
  | .tup l => .ok (srcT l) h1
  | .ref m => match lstAt h1 m with
    | some l => .ok (srcC m l.length) h1
    | none => .no
  | _ => .no
theorem pi_seq {X : Cx} {tg l : Expr} {tl : TE} (hl : PE X l tl) : PI X tg l (fun σ H R => iList X.K tl σ H R ∨ iTup X.K tl σ H R) :=
  ⟨fun pins s σ H R I q => q.elim (fun q => (pi_list hl).run pins s σ H R I q) fun q => (pi_tup hl).run pins s σ H R I q⟩
theorem wk_tup {K : PySem.W.Frag} {ι : List Addr} {H0 : Hp} {a : Addr} {vs : List V} {l : List D} (hx : H0 a = some (.tup vs)) (q : VRs K ι H0 vs l) : Wk K ι H0 (Itt K a) (srcT l).get (srcT l).fin where
  go := fun i ι' h H d e R g => by
    have q' := q.ext e
    obtain ⟨v, h1, h2⟩ := q'.get g
    refine ⟨⟨vs, v, .of (e.tups _ _ hx), h1⟩, fun x H' ⟨e1, e2⟩ => ?_⟩
    subst e1
    have := e2 vs (.of (e.tups _ _ hx))
    rw [h1] at this; cases this
    exact ⟨ι', Ext.refl _ _, R, h2⟩
  stop := fun i ι' h H e R g => ⟨vs, .of (e.tups _ _ hx), by rw [q.length]; exact of_decide_eq_true g⟩
theorem wk_lst {K : PySem.W.Frag} {ι : List Addr} {H0 : Hp} {a : Addr} {m n : Nat} (hx : ι[m]? = some a) : Wk K ι H0 (Itl K a) (srcC m n).get (srcC m n).fin where
  go := fun i ι' h H d e R g => by
    obtain ⟨l, hl, g⟩ := Option.bind_eq_some_iff.mp (show (lstAt h m).bind (fun l => l[i]?) = some d from g)
    obtain ⟨vs, c1, q⟩ := R.lst (e.get hx) hl
    obtain ⟨v, h1, h2⟩ := q.get g
    refine ⟨⟨vs, v, .of c1, h1⟩, fun x H' ⟨e1, e2⟩ => ?_⟩
    subst e1
    have := e2 vs (.of c1)
    rw [h1] at this; cases this
    exact ⟨ι', Ext.refl _ _, R, h2⟩
  stop := fun i ι' h H e R g => by
    have g' : (match lstAt h m with | some l => decide (l.length ≤ i) | none => false) = true := g
    split at g'
    · rename_i l hl
      obtain ⟨vs, c1, q⟩ := R.lst (e.get hx) hl
      exact ⟨vs, .of c1, by rw [q.length]; exact of_decide_eq_true g'⟩
    · cases g'
theorem tM_pick {K : PySem.W.Frag} {mg : Str → Option Value} {f : Sx} {σ : L2.St} {H : Hp} {α β γ : Type} {A B : V → Hp → Prop} {ι : List Addr} {h : Hq} {fr : Fr} (R : HR K ι h H) (F : FR K ι H σ fr)
    (P : PoV K mg ι H (fun v H1 => A v H1) E (f fr h) ∨ PoV K mg ι H (fun v H1 => B v H1) E (f fr h)) : tM K mg E f σ H A ∨ tM K mg E f σ H B := P.elim (fun P => .inl ⟨ι, h, fr, R, F, P⟩) fun P => .inr ⟨ι, h, fr, R, F, P⟩
theorem m_seqI (ha : PM X E e fe) : PMi X E tg e (iSeq fe) := pi_imp (pi_seq ha) fun σ H Q ⟨ι, h, fr, R, F, P⟩ => by
  unfold iSeq at P
  cases q : fe fr h with
  | no => rw [q] at P; exact P.elim
  | exc x h1 => rw [q] at P; exact .inl ⟨ι, h, fr, R, F, by rw [q]; exact P⟩
  | ok d h1 =>
    rw [q] at P
    rw [Rs.bind_ok] at P
    have P1 := P
    clear P
    split at P1
    · rename_i l
      refine .inr ⟨ι, h, fr, R, F, ?_⟩
      rw [q]
      intro ι1 H1 v e1 R1 r1
      cases r1 with
      | tup hx q => exact ⟨_, rfl, ⟨_, .of hx⟩, P1 ι1 H1 _ e1 R1 (wk_tup hx q)⟩
    · split at P1
      · rename_i m _ l hl
        refine .inl ⟨ι, h, fr, R, F, ?_⟩
        rw [q]
        intro ι1 H1 v e1 R1 r1
        cases r1 with
        | ref hx =>
          obtain ⟨vs, c1, _⟩ := R1.lst hx hl
          exact ⟨_, rfl, ⟨_, .of c1⟩, P1 ι1 H1 _ e1 R1 (wk_lst hx)⟩
      · exact P1.elim
    · exact P1.elim
end

/-! ### while -/
def whileN (c : Sb) (b : Ss) : Nat → Fr → Hq → Option SR
  | 0, _, _ => none
  | n + 1, fr, h => match c fr h with
    | .ok true h1 => match b fr h1 with
      | .nx fr2 h2 => whileN c b n fr2 h2
      | .ct fr2 h2 => whileN c b n fr2 h2
      | .bk fr2 h2 => some (.nx fr2 h2)
      | r => some r
    | .ok false h1 => some (.nx fr h1)
    | .exc x h1 => some (.exc x h1)
    | .no => some .no
theorem whileN_mono {c : Sb} {b : Ss} : ∀ (n : Nat) (fr : Fr) (h : Hq) (r : SR), whileN c b n fr h = some r → whileN c b (n + 1) fr h = some r
  | 0, _, _, _, e => by cases e
  | n + 1, fr, h, r, e => by
    unfold whileN at e ⊢
    split at e
    · split at e
      · exact whileN_mono n _ _ _ e
      · exact whileN_mono n _ _ _ e
      · exact e
      · exact e
    · exact e
    · exact e
    · exact e
theorem whileN_le {c : Sb} {b : Ss} {n m : Nat} (hm : n ≤ m) {fr : Fr} {h : Hq} {r : SR} (e : whileN c b n fr h = some r) : whileN c b m fr h = some r := by
  obtain ⟨k, rfl⟩ := Nat.exists_eq_add_of_le hm
  induction k with
  | zero => exact e
  | succ k ih => exact whileN_mono _ _ _ _ (ih (Nat.le_add_right _ _))
open Classical in
noncomputable def sWhile (c : Sb) (b : Ss) : Ss := fun fr h => if q : ∃ r n, whileN c b n fr h = some r then q.choose else .no
theorem sWhile_eq {c : Sb} {b : Ss} {n : Nat} {fr : Fr} {h : Hq} {r : SR} (e : whileN c b n fr h = some r) : sWhile c b fr h = r := by
  have q : ∃ r n, whileN c b n fr h = some r := ⟨r, n, e⟩
  unfold sWhile
  rw [dif_pos q]
  obtain ⟨m, hm⟩ := q.choose_spec
  have h1 := whileN_le (Nat.le_max_left n m) e
  have h2 := whileN_le (Nat.le_max_right n m) hm
  rw [h1] at h2
  exact (Option.some.inj h2).symm
section
variable {X : Cx} {E : XK} {c : Expr} {body : List Stmt} {fc : Sb} {b : Ss} {pos : Pos}
theorem m_while (wh : Wh X E) (hc : PMb X E c fc) (hb : PMb' X E body b) : PMs X E (.While c body [] pos) (sWhile fc b) := ps_imp (ps_while wh.po hc hb) fun Z σ H ⟨ι, h, fr, R, F, P⟩ => by
  by_cases q : ∃ r n, whileN fc b n fr h = some r
  · obtain ⟨r, n, e⟩ := q
    rw [sWhile_eq e] at P
    refine ⟨fun m σ H => ∃ ι h fr r, HR X.K ι h H ∧ FR X.K ι H σ fr ∧ whileN fc b m fr h = some r ∧ SPo X.K X.mg ι H Z E r, ⟨n, ι, h, fr, r, R, F, e, P⟩, ?_⟩
    rintro m σ H ⟨ι, h, fr, r, R, F, e, P⟩
    cases m with
    | zero => cases e
    | succ m =>
      refine ⟨ι, h, fr, R, F, ?_⟩
      unfold whileN at e
      cases hq : fc fr h with
      | no => rw [hq] at e; cases e; exact P
      | exc x h1 => rw [hq] at e; cases e; exact P
      | ok v h1 =>
        rw [hq] at e
        intro ι1 H1 v' e1 R1 hv
        have hv' : v' = v := hv
        subst hv'
        cases v' with
        | false =>
          cases e
          exact P ι1 H1 σ e1 R1 (F.ext e1)
        | true =>
          refine ⟨fun σ' H' => ∃ ι h fr r, HR X.K ι h H' ∧ FR X.K ι H' σ' fr ∧ whileN fc b m fr h = some r ∧ SPo X.K X.mg ι H' Z E r, fun σ' H' q => ⟨m, Nat.lt_succ_self m, q⟩, ι1, h1, fr, R1, F.ext e1, ?_⟩
          have P1 := SPo.ext e1 P
          revert e
          dsimp only
          cases b fr h1 with
          | nx fr2 h2 => exact fun e ι2 H2 σ2 e2 R2 F2 => ⟨ι2, h2, fr2, r, R2, F2, e, SPo.ext e2 P1⟩
          | ct fr2 h2 => exact fun e ι2 H2 σ2 e2 R2 F2 => ⟨ι2, h2, fr2, r, R2, F2, e, SPo.ext e2 P1⟩
          | bk fr2 h2 => intro e; cases e; exact P1
          | rt d2 h2 => intro e; cases e; exact P1
          | exc x2 h2 => intro e; cases e; exact P1
          | no => intro e; cases e; exact P1
  · unfold sWhile at P
    rw [dif_neg q] at P
    exact P.elim
end

/-! ### raise X('..') -/
def sRaise (x : Str) : Ss := fun _ h => .exc { cls := x } h
section
variable {X : Cx} {E : XK} {C : Addr} {bmB : List Value} {B newId initId : String} {x m : Str} {j : Nat} {p p2 pos pos2 : Pos}
theorem m_raise (wh : Wh X E) (F0 : ExcBaseFacts B newId initId bmB) (q : PySem.W.excIn X.K C bmB newId = true) (gC : X.mg x = some (.ref C)) (kC : PySem.W.keepIn X.K (.ref C) = true) (r : Raises X (.ref C)) (hg : Gl X x := by rfl) (hdb : (x == ("__debug__" : Str)) = false := by decide) :
    PMs X E (.Raise (some (.Call (.Name x p) [.Constant (.str m) j p2] [] pos)) none pos2) (sRaise x) := ps_imp (ps_raise wh.calm wh.tk (pmk_own F0 q gC kC r hg hdb)) fun Z σ H ⟨ι, h, fr, R, F, P⟩ => P ι H (.ref C) none (Ext.refl _ _) R ⟨C, gC, rfl, rfl⟩
/-- xs.append(e) -/
def eApp (fo : Sx) (f : Sx) : Sx := fun fr h => (fo fr h).bind fun o h1 => match o with
  | .ref n => match lstAt h1 n with
    | some _ => (f fr h1).bind fun d h2 => match lstAt h2 n with
      | some l => if small (l.length + 1) = true then .ok .non (h2.set n (.lst (l ++ [d]))) else .no
      | none => .no
    | none => .no
  | _ => .no
theorem m_app {o e : Expr} {fo fe : Sx} {apos cpos : Pos} (ho : PM X E o fo) (he : PM X E e fe) (h1 : attributeBase o "append" X.env (eval o X.env) = eval o X.env := by rfl) (h3 : starEach (e :: []) X.env = (false, eval e X.env) :: starEach [] X.env := by rfl)
    (h2 : (((backTo cpos (starEach [e] X.env)).all fun x => !x.fst) && (backToKw cpos (keywordEach [] X.env)).all (fun x => x.fst.isSome) && decide (([e].length + ([] : List Keyword).length + if ([] : List Keyword).isEmpty = true then 0 else 1) < 30)) = true := by rfl)
    (h4 : (apos.endLine == cpos.line) = true := by rfl) :
    PM X E (.Call (.Attribute o "append" apos) [e] [] cpos) (eApp fo fe) := pe_imp (pe_bm PySem.F.plainAttrs_list PySem.F.slot_list_append PySem.F.type_list_append mt_append ho (pa_cons he pa_nil h3) h1 h2 h4 h3) fun σ H Q ⟨ι, h, fr, R, F, P⟩ => by
  refine ⟨ι, h, fr, R, F, Po.mono ?_ (Po.bind P)⟩
  rintro v H1 ⟨i1, h1, od, e1, R1, r1, P1⟩
  split at P1
  · rename_i n
    split at P1
    · rename_i _ l0 hl0
      cases r1 with
      | ref hx =>
        rename_i a
        obtain ⟨vs0, c0, _⟩ := R1.lst hx hl0
        refine ⟨.inl ⟨rfl, vs0, .of c0⟩, i1, h1, fr, R1, F.ext e1, Po.mono ?_ (Po.bind P1)⟩
        rintro w H2 ⟨i2, h2, d, e2, R2, r2, P2⟩
        split at P2
        · rename_i _ l hl
          split at P2
          · rename_i hz
            obtain ⟨vs, c2, q2⟩ := R2.lst (e2.get hx) hl
            obtain ⟨e3, R3⟩ := R2.put (lstAt_some hl) (e2.get hx) (o := .lst (vs ++ [w])) (c := .lst (l ++ [d])) fun H' e z => ⟨_, z, (q2.append (.cons r2 .nil)).ext e⟩
            refine ⟨a, vs, w, rfl, rfl, c2, ?_, P2 i2 _ _ e3 R3 .non⟩
            have := small_le hz
            rw [q2.length]; omega
          · exact P2.elim
        · exact P2.elim
    · exact P1.elim
  · exact P1.elim
end
end MI
end

section
set_option Elab.async false
set_option linter.all false
set_option autoImplicit false
set_option maxRecDepth 100000
set_option maxHeartbeats 4000000
namespace MI
open PySem L2
open PyProof.Rows (envOfC)

/-! ### a def by its body -/
def fin : SR → Rs D
  | .nx _ h => .ok .non h
  | .rt d h => .ok d h
  | .exc x h => .exc x h
  | _ => .no
/-- n parameters, k more names -/
def ofBody (n k : Nat) (b : Ss) : Sf := fun ds h => if ds.length = n then fin (b (ds.map some ++ List.replicate k none) h) else .no
theorem fr_start {K : PySem.W.Frag} {ι : List Addr} {H : Hp} {N : List Str} {vs : List V} {ds : List D} (r : VRs K ι H vs ds) : FR K ι H (L2.start N vs) (ds.map some ++ List.replicate (N.length - ds.length) none) := by
  unfold L2.start
  rw [r.length]
  refine ⟨by simp [r.length], fun i d e => ?_⟩
  by_cases hi : i < ds.length
  · rw [List.getElem?_append_left (by simpa using hi), List.getElem?_map] at e
    cases q : ds[i]? with
    | none => rw [q] at e; cases e
    | some d' =>
      rw [q] at e
      cases e
      obtain ⟨v, h1, h2⟩ := r.get q
      refine ⟨v, ?_, h2⟩
      rw [List.getElem?_append_left (by rw [List.length_map, r.length]; exact hi), List.getElem?_map, h1]
      rfl
  · rw [List.getElem?_append_right (by simpa using hi), List.getElem?_replicate] at e
    split at e <;> cases e
section
variable {P : Program} {w : World} {K : PySem.W.Frag} {mg : Str → Option Value} {base : Heap} {k : Nat} {f : Addr} {name qual : Str} {params : Arguments} {body : List Stmt} {scope : Scope} {dV kV doc pm cdv ct oc : Value} {an od : Option Addr}
  {osl : Array (Option Value)} {N ps : List Str}
theorem wh_of {A : Around} {outer : List Env} {s : Shared} {H : Hp} {E : XK} (S : FnScope N ps scope) (hg : A.guards = some []) : Wh (cxOf (L2.CX P w) P w K mg base N qual scope f cdv A outer s H E) E :=
  ⟨takes_of rfl rfl rfl rfl, passes_of rfl, hg, rfl, S.nd⟩
/-- a def's body, walked once, tells the def's worth -/
theorem fnG_of {b : Ss} (lk : K.lookup f = some ⟨oc, od, .func (PySem.W.fnOf name qual params body scope dV kV doc pm an cdv ct), osl⟩) (hcd : PySem.W.codeIn K cdv qual = true) (S : FnScope N ps scope)
    (hb : ∀ (A : Around) (outer : List Env) (s : Shared) (H : Hp) (E : XK), Room k (A.deeper (envOfC qual scope s.heap.objs.size f cdv)) → Wh (cxOf (L2.CX P w) P w K mg base N qual scope f cdv A outer s H E) E →
      PMb' (cxOf (L2.CX P w) P w K mg base N qual scope f cdv A outer s H E) E body b) :
    FnG P w K mg base (k + 1) f (PySem.W.fnOf name qual params body scope dV kV doc pm an cdv ct) ps (ofBody ps.length (N.length - ps.length) b) := by
  constructor
  intro A outer s H args us vs ds ι h Q E room guard e0 bind rv R rd hlen P1
  have hvl : vs.length = ps.length := by rw [rd.length]; exact hlen
  have kin : K.In s.heap := e0.mod.kin.keeps fun b o e => (e0.bs b o e).1
  have nolim : s.heap.NoLimit := e0.mod.nolimit.keeps fun b o e => (e0.bs b o e).1
  have kinds : ∀ y ∈ ps.zip us, scope.names.lookup y.1 = some .local ∨ (scope.names.lookup y.1 = some .cell ∧ ((cellsFrom (s.heap.objs.size + 1) scope.names []).lookup y.1).isSome = true) := by
    rintro ⟨n, v⟩ hy
    rcases S.par n (List.of_mem_zip hy).1 with q | q
    · exact .inl q
    · exact .inr ⟨q, PySem.W.cellsFrom_some _ _ _ (.inl q)⟩
  refine codeAny_call_function room.depth (kin _ _ lk) rfl S.co S.gen rfl (PySem.W.codeRec_of kin hcd) (bind _ _ _ _ ?_)
  refine wpAny_newFunctionEnv_cells S.kind kinds ?_
  intro env henv s1 x
  subst henv
  refine ⟨nolim.keeps x.toInCall.keep, codeAny_func ?_⟩
  have body1 := hb A outer s H E (room.deeper _) (wh_of S guard)
  have I1 : Inv (cxOf (L2.CX P w) P w K mg base N qual scope f cdv A outer s H E) [] (L2.start N vs) H s1 := inv_start S room.hd e0 hvl rv x
  have P2 : PoV K mg ι H Q E (fin (b (ds.map some ++ List.replicate (N.length - ds.length) none) h)) := by
    unfold ofBody at P1
    rw [if_pos hlen] at P1
    rw [hlen]
    exact P1
  have P3 : SPo K mg ι H { nx := fun _ H' => Q .non H', rt := Q } E (b (ds.map some ++ List.replicate (N.length - ds.length) none) h) := by
    revert P2
    cases b (ds.map some ++ List.replicate (N.length - ds.length) none) h with
    | nx fr h1 => exact fun q ι1 H1 σ1 e1 R1 _ => q ι1 H1 .non e1 R1 .non
    | rt d h1 => exact fun q => q
    | exc x h1 => exact fun q => q
    | bk fr h1 => exact fun q => q.elim
    | ct fr h1 => exact fun q => q.elim
    | no => exact fun q => q
  refine wpAny_mono (body1.run [] s1 (L2.start N vs) H { nx := fun _ H' => Q .non H', rt := Q } I1 ⟨ι, h, _, R, fr_start rd, P3⟩) (fun fl s2 q => ?_) fun e s2 q => q
  cases fl with
  | ret u =>
    obtain ⟨v, σ2, H2, J, r2, q2⟩ := q
    exact ⟨v, H2, J.os, J.bare, J.base, J.hok, r2, q2⟩
  | next =>
    obtain ⟨σ2, H2, J, q2⟩ := q
    exact ⟨V.non, H2, J.os, J.bare, J.base, J.hok, rfl, q2⟩
  | brk => obtain ⟨_, _, _, q2⟩ := q; exact q2.elim
  | cont => obtain ⟨_, _, _, q2⟩ := q; exact q2.elim
end
section
variable {P : Program} {w : World} {K : PySem.W.Frag} {mg : Str → Option Value} {base : Heap}
/-- as it stands behind the top, without defaults -/
theorem fun_G {x qual : Str} {st : Stmt} {f : Addr} {fd : FuncData} {N ps : List Str} {k : Nat} {b : Ss} (F : Fun K x qual st f fd) (S : FnScope N ps (defScope st))
    (hb : ∀ (cdv : Value) (A : Around) (outer : List Env) (s : Shared) (H : Hp) (E : XK), Room k (A.deeper (envOfC qual (defScope st) s.heap.objs.size f cdv)) → Wh (cxOf (L2.CX P w) P w K mg base N qual (defScope st) f cdv A outer s H E) E →
      PMb' (cxOf (L2.CX P w) P w K mg base N qual (defScope st) f cdv A outer s H E) E (defBody st) b) : FnG P w K mg base (k + 1) f fd ps (ofBody ps.length (N.length - ps.length) b) := by
  obtain ⟨oc, od, kV, doc, pm, an, cdv, ct, osl, rfl, lk, hcd⟩ := F.ex
  exact fnG_of lk hcd S fun A outer s H E => hb cdv A outer s H E
/-- .. with defaults -/
theorem funD_G {x qual : Str} {params : Arguments} {body : List Stmt} {scope : Scope} {dvs : List V} {kws : List (Str × V)} {f : Addr} {fd : FuncData} {N ps : List Str} {k : Nat} {b : Ss} (F : FunD K x qual params body scope dvs kws f fd) (S : FnScope N ps scope)
    (hb : ∀ (cdv : Value) (A : Around) (outer : List Env) (s : Shared) (H : Hp) (E : XK), Room k (A.deeper (envOfC qual scope s.heap.objs.size f cdv)) → Wh (cxOf (L2.CX P w) P w K mg base N qual scope f cdv A outer s H E) E →
      PMb' (cxOf (L2.CX P w) P w K mg base N qual scope f cdv A outer s H E) E body b) : FnG P w K mg base (k + 1) f fd ps (ofBody ps.length (N.length - ps.length) b) := by
  obtain ⟨oc, od, dV, kV, doc, pm, an, cdv, ct, osl, rfl, lk, hcd, _, _⟩ := F.ex
  exact fnG_of lk hcd S fun A outer s H E => hb cdv A outer s H E
end

/-! ### repr -/
def keyP : L2.Key → PyData
  | .inl i => .int i
  | .inr x => .str x
/-- data as a whole, dicts too -/
def toPyR (h : Hq) : Nat → D → Option PyData
  | 0, _ => none
  | _ + 1, .non => some .none
  | _ + 1, .bl b => some (.bool b)
  | _ + 1, .int i => some (.int i)
  | _ + 1, .str x => some (.str x)
  | n + 1, .tup l => (opts (toPyR h n) l).map .tuple
  | n + 1, .ref m => match h[m]? with
    | some (.lst l) => (opts (toPyR h n) l).map .list
    | some (.dct l) => (opts (toPyR h n) (l.map (·.2))).map fun ps => .dict ((l.map fun p => keyP p.1).zip ps)
    | none => none
  | _ + 1, .scr l => some (.list (l.map .int))
  | _ + 1, .opq => none
  | _ + 1, .adr _ => none
  | _ + 1, .ty _ => none
mutual
def noLst : PyData → Bool
  | .list _ => false
  | .tuple xs => noLsts xs
  | .dict kvs => noLstK kvs
  | _ => true
def noLsts : List PyData → Bool
  | [] => true
  | x :: xs => noLst x && noLsts xs
def noLstK : List (PyData × PyData) → Bool
  | [] => true
  | (_, v) :: r => noLst v && noLstK r
end
theorem noLsts_k : ∀ (ks : List PyData) (ps : List PyData), noLstK (ks.zip ps) = true → ks.length = ps.length → noLsts ps = true
  | [], [], _, _ => by simp [noLsts]
  | k :: ks, p :: ps, e, hl => by
    have e' : (noLst p && noLstK (ks.zip ps)) = true := by simpa [noLstK] using e
    have e2 := Bool.and_eq_true_iff.mp e'
    simp [noLsts, e2.1, noLsts_k ks ps e2.2 (by simpa using hl)]
def RdA (h : Heap) (us : List Value) (ps : List PyData) : Prop := ∃ as, ReadsAll h us ps as ∧ (noLsts ps = true → ∀ a ∈ as, (a == sysModules) = false)
def Rd1 (h : Heap) (u : Value) (p : PyData) : Prop := ∃ as, Reads h u p as ∧ (noLst p = true → ∀ a ∈ as, (a == sysModules) = false)
section
variable {X : Cx} {pins : List (Addr × Obj)} {σ : L2.St} {H : Hp} {s : Shared}
theorem rd_all {ι : List Addr} {f : D → Option PyData} (hf : ∀ d p v u, f d = some p → VR X.K ι H v d → RelV v u → Rd1 s.heap u p) : ∀ {l : List D} {ps : List PyData} {vs : List V} {us : List Value}, opts f l = some ps → VRs X.K ι H vs l → Vals vs us → RdA s.heap us ps
  | [], _, _, _, e, r, rv => by
    cases r; cases e; cases rv
    exact ⟨[], .nil, fun _ a z => (nomatch z)⟩
  | d :: l, _, _, _, e, r, rv => by
    unfold opts at e
    split at e
    · rename_i p q h1 h2
      cases e
      cases r with
      | cons r1 r2 =>
        cases rv with
        | cons v1 v2 =>
          obtain ⟨as, a1, a2⟩ := hf _ _ _ _ h1 r1 v1
          obtain ⟨bs, b1, b2⟩ := rd_all hf h2 r2 v2
          refine ⟨as ++ bs, .cons a1 b1, fun z a m => ?_⟩
          have z' : (noLst p && noLsts q) = true := by simpa [noLsts] using z
          have z2 := Bool.and_eq_true_iff.mp z'
          exact (List.mem_append.mp m).elim (a2 z2.1 a) (b2 z2.2 a)
    · cases e
theorem ints_rd : ∀ (l : List Int) (us : List Value), Vals (l.map V.int) us → ∃ as, ReadsAll s.heap us (l.map PyData.int) as
  | [], _, r => by cases r; exact ⟨[], .nil⟩
  | i :: l, _, r => by
    cases r with
    | cons r1 r2 =>
      obtain ⟨t, rfl⟩ := r1
      obtain ⟨as, h⟩ := ints_rd l _ r2
      exact ⟨_, .cons (.int i t) h⟩
theorem keys_read (P : Program) (w : World) (h : Heap) : ∀ (k : L2.Key) (key : Value), (mixKind P w).is k key = true → Reads h key (keyP k) [] := fun k key e => by
  rcases keyIs_shape e with ⟨i, t, rfl, rfl⟩ | ⟨x, t, rfl, rfl⟩
  · exact .int i t
  · exact .str x t
theorem pairs_rd {h : Heap} : ∀ {kvs : List (L2.Key × V)} {vs : List (L2.Key × Value)} {ps : List PyData} {as : List Addr}, KV kvs vs → ReadsAll h (vs.map (·.2)) ps as → PyProof.V.PairsRead h keyP vs ((kvs.map fun p => keyP p.1).zip ps) as
  | [], _, _, _, r, q => by
    cases r
    cases q
    exact .nil
  | p :: kvs, _, _, _, r, q => by
    cases r with
    | cons r1 r2 =>
      rename_i b vs
      obtain ⟨k, v⟩ := b
      have q' : ReadsAll h (v :: vs.map (·.2)) _ _ := q
      cases q' with
      | cons q1 q2 =>
        have e : p.1 = k := r1.1
        rw [List.map_cons, e, List.zip_cons_cons]
        exact .cons q1 (pairs_rd r2 q2)
theorem kv_vals : ∀ {kvs : List (L2.Key × V)} {vs : List (L2.Key × Value)}, KV kvs vs → Vals (kvs.map (·.2)) (vs.map (·.2))
  | [], _, r => by cases r; exact .nil
  | p :: kvs, _, r => by
    cases r with
    | cons r1 r2 => exact .cons r1.2 (kv_vals r2)
theorem opts_len {α β : Type} {f : α → Option β} : ∀ {l : List α} {ps : List β}, opts f l = some ps → ps.length = l.length
  | [], _, e => by cases e; rfl
  | d :: l, _, e => by
    unfold opts at e
    split at e
    · rename_i p q h1 h2
      cases e
      rw [List.length_cons, List.length_cons, opts_len h2]
    · cases e
theorem rd_of (I : Inv X pins σ H s) {ι : List Addr} {h : Hq} (R : HR X.K ι h H) : ∀ (n : Nat) (d : D) (p : PyData) (v : V) (u : Value), toPyR h n d = some p → VR X.K ι H v d → RelV v u → Rd1 s.heap u p
  | 0, _, _, _, _, e, _, _ => by cases e
  | n + 1, d, p, v, u, e, r, rv => by
    cases r with
    | non => cases e; cases rv; exact ⟨[], .none, fun _ a z => (nomatch z)⟩
    | bl b => cases e; cases rv; exact ⟨[], .bool b, fun _ a z => (nomatch z)⟩
    | int i => cases e; obtain ⟨t, rfl⟩ := rv; exact ⟨[], .int i t, fun _ a z => (nomatch z)⟩
    | str x => cases e; obtain ⟨t, rfl⟩ := rv; exact ⟨[], .str x t, fun _ a z => (nomatch z)⟩
    | tup hx q =>
      cases rv
      rename_i a vs l
      have e' : (opts (toPyR h n) l).map PyData.tuple = some p := e
      obtain ⟨ps, h1, h2⟩ := Option.map_eq_some_iff.mp e'
      subst h2
      obtain ⟨its, r1, ⟨o, g1, g2, m, g3⟩, _⟩ := I.tuple (.of hx)
      obtain ⟨as, a1, a2⟩ := rd_all (fun d p v u => rd_of I R n d p v u) h1 q r1
      exact ⟨as, .tuple g1 g2 g3 (by simpa using a1), fun z => a2 (by simpa [noLst] using z)⟩
    | ref hx =>
      cases rv
      rename_i a m
      have e' : (match h[m]? with
        | some (.lst l) => (opts (toPyR h n) l).map PyData.list
        | some (.dct l) => (opts (toPyR h n) (l.map (·.2))).map fun ps => .dict ((l.map fun p => keyP p.1).zip ps)
        | none => none) = some p := e
      split at e'
      · rename_i l hl
        obtain ⟨ps, h1, h2⟩ := Option.map_eq_some_iff.mp e'
        subst h2
        obtain ⟨vs, c1, q1⟩ := R.cells m _ a hl hx
        obtain ⟨its, r1, ⟨o, g1, g2, g3, g4, g5⟩, _⟩ := I.list (.of c1)
        obtain ⟨as, a1, a2⟩ := rd_all (fun d p v u => rd_of I R n d p v u) h1 q1 r1
        exact ⟨a :: as, .list g2 g3 g5 (by simpa using a1), fun z => by simp [noLst] at z⟩
      · rename_i l hl
        obtain ⟨ps, h1, h2⟩ := Option.map_eq_some_iff.mp e'
        subst h2
        obtain ⟨kvs, c1, k1, q1⟩ := R.cells m _ a hl hx
        obtain ⟨hz, hsys, vs, r1, dd⟩ : kvs.length ≤ sizeLine ∧ (a == sysModules) = false ∧ ∃ vs, KV kvs vs ∧ s.heap.DictOf (mixKind X.prog X.w) a vs := I.hok a _ c1
        obtain ⟨as, a1, a2⟩ := rd_all (fun d p v u => rd_of I R n d p v u) h1 q1 (kv_vals r1)
        have ek : (l.map fun p => keyP p.1) = kvs.map fun p => keyP p.1 := by
          have e1 : (l.map fun p => keyP p.1) = (l.map (·.1)).map keyP := by rw [List.map_map]; rfl
          rw [e1, ← k1, List.map_map]
          rfl
        rw [ek]
        refine ⟨a :: as, PyProof.V.reads_dictOf (keys_read X.prog X.w s.heap) dd (pairs_rd r1 a1), fun z b hb => ?_⟩
        rcases List.mem_cons.mp hb with rfl | hb
        · exact hsys
        · refine a2 (noLsts_k (kvs.map fun p => keyP p.1) ps (by simpa [noLst] using z) ?_) b hb
          have l1 := opts_len h1
          have l2 := congrArg List.length k1
          simp only [List.length_map] at l1 l2 ⊢
          omega
      · cases e'
    | opq v => cases e
    | adr a => cases e
    | ty n => cases e
    | scr hx =>
      cases rv
      cases e
      obtain ⟨its, r1, ⟨o, g1, g2, g3, g4, g5⟩, _⟩ := I.list hx.sq
      obtain ⟨as, a1⟩ := ints_rd (s := s) _ _ r1
      exact ⟨_ :: as, .list g2 g3 g5 (by simpa using a1), fun z => by simp [noLst] at z⟩
end
/-- what repr takes -/
def shows (p : PyData) : Bool := p.showable && (!p.hasDict || noLst p) && decide (p.depth ≤ 60) && small p.shown.length
def showsT (p : PyData) : Bool := match p with
  | .tuple ps => p.showable && ps.all (fun c => !c.hasDict || noLst c) && decide (p.depth ≤ 60) && small p.shown.length
  | _ => false
def gRepr (ds : List D) (h : Hq) : Rs D := match ds with
  | [d] => match toPyR h 60 d with
    | some p => if shows p = true then .ok (.str p.shown) h else if showsT p = true then .ok (.str p.shown) h else .no
    | none => .no
  | _ => .no
def rRepr (X : Cx) : List V → Hp → VK → Prop := fun xs H Q => ∃ ι h d p v, xs = [v] ∧ HR X.K ι h H ∧ VR X.K ι H v d ∧ toPyR h 60 d = some p ∧ (shows p = true ∨ showsT p = true) ∧ Q (.str p.shown) H
/-- item by item -/
inductive Each (h : Heap) : List Value → List PyData → Prop
  | nil : Each h [] []
  | cons {u : Value} {p : PyData} {us : List Value} {ps : List PyData} : Rd1 h u p → Each h us ps → Each h (u :: us) (p :: ps)
theorem each_of {X : Cx} {pins : List (Addr × Obj)} {σ : L2.St} {H : Hp} {s : Shared} (I : Inv X pins σ H s) {ι : List Addr} {h : Hq} (R : HR X.K ι h H) (n : Nat) : ∀ {l : List D} {ps : List PyData} {vs : List V} {us : List Value}, opts (toPyR h n) l = some ps → VRs X.K ι H vs l → Vals vs us → Each s.heap us ps
  | [], _, _, _, e, r, rv => by
    cases r; cases e; cases rv
    exact .nil
  | d :: l, _, _, _, e, r, rv => by
    unfold opts at e
    split at e
    · rename_i p q h1 h2
      cases e
      cases r with
      | cons r1 r2 =>
        cases rv with
        | cons v1 v2 => exact .cons (rd_of I R n _ _ _ _ h1 r1 v1) (each_of I R n h2 r2 v2)
    · cases e
theorem Each.repr {P : Program} {w : World} {h : Heap} : ∀ {us : List Value} {ps : List PyData}, Each h us ps → PyData.showableAll ps = true → ps.all (fun c => !c.hasDict || noLst c) = true → (∀ t ∈ PyData.shownAll ps, t.length ≤ sizeLine) →
    ∃ bs, ReadAtMost h (PyData.depthAll ps) bs ∧ ReprAllK P w bs h (PyData.depthAll ps) us (PyData.shownAll ps)
  | _, _, .nil, _, _, _ => ⟨[], fun b z => (nomatch z), .nil⟩
  | _, _, .cons (u := u) (p := p) (us := us) (ps := ps) r1 r2, hs, hd, hz => by
    have hs' : (p.showable && PyData.showableAll ps) = true := hs
    have hd' : ((!p.hasDict || noLst p) && ps.all (fun c => !c.hasDict || noLst c)) = true := hd
    obtain ⟨s1, s2⟩ := Bool.and_eq_true_iff.mp hs'
    obtain ⟨d1, d2⟩ := Bool.and_eq_true_iff.mp hd'
    obtain ⟨as, a1, a2⟩ := r1
    obtain ⟨b1, x1, x2⟩ := ReprAllK.of_readsAll (prog := P) (w := w) (.cons a1 .nil) (show (p.showable && true) = true by rw [s1]; rfl) (fun hx hm => by
      have hx' : p.hasDict = true := by simpa [PyData.hasDictAll] using hx
      rw [hx'] at d1
      have d1' : noLst p = true := by simpa using d1
      have := a2 d1' _ (by simpa using hm)
      simp at this) (fun t ht => by
      simp only [PyData.shownAll, List.mem_cons, List.not_mem_nil, or_false] at ht
      exact hz t (by rw [ht]; simp [PyData.shownAll]))
    obtain ⟨b2, y1, y2⟩ := Each.repr (P := P) (w := w) r2 s2 d2 fun t ht => hz t (List.mem_cons_of_mem _ ht)
    have m1 : PyData.depthAll [p] ≤ PyData.depthAll (p :: ps) := by simp only [PyData.depthAll]; omega
    have m2 : PyData.depthAll ps ≤ PyData.depthAll (p :: ps) := by simp only [PyData.depthAll]; omega
    refine ⟨b1 ++ b2, fun b hb => ?_, ?_⟩
    · rcases List.mem_append.mp hb with z | z
      · obtain ⟨d, as', q1, q2⟩ := x1 b z
        exact ⟨d, as', q1, Nat.le_trans q2 m1⟩
      · obtain ⟨d, as', q1, q2⟩ := y1 b z
        exact ⟨d, as', q1, Nat.le_trans q2 m2⟩
    · have z1 := x2.more_le (as' := b1 ++ b2) (fun b hb => List.mem_append_left _ hb) m1
      have z2 := y2.more_le (as' := b1 ++ b2) (fun b hb => List.mem_append_right _ hb) m2
      cases z1 with
      | cons q _ => exact .cons q z2
theorem Each.reads {h : Heap} : ∀ {us : List Value} {ps : List PyData}, Each h us ps → ∃ as, ReadsAll h us ps as
  | _, _, .nil => ⟨[], .nil⟩
  | _, _, .cons r1 r2 => by
    obtain ⟨as, a1, _⟩ := r1
    obtain ⟨bs, b1⟩ := Each.reads r2
    exact ⟨_, .cons a1 b1⟩
theorem call_reprT {X : Cx} (hg : X.A.guards = some []) (hu : X.A.units + 64 < cLine) {pins : List (Addr × Obj)} {σ : L2.St} {H : Hp} {s : Shared} {ι : List Addr} {h : Hq} {d : D} {p : PyData} {v : V} {u : Value} {Q : VK} (I : Inv X pins σ H s) (R : HR X.K ι h H) (rd : VR X.K ι H v d) (e : toPyR h 60 d = some p)
    (sh : showsT p = true) (rv : RelV v u) (q : Q (.str p.shown) H) : wpAny (model X.prog X.w) X.A (call (.builtin "repr") [u]) (EP X pins σ Q) X.xe s := by
  unfold showsT at sh
  split at sh
  · rename_i ps
    have sh' : (((PyData.showableAll ps = true ∧ ps.all (fun c => !c.hasDict || noLst c) = true) ∧ (PyData.tuple ps).depth ≤ 60) ∧ (PyData.tuple ps).shown.length ≤ 16777216) := by
      simpa [small, PyData.showable, Bool.and_eq_true, -List.all_eq_true] using sh
    obtain ⟨⟨⟨s1, s2⟩, s3⟩, s4⟩ := sh'
    have s3' : PyData.depthAll ps + 1 ≤ 60 := s3
    have sz : (tupleText (PyData.shownAll ps)).length ≤ sizeLine := by rw [line_eq]; exact s4
    cases rd with
    | tup hx qd =>
      rename_i a vs l
      cases rv
      have e' : (opts (toPyR h 59) l).map PyData.tuple = some (.tuple ps) := e
      obtain ⟨ps', h1, h2⟩ := Option.map_eq_some_iff.mp e'
      cases h2
      obtain ⟨its, r1, ⟨o, g1, g2, m, g3⟩, _⟩ := I.tuple (.of hx)
      have ea := each_of I R 59 h1 qd r1
      obtain ⟨bs, hb, hk⟩ := Each.repr (P := X.prog) (w := X.w) ea s1 s2 fun t ht => Nat.le_trans (tupleText_mem_le ht) sz
      obtain ⟨as, ra⟩ := ea.reads
      have hna : a ∉ bs := not_mem_of_deeper (.tuple g1 g2 g3 (by simpa using ra)) (by simp only [PyData.depth]; omega) hb
      refine call_repr_slot (by omega) ⟨o, g1, g2⟩ F.slot_tuple_repr ?_
      exact call_tuple_reprK (h₀ := s.heap) g1 g2 g3 hna (by simpa using hk) hg (fun b _ => Clear.nil b) (by show X.A.units + 1 + (PyData.depthAll ps + 1) < cLine; omega) (fun _ _ z => z) (fun h' t tk hk' => ⟨_, _, rfl, .str (PyData.tuple ps).shown, H, I.kept hk', ⟨t, rfl⟩, q⟩) sz
    | ref hx =>
      rename_i a m
      exfalso
      have e' : (match h[m]? with
        | some (.lst l) => (opts (toPyR h 59) l).map PyData.list
        | some (.dct l) => (opts (toPyR h 59) (l.map (·.2))).map fun ps => .dict ((l.map fun p => keyP p.1).zip ps)
        | none => none) = some (.tuple ps) := e
      split at e'
      · obtain ⟨_, _, z⟩ := Option.map_eq_some_iff.mp e'; cases z
      · obtain ⟨_, _, z⟩ := Option.map_eq_some_iff.mp e'; cases z
      · cases e'
    | scr hx => cases e
    | non => cases e
    | bl b => cases e
    | int i => cases e
    | str x => cases e
    | opq v => cases e
    | adr a => cases e
    | ty n => cases e
  · cases sh
theorem call_repr {X : Cx} (hg : X.A.guards = some []) (hu : X.A.units + 64 < cLine) : CallR X (.builtin "repr") (rRepr X) := by
  intro pins s σ H xs us Q I r h
  obtain ⟨ι, h, d, p, v, rfl, R, rd, e, sh0, q⟩ := h
  rcases sh0 with sh | sh
  rotate_left
  · cases r with
    | cons rv rr =>
      cases rr
      exact call_reprT hg hu I R rd e sh rv q
  have sh' : (((p.showable = true ∧ (p.hasDict = false ∨ noLst p = true)) ∧ p.depth ≤ 60) ∧ p.shown.length ≤ 16777216) := by
    simpa [shows, small, Bool.and_eq_true, Bool.or_eq_true] using sh
  obtain ⟨⟨⟨s1, s2⟩, s3⟩, s4⟩ := sh'
  cases r with
  | cons rv rr =>
    cases rr
    rename_i u
    have fin : ∀ (h' : Heap) (t : Tok) (tk : Nat), (∀ b o, s.heap.get? b = some o → h'.get? b = some o) → EP X pins σ Q (.str p.shown t) { s with heap := h', toks := tk } := fun h' t tk hk => ⟨.str p.shown, H, I.kept hk, ⟨t, rfl⟩, q⟩
    obtain ⟨as, rd1, rd2⟩ := rd_of I R 60 d p v u e rd rv
    by_cases hu' : ∃ a, u = .ref a
    · obtain ⟨a, rfl⟩ := hu'
      refine repr_of_reads' rd1 s1 (fun hd => ?_) hg (by omega) (fun _ _ z => z) (fun h' t tk hk => fin h' t tk hk) (by rw [line_eq]; exact s4)
      intro hm
      rcases s2 with z | z
      · rw [z] at hd; cases hd
      · have := rd2 z _ hm
        simp at this
    · cases rd1 with
      | none => exact PySem.P.repr_of_none (fin s.heap _ _ fun _ _ z => z)
      | bool b => exact PySem.P.repr_of_bool (fin s.heap _ _ fun _ _ z => z)
      | int i t => exact PySem.P.repr_of_int (by simpa [PyData.showable] using s1) (fin s.heap _ _ fun _ _ z => z)
      | str x t => exact PySem.P.repr_of_str (fin s.heap _ _ fun _ _ z => z) (by rw [line_eq]; exact s4)
      | list _ _ _ _ => exact absurd ⟨_, rfl⟩ hu'
      | tuple _ _ _ _ => exact absurd ⟨_, rfl⟩ hu'
      | dict _ _ _ _ _ => exact absurd ⟨_, rfl⟩ hu'
theorem s_repr {X : Cx} {E : XK} : CaS X.K X.mg E gRepr (rRepr X) := by
  intro ι h H ds vs Q R r P
  unfold gRepr at P
  split at P
  · split at P
    · rename_i d _ p e
      split at P
      · rename_i hs
        obtain ⟨v, rfl, q⟩ := r.one
        exact ⟨ι, h, d, p, v, rfl, R, q, e, .inl hs, P ι H _ (Ext.refl _ _) R (.str _)⟩
      · split at P
        · rename_i hs
          obtain ⟨v, rfl, q⟩ := r.one
          exact ⟨ι, h, d, p, v, rfl, R, q, e, .inr hs, P ι H _ (Ext.refl _ _) R (.str _)⟩
        · exact P.elim
    · exact P.elim
  · exact P.elim
theorem m_repr {X : Cx} {E : XK} {a : Expr} {as : List Expr} {fs : Sa} {p pos : Pos} (wh : Wh X E) (hu : X.A.units + 64 < cLine) (hm : X.mg "repr" = none) (ha : PMa X E (a :: as) fs) (hg : Gl X "repr" := by rfl) (he : starEach (a :: as) X.env = (false, eval a X.env) :: starEach as X.env := by rfl) (hpl : (backTo pos (starEach as X.env)).any (·.1) = false := by rfl) :
    PM X E (.Call (.Name "repr" p) (a :: as) [] pos) (eBi gRepr fs) := m_bi (call_repr wh.gd hu) s_repr hm PyProof.Rows.bootS_repr ha hg (he := he) (hpl := hpl)
end MI
end

section
set_option Elab.async false
set_option linter.all false
set_option autoImplicit false
set_option maxRecDepth 100000
set_option maxHeartbeats 4000000
namespace MI
open PySem L2
open PyProof.Rows (envOfC)
open PyProof.Rows (IntsAre)
open PyProof.Rows (AllBare)
/-! ### the end over a law -/
section
variable {P : Program} {w : World} {K : PySem.W.Frag} {mg mb : Str → Option Value} {k : Nat} {fa a : Addr} {fd : FuncData} {x : Str} {sem : Sf} {s1 : Shared} {vs : List Value} {ns : List Int}
/-- the call of the law, where what is tracked at its entry is the script or nothing -/
theorem law_go {H : Hp} (KX : K.In s1.heap) (hns : s1.heap.Ns mainGlobals mg) (hb : s1.heap.Ns builtinsNs mb) (hbb : ∀ y : Str, y ≠ "__name__" → mb y = bootBuiltins y) (hlim : s1.heap.NoLimit) (hg : s1.gens = #[])
    (ha : s1.heap.get? a = some { cls := .type "list", data := .seq vs.toArray }) (hr : Room k callerA) (F : ∀ base : Heap, K.In base → base.Ns mainGlobals mg → FnG P w K mg base k fa fd [x] sem) (hbind : ∀ (s : Shared) (u : Value), BindsTo s fd ⟨[u], []⟩ [(x, u)])
    (hs : ∃ h', sem [.scr ns] [] = .ok (.bl true) h') (only : ∀ b, H b = none ∨ ∃ o xs, H b = some (.frz o (.lst xs))) (scr : Scr K H a ns) (hok : HOk P w H s1.heap) (at_ : ∀ b, H b ≠ none → b = a) (off : H a ≠ none → K.lookup a = none) :
    codeAny (model P w) callerA (.call (.ref fa) ⟨[.ref a], []⟩) (fun r s' => r = .ok (.ret (.bool true)) ∧ OldK s1.heap s'.heap ∧ s'.os = s1.os ∧ AllBare s'.gens) s1 := by
  have seen : ∀ {b : Addr} {o : Obj}, s1.heap.get? b = some o → H b = none → (hidT s1.heap H).get? b = some o := fun e n => hidT_get e n
  have dicts : ∀ {b : Addr} {o : Obj} {es : Array DictEntry} {ep : Nat}, s1.heap.get? b = some o → o.data = .dict es ep → H b = none := by
    intro b o es ep e d
    by_cases q : H b = none
    · exact q
    · have e' : b = a := at_ b q
      subst e'
      rw [ha] at e
      cases e
      cases d
  have space : ∀ {b : Addr} {m : Str → Option Value}, s1.heap.Ns b m → (hidT s1.heap H).Ns b m := by
    rintro b m ⟨o, es, ep, e, d, r⟩
    exact ⟨o, es, ep, seen e (dicts e d), d, r⟩
  have kin : K.In (hidT s1.heap H) := by
    intro b o e
    refine seen (KX b o e) ?_
    by_cases q : H b = none
    · exact q
    · have e' : b = a := at_ b q
      subst e'
      rw [off q] at e
      cases e
  have md : Mod K mg (hidT s1.heap H) := by
    obtain ⟨mc, c1, c2⟩ := hlim
    exact ⟨kin, space hns, ⟨mb, space hb, hbb⟩, ⟨mc, space c1, c2⟩⟩
  have none0 : ∀ b : Addr, b ∉ ([] : List Addr) := fun b z => (nomatch z)
  have e0 : Env0 P w K mg (hidT s1.heap H) callerA [] s1 H := ⟨rfl, md, fun b o e => of_hidT e, Nat.le_of_eq (hidT_size _ _), trivial, fun b hb => absurd (show b ∈ ([] : List Addr) from hb) (none0 b), hok, .of_eq hg⟩
  obtain ⟨h', hs⟩ := hs
  have P1 : PoV K mg [] H (fun v _ => v = .bl true) (fun _ _ _ => False) (sem [.scr ns] []) := by
    rw [hs]
    intro ι' H' v e1 R1 r1
    cases r1
    rfl
  have R0 : HR K [] [] H := ⟨rfl, List.nodup_nil, fun n c a h1 => by simp at h1⟩
  refine codeAny_mono ((F _ kin (space hns)).go callerA [] s1 H ⟨[.ref a], []⟩ [.ref a] [.ref a] [.scr ns] [] [] (fun v _ => v = .bl true) (fun _ _ _ => False) hr rfl e0 (hbind s1 (.ref a)) (.cons rfl .nil) R0 (.cons (.scr scr) .nil) rfl P1) ?_
  intro r s' q
  cases r with
  | error e =>
    obtain ⟨_, _, _, _, _, _, _, _, _, _, _, _, z⟩ := q
    exact z.elim
  | ok fl =>
    cases fl with
    | next => exact q.elim
    | brk => exact q.elim
    | cont => exact q.elim
    | ret u =>
      obtain ⟨v, H', os, bare, un, hok2, rv, ev⟩ := q
      have ev' : v = .bl true := ev
      subst ev'
      cases (show u = Value.bool true from rv)
      refine ⟨rfl, OldK.of_keep fun b o e => ?_, os, bare⟩
      rcases only b with z | ⟨ob, xs, z⟩
      · exact un.keep b o e z (none0 b) (none0 b)
      · have z2 := un.frzs b ob _ z
        obtain ⟨e1, _⟩ := hok b _ z
        obtain ⟨e2, _⟩ := hok2 b _ z2
        rw [e] at e1
        cases e1
        exact e2
theorem law_at (KX : K.In s1.heap) (hns : s1.heap.Ns mainGlobals mg) (hb : s1.heap.Ns builtinsNs mb) (hbb : ∀ y : Str, y ≠ "__name__" → mb y = bootBuiltins y) (hlim : s1.heap.NoLimit) (hg : s1.gens = #[])
    (ha : s1.heap.get? a = some { cls := .type "list", data := .seq vs.toArray }) (hi : IntsAre vs ns) (hl : ns.length ≤ sizeLine) (hr : Room k callerA) (F : ∀ base : Heap, K.In base → base.Ns mainGlobals mg → FnG P w K mg base k fa fd [x] sem)
    (hbind : ∀ (s : Shared) (u : Value), BindsTo s fd ⟨[u], []⟩ [(x, u)]) (hs : ∃ h', sem [.scr ns] [] = .ok (.bl true) h') :
    codeAny (model P w) callerA (.call (.ref fa) ⟨[.ref a], []⟩) (fun r s' => r = .ok (.ret (.bool true)) ∧ OldK s1.heap s'.heap ∧ s'.os = s1.os ∧ AllBare s'.gens) s1 := by
  have rv := vals_ints hi
  cases hk : K.lookup a with
  | some o =>
    have e := KX a o hk
    rw [ha] at e
    cases e
    refine law_go (H := fun _ => none) KX hns hb hbb hlim hg ha hr F hbind hs (fun _ => .inl rfl) (.inr ⟨_, vs.toArray, _, hk, rfl, rfl, rfl, by rw [List.size_toArray, hi.length]; exact hl, by simpa using rv⟩) (fun b u z => ?_) (fun b z => absurd rfl z) fun z => absurd rfl z
    have z' : (none : Option HO) = some u := z
    cases z'
  | none =>
    refine law_go (H := fun b => if b = a then some (.frz { cls := .type "list", data := .seq vs.toArray } (.lst (ns.map V.int))) else none) KX hns hb hbb hlim hg ha hr F hbind hs (fun b => ?_) (.inl ⟨_, if_pos rfl⟩) (fun b u z => ?_) (fun b z => ?_) fun _ => hk
    · by_cases q : b = a
      · exact .inr ⟨_, _, if_pos q⟩
      · exact .inl (if_neg q)
    · by_cases q : b = a
      · have z' := (if_pos q).symm.trans z
        cases z'
        subst q
        exact ⟨ha, by rw [List.length_map]; exact hl, vs, _, rv, ha⟩
      · have z' := (if_neg q).symm.trans z
        cases z'
    · by_cases q : b = a
      · exact q
      · exact absurd (if_neg q) z
end
/-- the goal that k_head leaves, from the law's worth -/
theorem walkG {l : PySem.W.OpenLaw} {n k : Nat} {q : Program} {loose : List Str} {XP : (Str → Option Value) → Heap → Prop} {YP : World → Heap → Prop} {d : DefRec} {K : Params → PySem.W.Frag} {sem : Sf} {x : Str}
    (hn : l.most = some n) (hn2 : n ≤ sizeLine) (hdf : d.params.defaults = []) (hr : Room k callerA) (hY : ∀ (w : World) (h : Heap), YP w h → (K w.params).In h)
    (F : ∀ (w : World) (mg : Str → Option Value) (fa : Addr) (h : Heap), (K w.params).In h → h.Ns mainGlobals mg → mg d.name = some (.ref fa) →
      ∃ fd : FuncData, (∀ (s : Shared) (u : Value), BindsTo s fd ⟨[u], []⟩ [(x, u)]) ∧ ∀ base : Heap, (K w.params).In base → base.Ns mainGlobals mg → FnG l.prog w (K w.params) mg base k fa fd [x] sem)
    (hs : ∀ ns : List Int, ns.length ≤ n → ∃ h', sem [.scr ns] [] = .ok (.bl true) h') : PySem.W.WalkO q loose XP YP l.row.toRowW d [] (fun f vs => PySem.call f vs) := by
  refine Att.attach_call hn hdf ?_
  intro w s0 s1 mg mb fa o pm cd doc a vs ns G Y ho hd hcd hmg hobj hints hlen hg
  have KX := hY w _ Y
  obtain ⟨fd, hb, hF⟩ := F w mg fa _ KX G.T.g hmg
  exact law_at KX G.T.g G.T.b G.T.builtins G.T.nolimit hg hobj hints (Nat.le_trans hlen hn2) hr hF hb (hs ns hlen)
end MI
end

section
set_option Elab.async false
set_option linter.all false
set_option autoImplicit false
set_option maxRecDepth 100000
set_option maxHeartbeats 4000000
namespace MI
open PySem L2 PyProof.Rows HT
/-! ### t[::-1] -/
theorem adjust_rev (n : Nat) : Builtin.Slice.sliceAdjust none none (-1) (n : Int) = ((n : Int) - 1, -1) := by
  unfold Builtin.Slice.sliceAdjust
  simp
theorem places_rev (n : Nat) : Builtin.Slice.slicePlaces ((n : Int) - 1) (-1) (-1) = n := by
  unfold Builtin.Slice.slicePlaces
  have h1 : ¬ ((-1 : Int) > 0) := by omega
  simp only [h1, if_false, Int.neg_neg, Int.ediv_one]
  by_cases h : ((n : Int) - 1) > -1
  · simp only [h, if_true]; omega
  · simp only [h, if_false]; omega
theorem back_run (l : List Value) : ∀ k : Nat, k ≤ l.length → (List.range k).filterMap (fun m : Nat => l[l.length - 1 - m]?) = (l.drop (l.length - k)).reverse
  | 0, _ => by simp
  | k + 1, h => by
    have hk : l.length - 1 - k < l.length := by omega
    have e1 : l.length - (k + 1) = l.length - 1 - k := by omega
    have e2 : l.length - 1 - k + 1 = l.length - k := by omega
    rw [List.range_succ, List.filterMap_append, back_run l k (by omega), e1, List.drop_eq_getElem_cons hk, List.reverse_cons, e2]
    simp [List.getElem?_eq_getElem hk]
theorem fm_congr {α β : Type} {f g : α → Option β} : ∀ {l : List α}, (∀ a ∈ l, f a = g a) → l.filterMap f = l.filterMap g
  | [], _ => rfl
  | a :: l, h => by rw [List.filterMap_cons, List.filterMap_cons, h a List.mem_cons_self, fm_congr fun b hb => h b (List.mem_cons_of_mem _ hb)]
theorem pick_rev (l : List Value) : ((List.range l.toArray.size).filterMap fun (m : Nat) => l.toArray[(((l.toArray.size : Nat) : Int) - 1 + (m : Int) * (-1)).toNat]?).toArray = l.reverse.toArray := by
  congr 1
  have e : (List.range l.length).filterMap (fun (m : Nat) => l.toArray[((l.length : Int) - 1 + (m : Int) * (-1)).toNat]?) = (List.range l.length).filterMap (fun m : Nat => l[l.length - 1 - m]?) := by
    refine fm_congr fun m hm => ?_
    have h1 := List.mem_range.mp hm
    have h2 : ((l.length : Int) - 1 + (m : Int) * (-1)).toNat = l.length - 1 - m := by omega
    rw [h2, List.getElem?_toArray]
  rw [List.size_toArray, e, back_run l l.length (Nat.le_refl _), Nat.sub_self, List.drop_zero]
section
variable {prog : Program} {w : World} {A : Around} {E : Value → Shared → Prop} {s : Shared}
theorem getItem_back {t sl : Addr} {l : List Value} {vs : Value} {Q : Value → Shared → Prop} (ht : IsTup s.heap t l.toArray) (hs : s.heap.IsSliceOf sl .none .none vs) (pk : IsPart vs (some (-1)))
    (h : Q (.ref s.heap.objs.size) { s with heap := s.heap.push { cls := .type "tuple", data := .seq l.reverse.toArray } }) (hsz : l.length ≤ sizeLine) : wpAny (model prog w) A (getItem (.ref t) (.ref sl)) Q E s := by
  have hfit : sizeOk (.seq l.reverse.toArray) := by
    show l.reverse.toArray.size ≤ sizeLine
    rw [List.size_toArray, List.length_reverse]
    exact hsz
  obtain ⟨os, hos, hcs, hds⟩ := id hs
  have hTs : s.TypeIs (.ref sl) "slice" := ⟨os, hos, hcs⟩
  unfold getItem
  try with_reducible refine wpAny_holding ?_
  first | refine wpAny_bind (wpAny_pure ?_) | skip
  refine wpAny_bind (wpAny_sequenceKey ht.typeIs (by decide) ?_)
  refine wpAny_bind (wpAny_callSpecial?_slot (name := Str.ofString "__getitem__") ht.typeIs PyProof.Rows.slot_tuple_getitem (wpAny_call_entry PyProof.Rows.slot_tuple_getitem ht.typeIs entry_tuple_getitem ?_ (args_tuple_getitem _ _)))
  show wpAny _ _ (Builtin.Tuple.tupleItemsOf (.ref t) >>= _) _ _ s
  refine wpAny_bind (tupleItemsOf_ ht (wpAny_bind (wpAny_typeOf hTs ?_)))
  rw [if_pos (by decide)]
  have ap : ∀ {A' : Around} {E' : Value → Shared → Prop} {Q' : Int × Int × Nat → Shared → Prop}, Q' ((l.toArray.size : Int) - 1, -1, l.toArray.size) s → wpAny (model prog w) A' (Builtin.Slice.sliceApplied (.ref sl) (pure (l.toArray.size : Int))) Q' E' s := by
    intro A' E' Q' q
    unfold Builtin.Slice.sliceApplied Builtin.Slice.sliceFields
    refine wpAny_bind (wpAny_bind (wpAny_field hos hds (x := .none) rfl (wpAny_bind (wpAny_field hos hds (x := .none) rfl (wpAny_bind (wpAny_field hos hds (x := vs) rfl (wpAny_pure ?_)))))))
    refine wpAny_bind (slicePart_ pk ?_)
    show wpAny _ _ (if ((-1 : Int) == 0) = true then _ else _) _ _ s
    rw [if_neg (by decide)]
    refine wpAny_bind (slicePart_ .none (wpAny_bind (slicePart_ .none (wpAny_bind (wpAny_pure ?_)))))
    show wpAny _ _ (match Builtin.Slice.sliceAdjust none none (-1) ((l.toArray.size : Nat) : Int) with | (lo, hi) => pure (lo, (-1 : Int), Builtin.Slice.slicePlaces lo hi (-1))) _ _ s
    rw [adjust_rev]
    show wpAny _ _ (pure (((l.toArray.size : Nat) : Int) - 1, (-1 : Int), Builtin.Slice.slicePlaces (((l.toArray.size : Nat) : Int) - 1) (-1) (-1))) _ _ s
    rw [places_rev]
    exact wpAny_pure q
  refine wpAny_bind (ap ?_)
  have hno : ¬ (((((l.toArray.size : Nat) : Int) - 1) == 0 && (-1 : Int) == 1 && l.toArray.size == l.toArray.size) = true) := by
    intro q
    rw [Bool.and_eq_true, Bool.and_eq_true] at q
    exact absurd q.1.2 (by decide)
  show wpAny _ _ (if ((((l.toArray.size : Nat) : Int) - 1) == 0 && (-1 : Int) == 1 && l.toArray.size == l.toArray.size) = true then _ else _) _ _ s
  rw [if_neg hno, pick_rev]
  first
    | exact wpAny_bind (m := Builtin.Tuple.tupleExact _) (wpAny_newObj_type (wpAny_pure ⟨_, rfl, wpAny_pure h⟩) hfit)
    | exact wpAny_bind (m := Builtin.Tuple.tupleExact _) (wpAny_newObj_type (wpAny_bind (wpAny_pure (wpAny_pure ⟨_, rfl, wpAny_pure h⟩))) hfit)
    | exact wpAny_bind (wpAny_bind (m := Builtin.Tuple.tupleExact _) (wpAny_newObj_type (wpAny_pure (wpAny_pure ⟨_, rfl, wpAny_pure h⟩)) hfit))
    | exact wpAny_bind (wpAny_bind (m := Builtin.Tuple.tupleExact _) (wpAny_newObj_type (wpAny_pure ⟨_, rfl, wpAny_pure h⟩) hfit))
end
/-- a tuple (or a list) the other way about -/
def dBack (x : D) (h : Hq) : Rs D := match x with
  | .tup l => .ok (.tup l.reverse) h
  | .ref m => match lstAt h m with
    | some l => .ok (.ref h.length) (h ++ [.lst l.reverse])
    | none => .no
  | _ => .no
theorem VRs.back {K : PySem.W.Frag} {ι : List Addr} {H : Hp} {vs : List V} {l : List D} (r : VRs K ι H vs l) : VRs K ι H vs.reverse l.reverse := by
  induction l generalizing vs with
  | nil => cases r; exact .nil
  | cons d l ih =>
    cases r with
    | cons r1 r2 => rw [List.reverse_cons, List.reverse_cons]; exact (ih r2).append (.cons r1 .nil)
section
variable {X : Cx} {E : XK} {a : Expr} {fa : Sx} {k : Nat} {p1 p2 p3 pos : Pos}
theorem m_back (ha : PM X E a fa) : PM X E (.Subscript a (.Slice none none (some (.UnaryOp .USub (.Constant (.int 1) k p1) p2)) p3) pos) (eUn dBack fa) := by
  constructor
  intro pins s σ H Q I q
  obtain ⟨ι, h, fr, R, F, P⟩ := q
  refine Subscript_ (thn (ha.run pins s σ H _ I ⟨ι, h, fr, R, F, Po.bind P⟩) ?_)
  rintro v s1 ⟨x, H1, I1, r1, ι1, h1, d, e1, R1, rd, P1⟩
  have hst : PO X (some (.UnaryOp .USub (.Constant (.int 1) k p1) p2)) (tPart (tUn (rU fun i => .int (-i)) (tC (.int 1)))) := po_some (pe_un un_neg pe_int)
  refine wpAny_Slice (thn (po_none.run pins s1 σ H1 (fun o H2 => o = none ∧ H2 = H1) I1 ⟨rfl, rfl⟩) ?_)
  rintro vl s2 ⟨l, H2, I2, pl, rfl, rfl⟩
  refine thn (po_none.run pins s2 σ H2 (fun o H3 => o = none ∧ H3 = H2) I2 ⟨rfl, rfl⟩) ?_
  rintro vu s3 ⟨u, H3, I3, pu, rfl, rfl⟩
  refine thn (hst.run pins s3 σ H3 (fun o H4 => o = some (-1) ∧ H4 = H3) I3 ⟨1, rfl, -1, rfl, rfl, rfl⟩) ?_
  rintro vk s4 ⟨o, H4, I4, pk, rfl, rfl⟩
  have I5 : L2.Inv X pins σ H4 { s4 with heap := s4.heap.push { cls := .type "slice", data := .fields #[vl, vu, vk] } } := I4.kept (t' := s4.toks) fun b ob q => Heap.get?_push_of_some _ q
  unfold dBack at P1
  split at P1
  · cases rd with
    | tup hx qd =>
      rename_i xs a' vs
      cases r1
      obtain ⟨its, r, ht, hz⟩ := I5.tuple (.of hx)
      have el : vl = .none := by cases pl; rfl
      have eu : vu = .none := by cases pu; rfl
      subst el eu
      refine tail_any (ops := [.ref a', .ref s4.heap.objs.size]) ht.typeIs PyProof.Rows.slot_tuple_getitem.lookup (getItem_back ht (Heap.IsSliceOf.new _ _ _ vk) pk ?_ (by rw [← r.length]; exact hz)) (by with_unfolding_all rfl)
      have hf := I5.hok.fresh (Nat.le_refl _)
      obtain ⟨e2, R2⟩ := R1.tup hf vs.reverse
      refine ⟨.ref _, _, I5.laid (t' := s4.toks) (o := .tup vs.reverse) (fun b ob q => Heap.get?_push_of_some _ q) (Nat.le_refl _) ⟨by rw [List.length_reverse]; exact hz, _, r.reverse, ⟨_, Heap.get?_push_size _ rfl, rfl, _, rfl⟩⟩, rfl, P1 ι1 _ _ e2 R2 (.tup upd_same ((VRs.back qd).ext e2))⟩
  · split at P1
    · rename_i m _ xs hl
      cases rd with
      | ref hx =>
        rename_i a'
        cases r1
        obtain ⟨vs, c1, qd⟩ := R1.lst hx hl
        obtain ⟨its, r, ht, hz⟩ := I5.list (.of c1)
        have hlen := r.length
        refine tail_any (ops := [.ref a', .ref s4.heap.objs.size]) ht.isList.typeIs (PySem.slot_list_getitem.lookup) ?_ (by with_unfolding_all rfl)
        refine wpAny_getItem_list_slice ht.isList (Heap.IsSliceOf.new _ vl vu vk) pl pu pk (by decide) ?_ (by rw [List.size_toArray]; omega)
        rw [PySem.W.krv_pick]
        have hf := I5.hok.fresh (Nat.le_refl _)
        obtain ⟨e2, R2⟩ := R1.new hf (o := .lst vs.reverse) (c := .lst xs.reverse) fun ι' H' e z => ⟨_, z, (VRs.back qd).ext e⟩
        refine ⟨.ref _, _, I5.laid (t' := s4.toks) (o := .lst vs.reverse) (fun b ob q => Heap.get?_push_of_some _ q) (Nat.le_refl _) ⟨by rw [List.length_reverse]; exact hz, _, 0, r.reverse, Heap.get?_push_size _ rfl⟩, rfl, P1 _ _ _ e2 R2 (.ref (ref_new R1 _))⟩
    · exact P1.elim
  · exact P1.elim
end
end MI
end

section
set_option Elab.async false
set_option linter.all false
set_option autoImplicit false
set_option maxRecDepth 100000
set_option maxHeartbeats 4000000
namespace MI
open PySem L2
open PyProof.Rows (envOfC)

/-! ### comprehensions -/
def wipeF (fr : Fr) : List Nat → Fr
  | [] => fr
  | v :: vs => (wipeF fr vs).set v none
theorem fr_wipe {K : PySem.W.Frag} {ι : List Addr} {H : Hp} {σ : L2.St} {fr : Fr} (F : FR K ι H σ fr) : ∀ vs : List Nat, FR K ι H (L2.wipe σ vs) (wipeF fr vs)
  | [] => F
  | v :: vs => (fr_wipe F vs).wipe v
theorem wipe_get (σ : L2.St) : ∀ (vs : List Nat) (j : Nat), (L2.wipe σ vs)[j]? = if j ∈ vs then σ[j]?.map (fun _ => none) else σ[j]?
  | [], j => by simp [L2.wipe]
  | v :: vs, j => by
    have e : L2.wipe σ (v :: vs) = (L2.wipe σ vs).set v none := rfl
    rw [e, List.getElem?_set]
    have ih := wipe_get σ vs j
    by_cases hj : v = j
    · subst hj
      rw [if_pos rfl, if_pos List.mem_cons_self, L2.wipe_length]
      by_cases hl : v < σ.length
      · rw [if_pos hl, List.getElem?_eq_getElem hl]; rfl
      · rw [if_neg hl, List.getElem?_eq_none (by omega)]; rfl
    · rw [if_neg hj, ih]
      by_cases hm : j ∈ vs
      · rw [if_pos hm, if_pos (List.mem_cons_of_mem _ hm)]
      · rw [if_neg hm, if_neg (by simp [hm]; omega)]
theorem wipe_set {σ : L2.St} {vs : List Nat} {i : Nat} {x : Option V} (hi : i ∈ vs) : L2.wipe (σ.set i x) vs = L2.wipe σ vs := by
  refine List.ext_getElem? fun j => ?_
  rw [wipe_get, wipe_get]
  by_cases hj : j ∈ vs
  · rw [if_pos hj, if_pos hj, List.getElem?_set]
    by_cases hij : i = j
    · subst hij
      by_cases hl : i < σ.length
      · simp [hl]
      · simp [hl]
    · simp [hij]
  · rw [if_neg hj, if_neg hj, List.getElem?_set_ne (fun z : i = j => hj (by rw [← z]; exact hi))]
theorem wipe_wipe (σ : L2.St) (vs : List Nat) : L2.wipe (L2.wipe σ vs) vs = L2.wipe σ vs := by
  refine List.ext_getElem? fun j => ?_
  rw [wipe_get, wipe_get]
  by_cases hj : j ∈ vs
  · rw [if_pos hj, if_pos hj]
    cases σ[j]? <;> rfl
  · rw [if_neg hj, if_neg hj]
/-- a comprehension's turns: its list grows at the cell m -/
def picks (m : Nat) (get : Nat → Hq → Option D) (fin : Nat → Hq → Bool) (t : Tg) (c : Sb) (e : Sx) (fr : Fr) : Nat → Nat → Hq → Rs D
  | 0, i, h => if fin i h = true then .ok (.ref m) h else .no
  | n + 1, i, h => match get i h with
    | none => .no
    | some d => match t d fr with
      | none => .no
      | some fr1 => match c fr1 h with
        | .ok true h1 => match e fr1 h1 with
          | .ok y h2 => match lstAt h2 m with
            | some acc => if small (acc.length + 1) = true then picks m get fin t c e fr n (i + 1) (h2.set m (.lst (acc ++ [y]))) else .no
            | none => .no
          | _ => .no
        | .ok false h1 => picks m get fin t c e fr n (i + 1) h1
        | _ => .no
def eComp (src : Si) (own : List Nat) (t : Tg) (c : Sb) (e : Sx) : Sx := fun fr h => (src fr h).bind fun S h1 => picks h1.length S.get S.fin t c e (wipeF fr own) S.n 0 (h1 ++ [.lst []])
def cYes : Sb := fun _ h => .ok true h
abbrev E00 : XK := fun _ _ _ => False
section
variable {K : PySem.W.Frag} {mg : Str → Option Value} {Q : VK}
theorem comp_in {ι : List Addr} {H1 : Hp} {J : It} {get : Nat → Hq → Option D} {fin : Nat → Hq → Bool} {t : Tg} {c : Sb} {e : Sx} {gg : TG} {own : List Nat} {E : XK} (w : Wk K ι H1 J get fin) (hg : TgS K gg t)
    (hw : ∀ (v : V) (σ : L2.St) (H : Hp) (Q : L2.St → Hp → Prop), gg v (L2.wipe σ own) H Q → gg v (L2.wipe σ own) H fun σ2 H2 => L2.wipe σ2 own = L2.wipe σ own ∧ Q σ2 H2)
    {n : Nat} {h0 : Hq} {fr : Fr} {σ : L2.St} (R0 : HR K ι h0 H1) (F0 : FR K ι H1 σ fr)
    (P0 : PoV K mg ι H1 Q E (picks h0.length get fin t c e (wipeF fr own) n 0 (h0 ++ [.lst []]))) : ∀ Dd, H1 Dd = none → ∃ W : Nat → Nat → Hp → Prop, (∃ m, W 0 m (upd H1 Dd (.lst []))) ∧ ∀ i m H, W i m H →
        (J.stop i H ∧ Q (.ref Dd) H) ∨ (J.go i H ∧ ∃ Nx : Hp → Prop, (∀ H', Nx H' → ∃ m', m' < m ∧ W (i + 1) m' H') ∧ ∀ x H', J.yld i H x H' → gg x (L2.wipe σ own) H' fun σ2 H2 => L2.wipe σ2 own = L2.wipe σ own ∧ tMb K mg E00 c σ2 H2 fun b H3 =>
          if b = true then tM K mg E00 e σ2 H3 fun y H4 => ∃ acc, H4 Dd = some (.lst acc) ∧ acc.length < sizeLine ∧ Nx (upd H4 Dd (.lst (acc ++ [y]))) else Nx H3) := by
  intro Dd nD
  obtain ⟨eD, RD⟩ := R0.new nD (o := .lst []) (c := .lst []) fun ι' H' _ q => ⟨[], q, .nil⟩
  have hD : (ι ++ [Dd])[h0.length]? = some Dd := ref_new R0 Dd
  refine ⟨fun i m H => ∃ ι1 h, Ext (ι ++ [Dd]) (upd H1 Dd (.lst [])) ι1 H ∧ HR K ι1 h H ∧ PoV K mg ι1 H Q E (picks h0.length get fin t c e (wipeF fr own) m i h), ⟨n, _, _, Ext.refl _ _, RD, Po.ext eD P0⟩, ?_⟩
  rintro i m H ⟨ι1, h, e1, R, P⟩
  have eAll : Ext ι H1 ι1 H := eD.trans e1
  cases m with
  | zero =>
    unfold picks at P
    split at P
    · rename_i hf
      exact .inl ⟨w.stop i ι1 h H eAll R hf, P ι1 H _ (Ext.refl _ _) R (.ref (e1.get hD))⟩
    · exact P.elim
  | succ m =>
    unfold picks at P
    split at P
    · exact P.elim
    · rename_i _ d hd
      split at P
      · exact P.elim
      · rename_i _ fr1 ht
        obtain ⟨g1, g2⟩ := w.go i ι1 h H d eAll R hd
        refine .inr ⟨g1, fun H' => ∃ ι2 h2, Ext (ι ++ [Dd]) (upd H1 Dd (.lst [])) ι2 H' ∧ HR K ι2 h2 H' ∧ PoV K mg ι2 H' Q E (picks h0.length get fin t c e (wipeF fr own) m (i + 1) h2), fun H' q => ⟨m, Nat.lt_succ_self m, q⟩, fun x H' y => ?_⟩
        obtain ⟨ι2, e2, R2, r2⟩ := g2 x H' y
        have F2 : FR K ι2 H' (L2.wipe σ own) (wipeF fr own) := (fr_wipe F0 own).ext (eAll.trans e2)
        refine hw x σ H' _ (hg ι2 h H' x d _ _ fr1 _ R2 r2 F2 ht fun σ2 F3 => ?_)
        refine ⟨ι2, h, fr1, R2, F3, ?_⟩
        split at P
        · rename_i h3 hc
          rw [hc]
          intro ι3 H3 b e3 R3 hb
          have hb' : b = true := hb
          subst hb'
          rw [if_pos rfl]
          refine ⟨ι3, h3, fr1, R3, F3.ext e3, ?_⟩
          split at P
          · rename_i y' h4 he
            split at P
            · rename_i _ acc hl
              split at P
              · rename_i hz
                rw [he]
                intro ι4 H4 v e4 R4 rv
                have eF : Ext (ι ++ [Dd]) (upd H1 Dd (.lst [])) ι4 H4 := ((e1.trans e2).trans e3).trans e4
                have hx := eF.get hD
                obtain ⟨vs, c1, q1⟩ := R4.lst hx hl
                have hz' := small_le hz
                obtain ⟨e5, R5⟩ := R4.put (lstAt_some hl) hx (o := .lst (vs ++ [v])) (c := .lst (acc ++ [y'])) fun H' e z => ⟨_, z, (q1.append (.cons rv .nil)).ext e⟩
                exact ⟨vs, c1, by rw [q1.length]; omega, ι4, _, eF.trans e5, R5, Po.ext (((e2.trans e3).trans e4).trans e5) P⟩
              · exact P.elim
            · exact P.elim
          · exact P.elim
        · rename_i h3 hc
          rw [hc]
          intro ι3 H3 b e3 R3 hb
          have hb' : b = false := hb
          subst hb'
          rw [if_neg Bool.false_ne_true]
          exact ⟨ι3, h3, (e1.trans e2).trans e3, R3, Po.ext (e2.trans e3) P⟩
        · exact P.elim
end
/-- a comprehension's target, of names of its own -/
structure PMo' (X : Cx) (scope : Scope) (tg : Expr) (t : Tg) (own : List Nat) : Prop where
  ex : ∃ g, (∀ (s : Shared) (H : Hp) (C : Addr) (cl : List (Str × Addr)) (fp : List Addr), PG (X.blk s H scope (compEnvC scope cl C X.env) fp) tg g) ∧ TgS X.K g t ∧
    ∀ (v : V) (σ : L2.St) (H : Hp) (Q : L2.St → Hp → Prop), g v (L2.wipe σ own) H Q → g v (L2.wipe σ own) H fun σ2 H2 => L2.wipe σ2 own = L2.wipe σ own ∧ Q σ2 H2
section
variable {X : Cx} {E : XK} {scope : Scope} {pos : Pos}
theorem m_oN (i : Nat) {x : Str} {own : List Nat} (nd : X.N.Nodup) (hi : X.N[i]? = some x := by rfl) (ho : i ∈ own := by decide)
    (hx : ∀ (C : Addr) (cl : List (Str × Addr)), Loc (compEnvC scope cl C X.env).scope x := by intro _ _; first | exact Or.inl rfl | exact Or.inr rfl)
    (hf : ∀ (C : Addr) (cl : List (Str × Addr)), (scope.names.lookup x == some NameKind.cell) = true ∨ (compEnvC scope cl C X.env).scope.names.lookup x = some .local := by intro _ _; first | exact .inl rfl | exact .inr rfl) :
    PMo' X scope (.Name x pos) (tgN i) own :=
  ⟨gName i, fun s H C cl fp => pg_name (X := X.blk s H scope (compEnvC scope cl C X.env) fp) nd hi (hx C cl) (hf C cl), tgN_s i, fun v σ H Q q => ⟨by rw [wipe_set ho, wipe_wipe], q⟩⟩
/-- two names, three -/
theorem m_oT2 (i j : Nat) {x y : Str} {own : List Nat} {k : Nat} {px py : Pos} (nd : X.N.Nodup) (hc : X.calm = true) (hi : X.N[i]? = some x := by rfl) (hj : X.N[j]? = some y := by rfl) (ho : i ∈ own := by decide) (ho2 : j ∈ own := by decide)
    (hx : ∀ (C : Addr) (cl : List (Str × Addr)), Loc (compEnvC scope cl C X.env).scope x := by intro _ _; first | exact Or.inl rfl | exact Or.inr rfl)
    (hf : ∀ (C : Addr) (cl : List (Str × Addr)), (scope.names.lookup x == some NameKind.cell) = true ∨ (compEnvC scope cl C X.env).scope.names.lookup x = some .local := by intro _ _; first | exact .inl rfl | exact .inr rfl)
    (hy : ∀ (C : Addr) (cl : List (Str × Addr)), Loc (compEnvC scope cl C X.env).scope y := by intro _ _; first | exact Or.inl rfl | exact Or.inr rfl)
    (hf2 : ∀ (C : Addr) (cl : List (Str × Addr)), (scope.names.lookup y == some NameKind.cell) = true ∨ (compEnvC scope cl C X.env).scope.names.lookup y = some .local := by intro _ _; first | exact .inl rfl | exact .inr rfl) :
    PMo' X scope (.Tuple [.Name x px, .Name y py] k pos) (tgT [i, j]) own := by
  refine ⟨gTup X.K 2 (gCons (gName i) (gCons (gName j) gNil)), fun s H C cl fp => pg_tup (X := X.blk s H scope (compEnvC scope cl C X.env) fp) hc
    (pgs_cons (pg_name (X := X.blk s H scope (compEnvC scope cl C X.env) fp) nd hi (hx C cl) (hf C cl)) (pgs_cons (pg_name (X := X.blk s H scope (compEnvC scope cl C X.env) fp) nd hj (hy C cl) (hf2 C cl)) pgs_nil)), ?_, ?_⟩
  · intro ι h H v d σ fr fr' Q R r F e k
    unfold tgT at e
    split at e
    · rename_i l
      cases r with
      | tup hx q =>
        match l, e with
        | [d1, d2], e =>
          cases e
          obtain ⟨v1, v2, rfl, q1, q2⟩ := q.two
          exact ⟨_, _, rfl, .of hx, rfl, v1, [v2], rfl, v2, [], rfl, rfl, k _ ((F.set q1).set q2)⟩
    · cases e
  · rintro v σ H Q ⟨a, xs, e1, hs, hl, v1, r, e2, v2, r2, e3, e4, q⟩
    subst e2 e3 e4
    exact ⟨a, _, e1, hs, hl, v1, _, rfl, v2, _, rfl, rfl, by rw [wipe_set ho2, wipe_set ho, wipe_wipe], q⟩
variable {elt tg iter : Expr} {src : Si} {t : Tg} {c : Sb} {fe : Sx} {own : List (Str × Nat)}
/-- the tests: none, one -/
def PMt (X : Cx) (scope : Scope) (ifs : List Expr) (c : Sb) : Prop := ∀ (s : Shared) (H : Hp) (C : Addr) (cl : List (Str × Addr)) (fp : List Addr), PTs (X.blk s H scope (compEnvC scope cl C X.env) fp) ifs (tMb X.K X.mg E00 c)
theorem m_t0 : PMt X scope [] cYes := fun s H C cl fp => ⟨fun pins s σ H Q I ⟨ι, h, fr, R, F, P⟩ => pts_nil.run pins s σ H Q I (P ι H true (Ext.refl _ _) R rfl)⟩
theorem m_t1 {a : Expr} (h : ∀ (s : Shared) (H : Hp) (C : Addr) (cl : List (Str × Addr)) (fp : List Addr), PMb (X.blk s H scope (compEnvC scope cl C X.env) fp) E00 a c) : PMt X scope [a] c := fun s H C cl fp => pts_one (h s H C cl fp)
theorem tLc_in {ifs : List Expr} {gg : TG} (hg : TgS X.K gg t) (hw : ∀ (v : V) (σ : L2.St) (H : Hp) (Q : L2.St → Hp → Prop), gg v (L2.wipe σ (own.map (·.2))) H Q → gg v (L2.wipe σ (own.map (·.2))) H fun σ2 H2 => L2.wipe σ2 (own.map (·.2)) = L2.wipe σ (own.map (·.2)) ∧ Q σ2 H2)
    {σ : L2.St} {H : Hp} {Q : VK} (q : tM X.K X.mg E (eComp src (own.map (·.2)) t c fe) σ H Q) : tLc (tMi X.K X.mg E src) gg (tMb X.K X.mg E00 c) (tM X.K X.mg E00 fe) (own.map (·.2)) σ H Q := by
  obtain ⟨ι, h, fr, R, F, P⟩ := q
  refine ⟨ι, h, fr, R, F, Po.mono ?_ (Po.bind P)⟩
  rintro J H1 ⟨i1, h1, S, e1, R1, w, P1⟩
  exact comp_in w hg hw R1 (F.ext e1) P1
/-- a comprehension as a worth -/
theorem m_comp {ifs : List Expr} (wh : Wh X E) (hi : PMi X E tg iter src) (ok : BlkOk X.N X.env.scope scope own) (ho : PMo' X scope tg t (own.map (·.2))) (ht : PMt X scope ifs c)
    (he : ∀ (s : Shared) (H : Hp) (C : Addr) (cl : List (Str × Addr)) (fp : List Addr), PM (X.blk s H scope (compEnvC scope cl C X.env) fp) E00 elt fe) (hs : ∀ x, foldedSetIterable iter X.env x = pure x := by intro _; rfl) :
    PM X E (.ListComp elt [⟨tg, iter, ifs, 0⟩] scope pos) (eComp src (own.map (·.2)) t c fe) := by
  obtain ⟨g, hg, hgs, hw⟩ := ho.ex
  exact pe_imp (pe_lc wh.calm wh.nd hi ok hg ht he hs) fun σ H Q q => tLc_in (ifs := ifs) hgs hw q
/-- name = [..] -/
theorem m_setC (i : Nat) {y : Str} {py spos : Pos} {ifs : List Expr} (wh : Wh X E) (hi : PMi X E tg iter src) (ok : BlkOk X.N X.env.scope scope own) (ho : PMo' X scope tg t (own.map (·.2))) (ht : PMt X scope ifs c)
    (he : ∀ (s : Shared) (H : Hp) (C : Addr) (cl : List (Str × Addr)) (fp : List Addr), PM (X.blk s H scope (compEnvC scope cl C X.env) fp) E00 elt fe)
    (hsw : swapsWith (.ListComp elt [⟨tg, iter, ifs, 0⟩] scope pos) (some (.Name y py)) spos.line X.env = pure true) (hy : X.N[i]? = some y := by rfl) (hyl : X.env.scope.names.lookup y = some .local := by rfl) (hs : ∀ x, foldedSetIterable iter X.env x = pure x := by intro _; rfl) :
    PMs X E (.Assign [.Name y py] (.ListComp elt [⟨tg, iter, ifs, 0⟩] scope pos) spos) (sAsg (eComp src (own.map (·.2)) t c fe) (tgN i)) := by
  obtain ⟨g, hg, hgs, hw⟩ := ho.ex
  refine ps_imp (ps_setLc (te := tM X.K X.mg E00 fe) wh.calm wh.nd hy hyl hsw hi ok hg ht he hs) fun Z σ H q => ?_
  have q2 := asg_in (tgN_s i) q
  exact tLc_in (ifs := ifs) hgs hw q2
end

/-! ### keywords -/
abbrev PMk (X : Cx) (E : XK) (kws : List Keyword) (f : Sa) : Prop := PK X kws (tMa X.K X.mg E f)
section
variable {X : Cx} {E : XK} {k : Nat} {f : Addr} {fd : FuncData} {ps ks : List Str} {sem : Sf} {x : Str} {p pos kpos : Pos} {a : Expr} {as : List Expr} {fs fk : Sa} {kws : List Keyword} {nm : Option Str} {fa : Sx}
theorem pk_imp {t t' : TA} (h : PK X kws t) (m : ∀ σ H Q, t' σ H Q → t σ H Q) : PK X kws t' := ⟨fun pos pins s σ H Q I q => h.run pos pins s σ H Q I (m σ H Q q)⟩
theorem m_kNil : PMk X E [] aNil := pk_imp pk_nil fun σ H Q ⟨ι, h, fr, R, F, P⟩ => P ι H [] (Ext.refl _ _) R .nil
theorem m_kCons (ha : PM X E a fa) (hr : PMk X E kws fk) : PMk X E (⟨nm, a, kpos⟩ :: kws) (aCons fa fk) := pk_imp (pk_cons ha hr) fun σ H Q ⟨ι, h, fr, R, F, P⟩ => by
  refine ⟨ι, h, fr, R, F, Po.mono ?_ (Po.bind P)⟩
  rintro v H1 ⟨ι1, h1, d, e1, R1, r1, P1⟩
  refine ⟨ι1, h1, fr, R1, F.ext e1, Po.mono ?_ (Po.bind P1)⟩
  rintro vs H2 ⟨ι2, h2, xs, e2, R2, r2, P2⟩
  exact P2 ι2 H2 _ (Ext.refl _ _) R2 (.cons (r1.ext e2) r2)
/-- f(a, .., k = b, ..): the written arguments, then the keywords' (in the parameters' order) -/
def eCallK (n : Nat) (sem : Sf) (f g : Sa) : Sx := fun fr h => (f fr h).bind fun ds h1 => (g fr h1).bind fun es h2 => if (ds ++ es).length = n then sem (ds ++ es) h2 else .no
theorem m_callK {n : Nat} (F : FnG X.prog X.w X.K X.mg X.base k f fd ps sem) (wh : Wh X E) (hr : Room k X.A) (hm : X.mg x = some (.ref f)) (hk : PySem.W.keepIn X.K (.ref f) = true)
    (hb : ∀ (s : Shared) (us ws : List Value), X.K.In s.heap → us.length = n → ws.length = ks.length → BindsTo s fd ⟨us, ks.zip ws⟩ (ps.zip (us ++ ws))) (hn : n + ks.length = ps.length)
    (ha : PMa X E (a :: as) fs) (hkw : PMk X E kws fk) (hlen : ∀ fr h ds h', fs fr h = .ok ds h' → ds.length = n) (hg : Gl X x := by rfl) (hall : (backToKw pos (keywordEach kws X.env)).all (·.1.isSome) = true := by rfl) (hks : (backToKw pos (keywordEach kws X.env)).filterMap (·.1) = ks := by rfl)
    (hdb : (x == ("__debug__" : Str)) = false := by decide) (he : starEach (a :: as) X.env = (false, eval a X.env) :: starEach as X.env := by rfl)
    (hpl : ((backTo pos (starEach (a :: as) X.env)).any (·.1) || (backToKw pos (keywordEach kws X.env)).any (·.1.isNone)) = false := by rfl) : PM X E (.Call (.Name x p) (a :: as) kws pos) (eCallK ps.length sem fs fk) := by
  constructor
  intro pins s σ H Q I q
  obtain ⟨ι, h, fr, R, F', P⟩ := q
  refine wpAny_Call_Name_kw (ld_glob I hg hm ?_ hdb)
  have P0 : PoA X.K X.mg ι H (fun vs H1 => ∃ ι1 h1 ds, Ext ι H ι1 H1 ∧ HR X.K ι1 h1 H1 ∧ VRs X.K ι1 H1 vs ds ∧ ds.length = n ∧ PoV X.K X.mg ι1 H1 Q E ((fk fr h1).bind fun es h2 => if (ds ++ es).length = ps.length then sem (ds ++ es) h2 else .no)) E (fs fr h) := by
    unfold eCallK at P
    cases hq : fs fr h with
    | no => rw [hq] at P; exact P.elim
    | exc x1 h1 => rw [hq] at P; exact P
    | ok ds h1 =>
      rw [hq] at P
      exact fun ι1 H1 vs e1 R1 r1 => ⟨ι1, h1, ds, e1, R1, r1, hlen fr h ds h1 hq, Po.ext e1 P⟩
  refine PySem.W.callWith_KW (h₀ := X.base) I.ok.mod.kin hk hall (thn (ha.run pos pins s σ H _ I ⟨ι, h, fr, R, F', P0⟩) ?_) hpl he
  rintro us s1 ⟨vs, H1, I1, rv, ι1, h1, ds, e1, R1, r1, hl1, P1⟩
  refine thn (hkw.run pos pins s1 σ H1 _ I1 ⟨ι1, h1, fr, R1, F'.ext e1, Po.bind P1⟩) ?_
  rintro ws s2 ⟨zs, H2, I2, rz, ι2, h2, es, e2, R2, r2, P2⟩
  refine ⟨I2.kIn, ?_⟩
  rw [hks]
  split at P2
  · rename_i hl
    have rr : VRs X.K ι2 H2 (vs ++ zs) (ds ++ es) := (r1.ext e2).append r2
    have ru : Vals (vs ++ zs) (us ++ ws) := rv.append rz
    have l1 : us.length = n := by rw [← rv.length, r1.length]; exact hl1
    have l2 : ws.length = ks.length := by
      rw [← rz.length, r2.length]
      rw [List.length_append] at hl
      omega
    refine wpAny_call (codeAny_mono (runG (us := us) (vs := vs) F wh hr I2 (hb s2 us ws I2.kIn l1 l2) ru R2 rr hl P2) ?_)
    intro z s' q
    cases z with
    | error e => exact q
    | ok fl =>
      cases fl with
      | ret u => exact q
      | next => exact q.elim
      | brk => exact q.elim
      | cont => exact q.elim
  · exact P2.elim
end
end MI
end

section
set_option Elab.async false
set_option linter.all false
set_option autoImplicit false
set_option maxRecDepth 100000
set_option maxHeartbeats 4000000
namespace MI
open PySem L2
open PyProof.Rows (envOfC)

/-! ### classes as values -/
section
variable {X : Cx} {E : XK} {x : Str} {pos : Pos}
theorem m_cls {C : Addr} (hm : X.mg x = some (.ref C)) (hg : Gl X x := by rfl) (hd : (x == ("__debug__" : Str)) = false := by decide) : PM X E (.Name x pos) (eK (.adr C)) :=
  pe_imp (pe_glob (v := V.ref C) hg hm rfl hd) fun σ H Q ⟨ι, h, fr, R, F, P⟩ => P ι H _ (Ext.refl _ _) R (.adr C)
theorem m_bty {T : String} (hm : X.mg x = none) (hv : bootBuiltins x = some (.type T)) (hg : Gl X x := by rfl) (hn : x ≠ "__name__" := by decide) (hd : (x == ("__debug__" : Str)) = false := by decide) : PM X E (.Name x pos) (eK (.ty T)) :=
  pe_imp (pe_bltn (v := V.ty T) hg hm hv rfl hn hd) fun σ H Q ⟨ι, h, fr, R, F, P⟩ => P ι H _ (Ext.refl _ _) R (.ty T)
end
/-- the class that a value is -/
def clsD : D → Option Value
  | .adr C => some (.ref C)
  | .ty n => some (.type n)
  | _ => none
theorem cls_rel {K : PySem.W.Frag} {ι : List Addr} {H : Hp} {v : V} {d : D} {c : Value} (r : VR K ι H v d) (e : clsD d = some c) : ClsV v c := by
  cases r <;> cases e
  · exact .own _
  · exact .ty _
theorem cls_rels {K : PySem.W.Frag} {ι : List Addr} {H : Hp} : ∀ {ds : List D} {vs : List V} {cs : List Value}, VRs K ι H vs ds → opts clsD ds = some cs → Paired ClsV vs cs
  | [], _, _, r, e => by cases r; cases e; exact .nil
  | d :: ds, _, _, r, e => by
    unfold opts at e
    split at e
    · rename_i p q h1 h2
      cases e
      cases r with
      | cons r1 r2 => exact .cons (cls_rel r1 h1) (cls_rels r2 h2)
    · cases e
/-- isinstance(e, (c1, ..)), e the exception that the suite holds -/
def rIsET (K : PySem.W.Frag) (Dc a : Addr) : List V → Hp → VK → Prop := fun xs H Q => ∃ (tp : Addr) (cs : List V) (us : List Value) (b : Bool), xs = [.ref a, .ref tp] ∧ SqT K H tp cs ∧ Paired ClsV cs us ∧ PySem.W.kitAny K (.ref Dc) us = some b ∧ Q (.bl b) H
theorem call_isET {X : Cx} {a Dc : Addr} {oe : Obj} {pn : List (Addr × Obj)} (C : ExcC X.K Dc) (hz : Zc (.ref Dc) none oe) (hf : ∃ vs, oe.data = .fields vs) : CallR (X.suite a ((a, oe) :: pn)) (.builtin "isinstance") (rIsET X.K Dc a) := by
  intro pins s σ H xs us Q I r h
  obtain ⟨tp, cs, ws, b, rfl, hx, hp, e, q⟩ := h
  cases r with
  | cons rx rr =>
    cases rr with
    | cons rt rr =>
      cases rr
      cases rx
      cases rt
      obtain ⟨hget, _⟩ := I.pin (a, oe) (List.mem_append.mpr (.inl List.mem_cons_self))
      obtain ⟨vs, hv⟩ := hf
      have J : PySem.W.InstAt s.heap a oe Dc none := by
        obtain ⟨oc, od, oda, osl⟩ := oe
        obtain ⟨h1, h2⟩ := hz
        dsimp only at h1 h2 hv
        subst h1 h2 hv
        exact ⟨hget, rfl, rfl, trivial⟩
      obtain ⟨its, r1, ⟨o, g1, g2, m, g3⟩, _⟩ := I.tuple hx
      have ew := ClsV.all hp r1
      subst ew
      obtain ⟨oc, od, oda, osl⟩ := o
      dsimp only at g2 g3
      subst g2 g3
      exact PySem.W.kia_tup (PySem.W.handS_kitx_exc C.hg C.hk C.hs C.hd C.ha C.hn C.ht C.hm) I.kIn J g1 e (fun z => nomatch z) fun tk => ⟨.bl b, H, I.kept (t' := tk) fun _ _ z => z, rfl, q⟩
/-- the answer b, which is known -/
def eIsE (a : Addr) (b : Bool) (f g : Sx) : Sx := fun fr h => (f fr h).bind fun d h1 => match d with
  | .adr c => if c = a then (g fr h1).bind fun _ h2 => .ok (.bl b) h2 else .no
  | _ => .no
section
variable {X : Cx} {E : XK} {a Dc : Addr} {oe : Obj} {pn : List (Addr × Obj)} {e c : Expr} {fe fc : Sx} {p pos : Pos} {b : Bool}
theorem m_isE (C : ExcC X.K Dc) (hz : Zc (.ref Dc) none oe) (hf : ∃ vs, oe.data = .fields vs) {dc : D} {u : Value} (hi : X.mg "isinstance" = none) (he0 : PM (X.suite a ((a, oe) :: pn)) E e fe) (hc0 : PM (X.suite a ((a, oe) :: pn)) E c (eK dc))
    (hu : clsD dc = some u) (hk : PySem.W.kitOne X.K (.ref Dc) u = some b) (hg : Gl X "isinstance" := by rfl)
    (he : starEach [e, c] X.env = (false, eval e X.env) :: starEach [c] X.env := by rfl) (he2 : starEach [c] X.env = (false, eval c X.env) :: starEach [] X.env := by rfl) (hpl : (backTo pos (starEach [c] X.env)).any (·.1) = false := by rfl) :
    PM (X.suite a ((a, oe) :: pn)) E (.Call (.Name "isinstance" p) [e, c] [] pos) (eIsE a b fe (eK dc)) := by
  have hc1 := pe_callB (X := X.suite a ((a, oe) :: pn)) (p := p) (pos := pos) (call_isE C hz hf) hg hi (by decide +kernel) (pa_cons he0 (pa_cons hc0 pa_nil he2) he) (he := he) (hpl := hpl)
  refine pe_imp hc1 fun σ H Q ⟨ι, h, fr, R, F, P⟩ => ?_
  unfold eIsE at P
  cases hq : fe fr h with
  | no => rw [hq] at P; exact P.elim
  | exc x1 h1 => rw [hq] at P; exact ⟨ι, h, fr, R, F, by rw [hq]; exact P⟩
  | ok d h1 =>
    rw [hq] at P
    refine ⟨ι, h, fr, R, F, ?_⟩
    rw [hq]
    intro ι1 H1 v e1 R1 r1
    cases d with
    | adr ca =>
      have P0 : PoV X.K X.mg ι H Q E (if ca = a then .ok (.bl b) h1 else .no) := P
      have ea : ca = a := by
        by_cases z : ca = a
        · exact z
        · rw [if_neg z] at P0; exact P0.elim
      subst ea
      refine ⟨ι1, h1, fr, R1, F.ext e1, ?_⟩
      intro ι2 H2 v2 e2 R2 r2
      cases r1
      rw [if_pos rfl] at P0
      have P' : PoV X.K X.mg ι H Q E (.ok (.bl b) h1) := P0
      exact ⟨v2, u, b, rfl, fun w rw' => (cls_rel r2 hu).eq rw', hk, P' ι2 H2 _ (e1.trans e2) R2 (.bl b)⟩
    | _ => exact P.elim
theorem m_isET (C : ExcC X.K Dc) (hz : Zc (.ref Dc) none oe) (hf : ∃ vs, oe.data = .fields vs) {ds : List D} {us : List Value} (hi : X.mg "isinstance" = none) (he0 : PM (X.suite a ((a, oe) :: pn)) E e fe) (hc0 : PM (X.suite a ((a, oe) :: pn)) E c fc)
    (hfc : ∀ fr h, fc fr h = .ok (.tup ds) h) (hu : opts clsD ds = some us) (hk : PySem.W.kitAny X.K (.ref Dc) us = some b) (hg : Gl X "isinstance" := by rfl)
    (he : starEach [e, c] X.env = (false, eval e X.env) :: starEach [c] X.env := by rfl) (he2 : starEach [c] X.env = (false, eval c X.env) :: starEach [] X.env := by rfl) (hpl : (backTo pos (starEach [c] X.env)).any (·.1) = false := by rfl) :
    PM (X.suite a ((a, oe) :: pn)) E (.Call (.Name "isinstance" p) [e, c] [] pos) (eIsE a b fe fc) := by
  have hc1 := pe_callB (X := X.suite a ((a, oe) :: pn)) (p := p) (pos := pos) (call_isET C hz hf) hg hi (by decide +kernel) (pa_cons he0 (pa_cons hc0 pa_nil he2) he) (he := he) (hpl := hpl)
  refine pe_imp hc1 fun σ H Q ⟨ι, h, fr, R, F, P⟩ => ?_
  unfold eIsE at P
  cases hq : fe fr h with
  | no => rw [hq] at P; exact P.elim
  | exc x1 h1 => rw [hq] at P; exact ⟨ι, h, fr, R, F, by rw [hq]; exact P⟩
  | ok d h1 =>
    rw [hq] at P
    refine ⟨ι, h, fr, R, F, ?_⟩
    rw [hq]
    intro ι1 H1 v e1 R1 r1
    cases d with
    | adr ca =>
      have P0 : PoV X.K X.mg ι H Q E (if ca = a then (fc fr h1).bind fun _ h2 => .ok (.bl b) h2 else .no) := P
      have ea : ca = a := by
        by_cases z : ca = a
        · exact z
        · rw [if_neg z] at P0; exact P0.elim
      subst ea
      rw [if_pos rfl] at P0
      have P' : PoV X.K X.mg ι H Q E ((fc fr h1).bind fun _ h2 => .ok (.bl b) h2) := P0
      rw [hfc] at P'
      refine ⟨ι1, h1, fr, R1, F.ext e1, ?_⟩
      rw [hfc]
      intro ι2 H2 v2 e2 R2 r2
      cases r1
      cases r2 with
      | tup hx q => exact ⟨_, _, us, b, rfl, .of hx, cls_rels q hu, hk, P' ι2 H2 _ (e1.trans e2) R2 (.bl b)⟩
    | _ => exact P.elim
end

/-! ### try: body, except x as n: suite -/
def SR.less (i : Nat) : SR → SR
  | .nx fr h => .nx (fr.set i none) h
  | .bk fr h => .bk (fr.set i none) h
  | .ct fr h => .ct (fr.set i none) h
  | r => r
/-- cat: whether the clause takes a class (by its name); hd: what the suite is worth -/
def sTry (cat : Str → Option Bool) (hd : Xn → Hq → SR) (b : Ss) : Ss := fun fr h => match b fr h with
  | .exc x h1 => match cat x.cls with
    | some true => if x.val.isNone = true then hd x h1 else .no
    | some false => .exc x h1
    | none => .no
  | r => r
theorem fr_none {K : PySem.W.Frag} {ι : List Addr} {H : Hp} {σ : L2.St} {n : Nat} (hl : σ.length = n) : FR K ι H σ (List.replicate n none) := by
  refine ⟨by simp [hl], fun i d e => ?_⟩
  rw [List.getElem?_replicate] at e
  split at e <;> cases e
section
variable {X : Cx} {E : XK} {x n : Str} {c : Value} {i N : Nat} {body suite : List Stmt} {b₀ : Stmt} {np pos pos' : Pos} {cat : Str → Option Bool} {hd : Xn → Hq → SR} {hs : Addr → Xn → Ss} {b : Ss}
theorem m_try (wh : Wh X E) (hst : X.stack = X.env :: X.outer) (hfr : X.env.frame = some X.env.locals) (hc : Names X x c) (hcat : ∀ y k C, cat y = some k → X.mg y = some (.ref C) → PySem.W.exmOne X.K (.ref C) c = some k)
    (hb : ∀ (E' : XK) (pn : List (Addr × Obj)) (xe : Value → Shared → Prop), Wh (X.tr pn xe) E' → PMb' (X.tr pn xe) E' body b)
    (hsu : ∀ (a : Addr) (oe : Obj) (Dc : Addr) (pn : List (Addr × Obj)) (z : Xn), Zc (.ref Dc) none oe → (∃ vs, oe.data = .fields vs) → cat z.cls = some true → X.mg z.cls = some (.ref Dc) → PMb' (X.suite a ((a, oe) :: pn)) E (b₀ :: suite) (hs a z))
    (hN : X.N.length = N) (hh : ∀ a z h, cat z.cls = some true → (hs a z ((List.replicate N none).set i (some (.adr a))) h).less i = hd z h) (hi : X.N[i]? = some n := by rfl) (hln : X.env.kindOf n = some .local := by rfl) :
    PMs X E (.Try body [.ExceptHandler (some (.Name x np)) (some n) (b₀ :: suite) pos'] [] [] pos) (sTry cat hd b) := by
  refine ps_imp (L2.ps_try_as (tb := fun W => tMs X.K X.mg (fun cls d H => ∀ σ : L2.St, σ.length = N → W cls d σ H) b) (ts := fun a cls d Z σ H => d = none ∧ (∃ C, cls = .ref C) ∧ ∃ z : Xn, cat z.cls = some true ∧ X.mg z.cls = some cls ∧ tMs X.K X.mg E (hs a z) Z σ H) (Wout := fun cls d _ H => E cls d H) hst hfr wh.nd hi hln hc wh.tk ?_ ?_) ?_
  · intro W pn xe tk po
    refine hb _ pn xe ⟨?_, po, wh.gd, wh.calm, wh.nd⟩
    intro u s' q
    obtain ⟨a, B, sI, pins, σ, H, cls, d, e, I, nb, up, sky, na, os, ag, w⟩ := q
    exact tk u s' ⟨a, B, sI, pins, σ, H, cls, d, e, I, nb, up, sky, na, os, ag, w σ (I.len.trans hN)⟩
  · intro a oe cls d pn hz hf
    refine ⟨fun pins s σ H Z I q => ?_⟩
    obtain ⟨rfl, ⟨Dc, rfl⟩, z, h1, h2, q⟩ := q
    exact (hsu a oe Dc pn z hz hf h1 h2).run pins s σ H Z I q
  · rintro Z σ H ⟨ι, h, fr, R, F, P⟩
    refine ⟨ι, h, fr, R, F, ?_⟩
    unfold sTry at P
    cases hq : b fr h with
    | nx fr1 h1 => rw [hq] at P; exact P
    | rt d1 h1 => rw [hq] at P; exact P
    | bk fr1 h1 => rw [hq] at P; exact P
    | ct fr1 h1 => rw [hq] at P; exact P
    | no => rw [hq] at P; exact P
    | exc z h1 =>
      rw [hq] at P
      intro ι1 H1 cls d e1 R1 xr σ1 hl
      obtain ⟨C, m1, rfl, xv⟩ := xr
      have P' : SPo X.K X.mg ι H Z E (match cat z.cls with
        | some true => if z.val.isNone = true then hd z h1 else .no
        | some false => .exc z h1
        | none => .no) := P
      cases hcz : cat z.cls with
      | none => rw [hcz] at P'; exact P'.elim
      | some k =>
        rw [hcz] at P'
        refine ⟨k, hcat _ k C hcz m1, fun hk a na => ?_, fun hk => ?_⟩
        · subst hk
          have P2 : SPo X.K X.mg ι H Z E (if z.val.isNone = true then hd z h1 else .no) := P'
          split at P2
          · rename_i hv
            have dn : d = none := by
              revert xv
              cases hz : z.val with
              | none => exact fun q => q
              | some w => rw [hz] at hv; cases hv
            refine ⟨dn, ⟨C, rfl⟩, z, hcz, m1, ι1, h1, _, R1, (fr_none hl).set (.adr a), ?_⟩
            have P3 := SPo.ext e1 P2
            rw [← hh a z h1 hcz] at P3
            revert P3
            cases hs a z ((List.replicate N none).set i (some (D.adr a))) h1 with
            | nx fr2 h2 => exact fun q ι2 H2 σ2 e2 R2 F2 => q ι2 H2 _ e2 R2 (F2.wipe i)
            | bk fr2 h2 => exact fun q ι2 H2 σ2 e2 R2 F2 => q ι2 H2 _ e2 R2 (F2.wipe i)
            | ct fr2 h2 => exact fun q ι2 H2 σ2 e2 R2 F2 => q ι2 H2 _ e2 R2 (F2.wipe i)
            | rt d2 h2 => exact fun q => q
            | exc x2 h2 => exact fun q => q
            | no => exact fun q => q
          · exact P2.elim
        · subst hk
          exact P' ι1 H1 (.ref C) d e1 R1 ⟨C, m1, rfl, xv⟩
end
end MI
end

section
set_option Elab.async false
set_option linter.all false
set_option autoImplicit false
set_option maxRecDepth 100000
set_option maxHeartbeats 4000000
namespace MI
open PySem L2
open PyProof.Rows (envOfC)
/-! ### ties: a def by its name, blocks -/
/-- the def that the module's name x stands for is worth sem -/
structure Good (P : Program) (w : World) (K : PySem.W.Frag) (mg : Str → Option Value) (base : Heap) (k : Nat) (x : Str) (ps : List Str) (sem : Sf) : Prop where
  ex : ∃ (f : Addr) (fd : FuncData), mg x = some (.ref f) ∧ FnG P w K mg base k f fd ps sem ∧ PySem.W.keepIn K (.ref f) = true ∧ Binds K fd ps []
theorem fnG_no {P : Program} {w : World} {K : PySem.W.Frag} {mg : Str → Option Value} {base : Heap} {k : Nat} {f : Addr} {fd : FuncData} {ps : List Str} : FnG P w K mg base k f fd ps (fun _ _ => .no) :=
  ⟨fun A outer s H args us vs ds ι h Q E hr hg e0 hb rv R r hl P => P.elim⟩
section
variable {X : Cx} {E : XK} {k j : Nat} {ps : List Str} {sem : Sf} {x : Str} {p pos : Pos} {a : Expr} {as : List Expr} {fs : Sa}
theorem m_callG (G : Good X.prog X.w X.K X.mg X.base k x ps sem) (wh : Wh X E) (hr : Room j X.A) (hkj : k ≤ j) (ha : PMa X E (a :: as) fs) (hg : Gl X x := by rfl) (hdb : (x == ("__debug__" : Str)) = false := by decide)
    (he : starEach (a :: as) X.env = (false, eval a X.env) :: starEach as X.env := by rfl) (hpl : (backTo pos (starEach as X.env)).any (·.1) = false := by rfl) :
    PM X E (.Call (.Name x p) (a :: as) [] pos) (eCall ps.length sem fs) := by
  obtain ⟨f, fd, hm, F, hk, hb⟩ := G.ex
  exact m_call F wh (hr.mono hkj) hm hk hb ha hg hdb he hpl
theorem wh_blk (wh : Wh X E) {s : Shared} {H : Hp} {scope : Scope} {cenv : Env} {fp : List Addr} : Wh (X.blk s H scope cenv fp) E00 :=
  ⟨fun u s' q => by obtain ⟨_, _, _, _, _, _, _, _, _, _, _, _, _, _, _, _, z⟩ := q; exact z.elim, PySem.PassesOwn.never, wh.gd, wh.calm, wh.nd⟩
end
/-- the block's own names stand where they should -/
def blkB (N : List Str) (sc scope : Scope) (own : List (Str × Nat)) : Bool :=
  decide (scope.kind = .function) && (scope.names.all (fun y => decide (scope.names.lookup y.1 = some y.2)) && (own.all (fun p => decide (N[p.2]? = some p.1)) &&
    (scope.names.all (fun y => !decide (y.2 = .free) || (decide (sc.names.lookup y.1 = some .cell) || decide (sc.names.lookup y.1 = some .free))) &&
      scope.names.all (fun y => !(decide (y.2 = .local) || decide (y.2 = .cell)) || (decide (y.1 ∈ own.map (·.1)) || decide (y.1 ∉ N))))))
theorem blk_of {N : List Str} {sc scope : Scope} {own : List (Str × Nat)} (h : blkB N sc scope own = true) : BlkOk N sc scope own := by
  unfold blkB at h
  simp only [Bool.and_eq_true, decide_eq_true_eq, List.all_eq_true, Bool.or_eq_true, Bool.not_eq_true', decide_eq_false_iff_not] at h
  obtain ⟨h1, h2, h3, h4, h5⟩ := h
  exact ⟨h1, h2, h3, fun y hy e => (h4 y hy).elim (fun z => absurd e z) id, fun y hy e => (h5 y hy).elim (fun z => absurd e (by simpa using z)) id⟩
end MI
end

section
set_option Elab.async false
set_option linter.all false
set_option autoImplicit false
set_option maxRecDepth 100000
set_option maxHeartbeats 4000000
namespace MI
open PySem L2
/-! ### evaluation: the worth of a piece, rewritten from the front -/
section
variable {α β : Type} {r r' : Rs α} {s s' : SR} {g : Ss} {fr : Fr} {h : Hq} {a b c f : Sx} {t u : Sb} {p q : Ss} {as : Sa} {d : D} {i j : Int} {n m : Nat}
theorem c_bind {f : α → Hq → Rs β} (e : r = r') : r.bind f = r'.bind f := by rw [e]
theorem c_into {f : α → Hq → SR} (e : r = r') : r.into f = r'.into f := by rw [e]
theorem c_then (e : s = s') : s.then g = s'.then g := by rw [e]
theorem v_K : eK d fr h = .ok d h := rfl
def vR : Option (Option D) → Hq → Rs D
  | some (some d), h => .ok d h
  | _, _ => .no
theorem v_V : eV n fr h = vR fr[n]? h := by unfold eV vR; split <;> simp_all
theorem v_vR : vR (some (some d)) h = .ok d h := rfl
theorem v_Op {g : D → D → Hq → Rs D} : eOp g a b fr h = (a fr h).bind fun x h1 => (b fr h1).bind fun y h2 => g x y h2 := rfl
theorem v_Un {g : D → Hq → Rs D} : eUn g a fr h = (a fr h).bind g := rfl
theorem v_bOf : bOf a fr h = isB (a fr h) := rfl
theorem v_isB {b : Bool} : isB (.ok (.bl b) h) = .ok b h := rfl
theorem v_isBx {x : Xn} : isB (.exc x h) = .exc x h := rfl
theorem v_bAnd : bAnd t u fr h = (t fr h).bind fun c h1 => if c = true then u fr h1 else .ok false h1 := rfl
theorem v_bOr : bOr t u fr h = (t fr h).bind fun c h1 => if c = true then .ok true h1 else u fr h1 := rfl
theorem v_bNot : bNot t fr h = (t fr h).bind fun c h1 => .ok (!c) h1 := rfl
theorem v_eAnd : eAnd a b fr h = (isB (a fr h)).bind fun c h1 => if c = true then b fr h1 else .ok (.bl false) h1 := rfl
theorem v_eOr : eOr a b fr h = (isB (a fr h)).bind fun c h1 => if c = true then .ok (.bl true) h1 else b fr h1 := rfl
theorem v_eNot : eNot a fr h = (isB (a fr h)).bind fun c h1 => .ok (.bl (!c)) h1 := rfl
theorem v_eIf : eIf t a b fr h = (t fr h).bind fun c h1 => if c = true then a fr h1 else b fr h1 := rfl
theorem v_aNil : aNil fr h = .ok [] h := rfl
theorem v_aCons : aCons a as fr h = (a fr h).bind fun x h1 => (as fr h1).bind fun xs h2 => .ok (x :: xs) h2 := rfl
theorem v_Tup : eTup as fr h = (as fr h).bind fun xs h1 => if small xs.length = true then .ok (.tup xs) h1 else .no := rfl
theorem v_Lst : eLst as fr h = (as fr h).bind fun xs h1 => if small xs.length = true then .ok (.ref h1.length) (h1 ++ [.lst xs]) else .no := rfl
theorem v_Dct : eDct0 fr h = .ok (.ref h.length) (h ++ [.dct []]) := rfl
theorem v_Call {sem : Sf} : eCall n sem as fr h = (as fr h).bind fun ds h1 => if ds.length = n then sem ds h1 else .no := rfl
theorem v_CallK {sem : Sf} {bs : Sa} : eCallK n sem as bs fr h = (as fr h).bind fun ds h1 => (bs fr h1).bind fun es h2 => if (ds ++ es).length = n then sem (ds ++ es) h2 else .no := rfl
theorem v_Bi {g : List D → Hq → Rs D} : eBi g as fr h = (as fr h).bind g := rfl
theorem v_Isi {x : String} : eIsi x a fr h = (a fr h).bind fun d h1 => gIsi x d h1 := rfl
theorem v_Cut {lo hi : So} : eCut a lo hi fr h = (a fr h).bind fun x h1 => (lo fr h1).bind fun l h2 => (hi fr h2).bind fun u h3 => dCut x l u h3 := rfl
theorem v_oNone : oNone fr h = .ok none h := rfl
def vO : D → Hq → Rs (Option Int)
  | .int i, h => .ok (some i) h
  | _, _ => .no
theorem v_oSome : oSome a fr h = (a fr h).bind vO := by
  unfold oSome
  congr 1
  funext x h1
  cases x <;> rfl
theorem v_vO : vO (.int i) h = .ok (some i) h := rfl
/-- statements -/
theorem v_End : sEnd fr h = .nx fr h := rfl
theorem v_Seq : sSeq p q fr h = (p fr h).then q := rfl
theorem v_If : sIf t p q fr h = (t fr h).into fun b h1 => if b = true then p fr h1 else q fr h1 := rfl
theorem v_Ret : sRet a fr h = (a fr h).into fun d h1 => .rt d h1 := rfl
theorem v_Expr : sExpr a fr h = (a fr h).into fun _ h1 => .nx fr h1 := rfl
theorem v_Set : sAsg a (tgN n) fr h = (a fr h).into fun d h1 => .nx (fr.set n (some d)) h1 := rfl
theorem v_SetT {is : List Nat} : sAsg a (tgT is) fr h = (a fr h).into fun d h1 => match tgT is d fr with | some fr' => .nx fr' h1 | none => .no := rfl
theorem v_Par {k : Nat} : sPar n k as fr h = (as fr h).into fun ds h1 => match ds with | [d, e] => .nx ((fr.set n (some d)).set k (some e)) h1 | _ => .no := rfl
theorem v_Raise {x : Str} : sRaise x fr h = .exc { cls := x } h := rfl
theorem v_For {src : Si} {tg : Tg} : sFor tg src p fr h = (src fr h).into fun S h1 => turns S.get S.fin tg p S.n 0 fr h1 := rfl
def vPut (d : D) : D → D → Fr → Hq → SR
  | .ref m, .int j, fr, h3 => match lstAt h3 m with
    | some l => match ixN l.length j with
      | some n => .nx fr (h3.set m (.lst (l.set n d)))
      | none => .no
    | none => .no
  | _, _, _, _ => .no
theorem v_Put : sPut a b c fr h = (a fr h).into fun d h1 => (b fr h1).into fun o h2 => (c fr h2).into fun k h3 => vPut d o k fr h3 := by
  unfold sPut
  congr 1
  funext d h1
  congr 1
  funext o h2
  congr 1
  funext k h3
  cases o <;> cases k <;> rfl
theorem v_vPut {l : List D} {k : Nat} (e : lstAt h m = some l) (e2 : ixN l.length j = some k) : vPut d (.ref m) (.int j) fr h = .nx fr (h.set m (.lst (l.set k d))) := by
  unfold vPut
  simp only [e, e2]
theorem v_fnx : fin (.nx fr h) = .ok .non h := rfl
theorem v_frt : fin (.rt d h) = .ok d h := rfl
theorem v_fex {x : Xn} : fin (.exc x h) = .exc x h := rfl
theorem v_of {n k : Nat} {p : Ss} {ds : List D} {h : Hq} (e : ds.length = n) : ofBody n k p ds h = fin (p (ds.map some ++ List.replicate k none) h) := by
  unfold ofBody
  rw [if_pos e]
/-! operations -/
theorem v_add : dAdd (.int i) (.int j) h = .ok (.int (i + j)) h := rfl
theorem v_sub : dSub (.int i) (.int j) h = .ok (.int (i - j)) h := rfl
theorem v_mul (e : mulOk i j = true) : dMul (.int i) (.int j) h = .ok (.int (i * j)) h := if_pos e
theorem v_div (e : divOk j = true) : dDiv (.int i) (.int j) h = .ok (.int (i / j)) h := if_pos e
theorem v_mod (e : 0 < j) : dMod (.int i) (.int j) h = .ok (.int (i % j)) h := if_pos e
theorem v_pow (e0 : 0 ≤ j) (e1 : j ≤ 1000) (e2 : i.natAbs.log2 < 10000) : dPow (.int i) (.int j) h = .ok (.int (i ^ j.toNat)) h := if_pos ⟨e0, e1, e2⟩
theorem v_neg : dNeg (.int i) h = .ok (.int (-i)) h := rfl
theorem v_rel {f : Int → Int → Bool} : dRel f (.int i) (.int j) h = .ok (.bl (f i j)) h := rfl
theorem v_ixT {l : List D} (e : atI l i = some d) : dIx (.tup l) (.int i) h = .ok d h := by
  unfold dIx
  simp only [e]
theorem v_ixL {l : List D} (e0 : lstAt h m = some l) (e : atI l i = some d) : dIx (.ref m) (.int i) h = .ok d h := by
  unfold dIx
  simp only [e0, e]
theorem v_ixS {l : List Int} (e : atI l i = some j) : dIx (.scr l) (.int i) h = .ok (.int j) h := by
  unfold dIx
  simp only [e]
theorem v_abs : gAbs [.int i] h = .ok (.int (if i < 0 then -i else i)) h := rfl
theorem v_lenT {l : List D} : gLen [.tup l] h = .ok (.int l.length) h := rfl
theorem v_lenS {l : List Int} : gLen [.scr l] h = .ok (.int l.length) h := rfl
theorem v_lenL {l : List D} (e : lstAt h m = some l) : gLen [.ref m] h = .ok (.int l.length) h := by
  unfold gLen
  simp only [e]
theorem v_max : gMax [.int i, .int j] h = .ok (.int (if j > i then j else i)) h := rfl
theorem v_min : gMin [.int i, .int j] h = .ok (.int (if j < i then j else i)) h := rfl
theorem v_intB {b : Bool} : gInt [.bl b] h = .ok (.int (if b then 1 else 0)) h := rfl
theorem v_intI : gInt [.int i] h = .ok (.int i) h := rfl
theorem v_gcd : gGcd [.int i, .int j] h = .ok (.int ((Nat.gcd i.natAbs j.natAbs : Nat) : Int)) h := rfl
theorem v_cutT {l : List D} {lo hi : Option Int} : dCut (.tup l) lo hi h = .ok (.tup (cutD l lo hi)) h := rfl
theorem v_cutL {l : List D} {lo hi : Option Int} (e : lstAt h m = some l) : dCut (.ref m) lo hi h = .ok (.ref h.length) (h ++ [.lst (cutD l lo hi)]) := by
  unfold dCut
  simp only [e]
theorem v_strI (e : bitsOk i = true) : gStr [.int i] h = .ok (.str (toString i)) h := if_pos e
theorem v_listT {l : List D} : gList [.tup l] h = .ok (.ref h.length) (h ++ [.lst l]) := rfl
theorem v_backT {l : List D} : dBack (.tup l) h = .ok (.tup l.reverse) h := rfl
theorem v_addT {k l : List D} (e : small (k.length + l.length) = true) : dAdd (.tup k) (.tup l) h = .ok (.tup (k ++ l)) h := if_pos e
theorem v_addL {k l : List D} (e1 : lstAt h m = some k) (e2 : lstAt h n = some l) (e : small (k.length + l.length) = true) : dAdd (.ref m) (.ref n) h = .ok (.ref h.length) (h ++ [.lst (k ++ l)]) := by
  unfold dAdd
  simp only [e1, e2, e, if_true]
theorem v_rep {l : List D} (e1 : lstAt h m = some l) (e2 : 0 ≤ i ∧ i < 1000000 ∧ small (l.length * i.toNat) = true) : dMul (.ref m) (.int i) h = .ok (.ref h.length) (h ++ [.lst (List.replicate i.toNat l).flatten]) := by
  unfold dMul
  simp only [e1]
  rw [if_pos e2]
theorem v_eqI {b : Bool} : dEqs b (.int i) (.int j) h = .ok (.bl ((i == j) != b)) h := by
  unfold dEqs eqQ dEqP
  simp [toPy, SeqAt.shaped, PyData.eqv, PyData.canLay0, PyData.depth]
end
theorem v_eqS {x y : Str} {b : Bool} {h : Hq} : dEqs b (.str x) (.str y) h = .ok (.bl (decide (x = y) != b)) h := rfl
end MI
end

section
set_option Elab.async false
set_option linter.all false
set_option autoImplicit false
set_option maxRecDepth 100000
set_option maxHeartbeats 4000000
open PySem PySem.Spec PyProof.Rows L2
namespace K03
def topS (i : Nat) : Stmt := PySem.Challenge.pw_wherewhen_k03_fractions_reckoned.main.body.getD i (.Pass ⟨0, 0, 0, 0⟩)
abbrev sis_whole : Stmt := topS 10
abbrev sis_fraction : Stmt := topS 11
abbrev sneed_fraction : Stmt := topS 12
abbrev slowest : Stmt := topS 13
abbrev sadded : Stmt := topS 14
abbrev staken : Stmt := topS 15
abbrev sbelow : Stmt := topS 16
abbrev splus : Stmt := topS 17
abbrev sminus : Stmt := topS 18
abbrev stimes : Stmt := topS 19
abbrev sby : Stmt := topS 20
abbrev sis_less : Stmt := topS 21
abbrev sfloor_of : Stmt := topS 22
abbrev s_law_pot : Stmt := topS 24
abbrev s_law_take : Stmt := topS 25
abbrev s_law_great : Stmt := topS 26
abbrev s_law_lowest : Stmt := topS 27
abbrev s_law_fraction : Stmt := topS 28
abbrev s_law_whole : Stmt := topS 29
abbrev s_law_is_fraction : Stmt := topS 30
abbrev s_law_bent : Stmt := topS 31
abbrev s_law_told : Stmt := topS 32
abbrev s_law_met : Stmt := topS 33
abbrev s_law_due : Stmt := topS 34
abbrev slaw : Stmt := topS 35
def dis_whole : He.DefD := ⟨("is_whole", none), "is_whole", "is_whole", defArgs sis_whole, defBody sis_whole, defScope sis_whole, [], []⟩
def dis_fraction : He.DefD := ⟨("is_fraction", none), "is_fraction", "is_fraction", defArgs sis_fraction, defBody sis_fraction, defScope sis_fraction, [], []⟩
def dneed_fraction : He.DefD := ⟨("need_fraction", none), "need_fraction", "need_fraction", defArgs sneed_fraction, defBody sneed_fraction, defScope sneed_fraction, [], []⟩
def dlowest : He.DefD := ⟨("lowest", none), "lowest", "lowest", defArgs slowest, defBody slowest, defScope slowest, [], []⟩
def dadded : He.DefD := ⟨("added", none), "added", "added", defArgs sadded, defBody sadded, defScope sadded, [], []⟩
def dtaken : He.DefD := ⟨("taken", none), "taken", "taken", defArgs staken, defBody staken, defScope staken, [], []⟩
def dbelow : He.DefD := ⟨("below", none), "below", "below", defArgs sbelow, defBody sbelow, defScope sbelow, [], []⟩
def dplus : He.DefD := ⟨("plus", none), "plus", "plus", defArgs splus, defBody splus, defScope splus, [], []⟩
def dminus : He.DefD := ⟨("minus", none), "minus", "minus", defArgs sminus, defBody sminus, defScope sminus, [], []⟩
def dtimes : He.DefD := ⟨("times", none), "times", "times", defArgs stimes, defBody stimes, defScope stimes, [], []⟩
def dby : He.DefD := ⟨("by", none), "by", "by", defArgs sby, defBody sby, defScope sby, [], []⟩
def dis_less : He.DefD := ⟨("is_less", none), "is_less", "is_less", defArgs sis_less, defBody sis_less, defScope sis_less, [], []⟩
def dfloor_of : He.DefD := ⟨("floor_of", none), "floor_of", "floor_of", defArgs sfloor_of, defBody sfloor_of, defScope sfloor_of, [], []⟩
def d_law_pot : He.DefD := ⟨("_law_pot", none), "_law_pot", "_law_pot", defArgs s_law_pot, defBody s_law_pot, defScope s_law_pot, [], []⟩
def d_law_take : He.DefD := ⟨("_law_take", none), "_law_take", "_law_take", defArgs s_law_take, defBody s_law_take, defScope s_law_take, [], []⟩
def d_law_great : He.DefD := ⟨("_law_great", none), "_law_great", "_law_great", defArgs s_law_great, defBody s_law_great, defScope s_law_great, [], []⟩
def d_law_lowest : He.DefD := ⟨("_law_lowest", none), "_law_lowest", "_law_lowest", defArgs s_law_lowest, defBody s_law_lowest, defScope s_law_lowest, [], []⟩
def d_law_fraction : He.DefD := ⟨("_law_fraction", none), "_law_fraction", "_law_fraction", defArgs s_law_fraction, defBody s_law_fraction, defScope s_law_fraction, [], []⟩
def d_law_whole : He.DefD := ⟨("_law_whole", none), "_law_whole", "_law_whole", defArgs s_law_whole, defBody s_law_whole, defScope s_law_whole, [], []⟩
def d_law_is_fraction : He.DefD := ⟨("_law_is_fraction", none), "_law_is_fraction", "_law_is_fraction", defArgs s_law_is_fraction, defBody s_law_is_fraction, defScope s_law_is_fraction, [], []⟩
def d_law_bent : He.DefD := ⟨("_law_bent", none), "_law_bent", "_law_bent", defArgs s_law_bent, defBody s_law_bent, defScope s_law_bent, [], []⟩
def d_law_told : He.DefD := ⟨("_law_told", none), "_law_told", "_law_told", defArgs s_law_told, defBody s_law_told, defScope s_law_told, [], []⟩
def d_law_met : He.DefD := ⟨("_law_met", none), "_law_met", "_law_met", defArgs s_law_met, defBody s_law_met, defScope s_law_met, [], []⟩
def d_law_due : He.DefD := ⟨("_law_due", none), "_law_due", "_law_due", defArgs s_law_due, defBody s_law_due, defScope s_law_due, [], []⟩
def dlaw : He.DefD := ⟨("law", none), "law", "law", defArgs slaw, defBody slaw, defScope slaw, [], []⟩
def fn : List He.DefD := [dis_whole, dis_fraction, dneed_fraction, dlowest, dadded, dtaken, dbelow, dplus, dminus, dtimes, dby, dis_less, dfloor_of, d_law_pot, d_law_take, d_law_great, d_law_lowest, d_law_fraction, d_law_whole, d_law_is_fraction, d_law_bent, d_law_told, d_law_met, d_law_due, dlaw]
def fa : List He.Fa := [.glo "is_whole", .glo "is_fraction", .glo "need_fraction", .glo "lowest", .glo "added", .glo "taken", .glo "below", .glo "plus", .glo "minus", .glo "times", .glo "by", .glo "is_less", .glo "floor_of", .glo "_law_pot", .glo "_law_take", .glo "_law_great", .glo "_law_lowest", .glo "_law_fraction", .glo "_law_whole", .glo "_law_is_fraction", .glo "_law_bent", .glo "_law_told", .glo "_law_met", .glo "_law_due", .glo "law", .glo "WhereError", .glo "NoFraction", .glo "NoSpell", .glo "NoSteps", .glo "LackError", .glo "NoMoment", .glo "NoNumber", .free "isinstance", .free "int", .free "bool", .free "tuple", .free "len", .free "abs", .free "list", .free "str", .free "ValueError", .free "range", .free "max", .free "min", .free "repr", .exc "NoFraction", .exm "NoFraction" "NoFraction" true]
def ex (K : PySem.W.Frag) : Bool := decide (PySem.W.nsIn K mainGlobals "gcd" = some (some (.builtin "math.gcd"))) && (decide (PySem.W.findIn K (.ref (He.ga K "NoFraction")) "__getattribute__" = some (some (.builtin "BaseException.__getattribute__"))) && (decide (PySem.W.findIn K (.ref (He.ga K "NoFraction")) "__getattr__" = some none) && (decide (PySem.W.hasDictIn K (He.ga K "NoFraction") = true) && (decide (PySem.W.findIn K (.ref (He.ga K "NoFraction")) "__class__" = some (some (.builtin "object.__class__"))) && (decide (PySem.W.specialIn K (.builtin "object.__class__") "__get__" = some (some (.builtin "getset_descriptor.__get__"))) && (decide (PySem.W.takesIn K (.builtin "object.__class__") = some true) && (decide (PySem.W.mroIn K (He.ga K "NoFraction") (.type "object") = some true) && (decide (PySem.W.kitOne K (.ref (He.ga K "NoFraction")) (.ref (He.ga K "WhereError")) = some true) && (decide (PySem.W.kitOne K (.ref (He.ga K "NoFraction")) (.type "ValueError") = some true) && (decide (PySem.W.kitAny K (.ref (He.ga K "NoFraction")) [.ref (He.ga K "LackError"), .ref (He.ga K "NoMoment"), .ref (He.ga K "NoNumber"), .ref (He.ga K "NoSpell"), .ref (He.ga K "NoSteps")] = some false)))))))))))
open MI
/-- what the written part says -/
structure Txt (K : PySem.W.Frag) (mg : Str → Option Value) : Prop where
  g_is_whole : mg "is_whole" = some (.ref (He.ga K "is_whole"))
  g_is_fraction : mg "is_fraction" = some (.ref (He.ga K "is_fraction"))
  g_need_fraction : mg "need_fraction" = some (.ref (He.ga K "need_fraction"))
  g_lowest : mg "lowest" = some (.ref (He.ga K "lowest"))
  g_added : mg "added" = some (.ref (He.ga K "added"))
  g_taken : mg "taken" = some (.ref (He.ga K "taken"))
  g_below : mg "below" = some (.ref (He.ga K "below"))
  g_plus : mg "plus" = some (.ref (He.ga K "plus"))
  g_minus : mg "minus" = some (.ref (He.ga K "minus"))
  g_times : mg "times" = some (.ref (He.ga K "times"))
  g_by : mg "by" = some (.ref (He.ga K "by"))
  g_is_less : mg "is_less" = some (.ref (He.ga K "is_less"))
  g_floor_of : mg "floor_of" = some (.ref (He.ga K "floor_of"))
  g__law_pot : mg "_law_pot" = some (.ref (He.ga K "_law_pot"))
  g__law_take : mg "_law_take" = some (.ref (He.ga K "_law_take"))
  g__law_great : mg "_law_great" = some (.ref (He.ga K "_law_great"))
  g__law_lowest : mg "_law_lowest" = some (.ref (He.ga K "_law_lowest"))
  g__law_fraction : mg "_law_fraction" = some (.ref (He.ga K "_law_fraction"))
  g__law_whole : mg "_law_whole" = some (.ref (He.ga K "_law_whole"))
  g__law_is_fraction : mg "_law_is_fraction" = some (.ref (He.ga K "_law_is_fraction"))
  g__law_bent : mg "_law_bent" = some (.ref (He.ga K "_law_bent"))
  g__law_told : mg "_law_told" = some (.ref (He.ga K "_law_told"))
  g__law_met : mg "_law_met" = some (.ref (He.ga K "_law_met"))
  g__law_due : mg "_law_due" = some (.ref (He.ga K "_law_due"))
  g_law : mg "law" = some (.ref (He.ga K "law"))
  g_WhereError : mg "WhereError" = some (.ref (He.ga K "WhereError"))
  g_NoFraction : mg "NoFraction" = some (.ref (He.ga K "NoFraction"))
  g_NoSpell : mg "NoSpell" = some (.ref (He.ga K "NoSpell"))
  g_NoSteps : mg "NoSteps" = some (.ref (He.ga K "NoSteps"))
  g_LackError : mg "LackError" = some (.ref (He.ga K "LackError"))
  g_NoMoment : mg "NoMoment" = some (.ref (He.ga K "NoMoment"))
  g_NoNumber : mg "NoNumber" = some (.ref (He.ga K "NoNumber"))
  z_isinstance : mg "isinstance" = none
  z_int : mg "int" = none
  z_bool : mg "bool" = none
  z_tuple : mg "tuple" = none
  z_len : mg "len" = none
  z_abs : mg "abs" = none
  z_list : mg "list" = none
  z_str : mg "str" = none
  z_ValueError : mg "ValueError" = none
  z_range : mg "range" = none
  z_max : mg "max" = none
  z_min : mg "min" = none
  z_repr : mg "repr" = none
  ex_NoFraction : PySem.W.excIn K (He.ga K "NoFraction") He.veBase "ValueError.__new__" = true
  kp_NoFraction : PySem.W.keepIn K (.ref (He.ga K "NoFraction")) = true
  sb_NoFraction : PySem.W.subIn K (.ref (He.ga K "NoFraction")) (.type "BaseException") = some true
  ty_NoFraction : PySem.W.typeIn K (.ref (He.ga K "NoFraction")) = some (.type "type")
  exm_NoFraction_NoFraction : PySem.W.exmOne K (.ref (He.ga K "NoFraction")) (.ref (He.ga K "NoFraction")) = some true
  F_is_whole : ∃ fd, FunD K "is_whole" "is_whole" (defArgs sis_whole) (defBody sis_whole) (defScope sis_whole) [] [] (He.ga K "is_whole") fd
  F_is_fraction : ∃ fd, FunD K "is_fraction" "is_fraction" (defArgs sis_fraction) (defBody sis_fraction) (defScope sis_fraction) [] [] (He.ga K "is_fraction") fd
  F_need_fraction : ∃ fd, FunD K "need_fraction" "need_fraction" (defArgs sneed_fraction) (defBody sneed_fraction) (defScope sneed_fraction) [] [] (He.ga K "need_fraction") fd
  F_lowest : ∃ fd, FunD K "lowest" "lowest" (defArgs slowest) (defBody slowest) (defScope slowest) [] [] (He.ga K "lowest") fd
  F_added : ∃ fd, FunD K "added" "added" (defArgs sadded) (defBody sadded) (defScope sadded) [] [] (He.ga K "added") fd
  F_taken : ∃ fd, FunD K "taken" "taken" (defArgs staken) (defBody staken) (defScope staken) [] [] (He.ga K "taken") fd
  F_below : ∃ fd, FunD K "below" "below" (defArgs sbelow) (defBody sbelow) (defScope sbelow) [] [] (He.ga K "below") fd
  F_plus : ∃ fd, FunD K "plus" "plus" (defArgs splus) (defBody splus) (defScope splus) [] [] (He.ga K "plus") fd
  F_minus : ∃ fd, FunD K "minus" "minus" (defArgs sminus) (defBody sminus) (defScope sminus) [] [] (He.ga K "minus") fd
  F_times : ∃ fd, FunD K "times" "times" (defArgs stimes) (defBody stimes) (defScope stimes) [] [] (He.ga K "times") fd
  F_by : ∃ fd, FunD K "by" "by" (defArgs sby) (defBody sby) (defScope sby) [] [] (He.ga K "by") fd
  F_is_less : ∃ fd, FunD K "is_less" "is_less" (defArgs sis_less) (defBody sis_less) (defScope sis_less) [] [] (He.ga K "is_less") fd
  F_floor_of : ∃ fd, FunD K "floor_of" "floor_of" (defArgs sfloor_of) (defBody sfloor_of) (defScope sfloor_of) [] [] (He.ga K "floor_of") fd
  F__law_pot : ∃ fd, FunD K "_law_pot" "_law_pot" (defArgs s_law_pot) (defBody s_law_pot) (defScope s_law_pot) [] [] (He.ga K "_law_pot") fd
  F__law_take : ∃ fd, FunD K "_law_take" "_law_take" (defArgs s_law_take) (defBody s_law_take) (defScope s_law_take) [] [] (He.ga K "_law_take") fd
  F__law_great : ∃ fd, FunD K "_law_great" "_law_great" (defArgs s_law_great) (defBody s_law_great) (defScope s_law_great) [] [] (He.ga K "_law_great") fd
  F__law_lowest : ∃ fd, FunD K "_law_lowest" "_law_lowest" (defArgs s_law_lowest) (defBody s_law_lowest) (defScope s_law_lowest) [] [] (He.ga K "_law_lowest") fd
  F__law_fraction : ∃ fd, FunD K "_law_fraction" "_law_fraction" (defArgs s_law_fraction) (defBody s_law_fraction) (defScope s_law_fraction) [] [] (He.ga K "_law_fraction") fd
  F__law_whole : ∃ fd, FunD K "_law_whole" "_law_whole" (defArgs s_law_whole) (defBody s_law_whole) (defScope s_law_whole) [] [] (He.ga K "_law_whole") fd
  F__law_is_fraction : ∃ fd, FunD K "_law_is_fraction" "_law_is_fraction" (defArgs s_law_is_fraction) (defBody s_law_is_fraction) (defScope s_law_is_fraction) [] [] (He.ga K "_law_is_fraction") fd
  F__law_bent : ∃ fd, FunD K "_law_bent" "_law_bent" (defArgs s_law_bent) (defBody s_law_bent) (defScope s_law_bent) [] [] (He.ga K "_law_bent") fd
  F__law_told : ∃ fd, FunD K "_law_told" "_law_told" (defArgs s_law_told) (defBody s_law_told) (defScope s_law_told) [] [] (He.ga K "_law_told") fd
  F__law_met : ∃ fd, FunD K "_law_met" "_law_met" (defArgs s_law_met) (defBody s_law_met) (defScope s_law_met) [] [] (He.ga K "_law_met") fd
  F__law_due : ∃ fd, FunD K "_law_due" "_law_due" (defArgs s_law_due) (defBody s_law_due) (defScope s_law_due) [] [] (He.ga K "_law_due") fd
  F_law : ∃ fd, FunD K "law" "law" (defArgs slaw) (defBody slaw) (defScope slaw) [] [] (He.ga K "law") fd
  gcd : mg "gcd" = some (.builtin "math.gcd")
  excC : ExcC K (He.ga K "NoFraction")
  kWhere : PySem.W.kitOne K (.ref (He.ga K "NoFraction")) (.ref (He.ga K "WhereError")) = some true
  kValue : PySem.W.kitOne K (.ref (He.ga K "NoFraction")) (.type "ValueError") = some true
  kMany : PySem.W.kitAny K (.ref (He.ga K "NoFraction")) [.ref (He.ga K "LackError"), .ref (He.ga K "NoMoment"), .ref (He.ga K "NoNumber"), .ref (He.ga K "NoSpell"), .ref (He.ga K "NoSteps")] = some false
theorem txt_of {K : PySem.W.Frag} {mg : Str → Option Value} {h : Heap} (X : K.In h) (G : h.Ns mainGlobals mg) (c : He.SaysD fa fn K) (m : ex K = true) : Txt K mg := by
  have m' := m
  unfold ex at m'
  simp only [Bool.and_eq_true, decide_eq_true_eq] at m'
  obtain ⟨e0, e1, e2, e3, e4, e5, e6, e7, e8, e9, e10⟩ := m'
  exact ⟨He.glo_ok X G (c.fact 0 (f := .glo "is_whole") rfl),
    He.glo_ok X G (c.fact 1 (f := .glo "is_fraction") rfl),
    He.glo_ok X G (c.fact 2 (f := .glo "need_fraction") rfl),
    He.glo_ok X G (c.fact 3 (f := .glo "lowest") rfl),
    He.glo_ok X G (c.fact 4 (f := .glo "added") rfl),
    He.glo_ok X G (c.fact 5 (f := .glo "taken") rfl),
    He.glo_ok X G (c.fact 6 (f := .glo "below") rfl),
    He.glo_ok X G (c.fact 7 (f := .glo "plus") rfl),
    He.glo_ok X G (c.fact 8 (f := .glo "minus") rfl),
    He.glo_ok X G (c.fact 9 (f := .glo "times") rfl),
    He.glo_ok X G (c.fact 10 (f := .glo "by") rfl),
    He.glo_ok X G (c.fact 11 (f := .glo "is_less") rfl),
    He.glo_ok X G (c.fact 12 (f := .glo "floor_of") rfl),
    He.glo_ok X G (c.fact 13 (f := .glo "_law_pot") rfl),
    He.glo_ok X G (c.fact 14 (f := .glo "_law_take") rfl),
    He.glo_ok X G (c.fact 15 (f := .glo "_law_great") rfl),
    He.glo_ok X G (c.fact 16 (f := .glo "_law_lowest") rfl),
    He.glo_ok X G (c.fact 17 (f := .glo "_law_fraction") rfl),
    He.glo_ok X G (c.fact 18 (f := .glo "_law_whole") rfl),
    He.glo_ok X G (c.fact 19 (f := .glo "_law_is_fraction") rfl),
    He.glo_ok X G (c.fact 20 (f := .glo "_law_bent") rfl),
    He.glo_ok X G (c.fact 21 (f := .glo "_law_told") rfl),
    He.glo_ok X G (c.fact 22 (f := .glo "_law_met") rfl),
    He.glo_ok X G (c.fact 23 (f := .glo "_law_due") rfl),
    He.glo_ok X G (c.fact 24 (f := .glo "law") rfl),
    He.glo_ok X G (c.fact 25 (f := .glo "WhereError") rfl),
    He.glo_ok X G (c.fact 26 (f := .glo "NoFraction") rfl),
    He.glo_ok X G (c.fact 27 (f := .glo "NoSpell") rfl),
    He.glo_ok X G (c.fact 28 (f := .glo "NoSteps") rfl),
    He.glo_ok X G (c.fact 29 (f := .glo "LackError") rfl),
    He.glo_ok X G (c.fact 30 (f := .glo "NoMoment") rfl),
    He.glo_ok X G (c.fact 31 (f := .glo "NoNumber") rfl),
    He.free_ok X G (c.fact 32 (f := .free "isinstance") rfl),
    He.free_ok X G (c.fact 33 (f := .free "int") rfl),
    He.free_ok X G (c.fact 34 (f := .free "bool") rfl),
    He.free_ok X G (c.fact 35 (f := .free "tuple") rfl),
    He.free_ok X G (c.fact 36 (f := .free "len") rfl),
    He.free_ok X G (c.fact 37 (f := .free "abs") rfl),
    He.free_ok X G (c.fact 38 (f := .free "list") rfl),
    He.free_ok X G (c.fact 39 (f := .free "str") rfl),
    He.free_ok X G (c.fact 40 (f := .free "ValueError") rfl),
    He.free_ok X G (c.fact 41 (f := .free "range") rfl),
    He.free_ok X G (c.fact 42 (f := .free "max") rfl),
    He.free_ok X G (c.fact 43 (f := .free "min") rfl),
    He.free_ok X G (c.fact 44 (f := .free "repr") rfl),
    (He.exc_ok (c.fact 45 (f := .exc "NoFraction") rfl)).1,
    (He.exc_ok (c.fact 45 (f := .exc "NoFraction") rfl)).2.1,
    (He.exc_ok (c.fact 45 (f := .exc "NoFraction") rfl)).2.2.1,
    (He.exc_ok (c.fact 45 (f := .exc "NoFraction") rfl)).2.2.2,
    He.exm_ok (c.fact 46 (f := .exm "NoFraction" "NoFraction" true) rfl),
    c.def_ 0 (d := dis_whole) rfl,
    c.def_ 1 (d := dis_fraction) rfl,
    c.def_ 2 (d := dneed_fraction) rfl,
    c.def_ 3 (d := dlowest) rfl,
    c.def_ 4 (d := dadded) rfl,
    c.def_ 5 (d := dtaken) rfl,
    c.def_ 6 (d := dbelow) rfl,
    c.def_ 7 (d := dplus) rfl,
    c.def_ 8 (d := dminus) rfl,
    c.def_ 9 (d := dtimes) rfl,
    c.def_ 10 (d := dby) rfl,
    c.def_ 11 (d := dis_less) rfl,
    c.def_ 12 (d := dfloor_of) rfl,
    c.def_ 13 (d := d_law_pot) rfl,
    c.def_ 14 (d := d_law_take) rfl,
    c.def_ 15 (d := d_law_great) rfl,
    c.def_ 16 (d := d_law_lowest) rfl,
    c.def_ 17 (d := d_law_fraction) rfl,
    c.def_ 18 (d := d_law_whole) rfl,
    c.def_ 19 (d := d_law_is_fraction) rfl,
    c.def_ 20 (d := d_law_bent) rfl,
    c.def_ 21 (d := d_law_told) rfl,
    c.def_ 22 (d := d_law_met) rfl,
    c.def_ 23 (d := d_law_due) rfl,
    c.def_ 24 (d := dlaw) rfl,
    PySem.W.mg_of X G e0,
    ⟨e1, e2, (He.exc_ok (c.fact 45 (f := .exc "NoFraction") rfl)).2.2.1, e3, e4, e5, e6, e7⟩,
    e8,
    e9,
    e10⟩
end K03
end

section
set_option Elab.async false
set_option linter.all false
set_option autoImplicit false
set_option maxRecDepth 100000
set_option maxHeartbeats 4000000
open PySem PySem.Spec PyProof.Rows L2
namespace K03
open MI
noncomputable section
variable {P : Program} {w : World} {K : PySem.W.Frag} {mg : Str → Option Value} {base : Heap}
/-! is_whole -/
theorem scis_whole : FnScope ["thing"] ["thing"] (defScope sis_whole) := ⟨rfl, rfl, rfl, by decide +kernel, rfl, by decide +kernel, by decide +kernel⟩
def bis_whole : Ss := sSeq (sRet (eAnd (eIsi "int" (eV 0)) (eNot (eIsi "bool" (eV 0))))) (sEnd)
def fis_whole : Sf := ofBody 1 0 bis_whole
theorem gis_whole (T : Txt K mg) : Good P w K mg base 1 "is_whole" ["thing"] fis_whole := by
  obtain ⟨fd, F⟩ := T.F_is_whole
  have bn : Binds K fd ["thing"] [] := F.bindsN fun _ _ _ _ _ _ us hl => match us, hl with | [_], _ => rfl
  refine ⟨_, fd, T.g_is_whole, funD_G (k := 0) F scis_whole fun cdv A outer s H E hr wh => ?_, F.kp, bn⟩
  exact m_seq (m_ret (m_andV (m_isi (T := "int") T.z_isinstance T.z_int (by decide +kernel) (m_var 0)) (m_one (m_notV (m_isi (T := "bool") T.z_isinstance T.z_bool (by decide +kernel) (m_var 0)))))) (m_end)
/-! is_fraction -/
theorem scis_fraction : FnScope ["thing", "over", "under"] ["thing"] (defScope sis_fraction) := ⟨rfl, rfl, rfl, by decide +kernel, rfl, by decide +kernel, by decide +kernel⟩
def bis_fraction : Ss := sSeq (sIf (bOr (bNot (bOf (eIsi "tuple" (eV 0)))) (bOf (eOp (dEqs true) (eBi gLen (aCons (eV 0) (aNil))) (eK (.int 2))))) (sSeq (sRet (eK (.bl false))) (sEnd)) (sEnd)) (sSeq (sAsg (eV 0) (tgT [1, 2])) (sSeq (sRet (eAnd (eCall 1 fis_whole (aCons (eV 1) (aNil))) (eAnd (eCall 1 fis_whole (aCons (eV 2) (aNil))) (eAnd (eOp dGe (eV 2) (eK (.int 1))) (eOp (dEqs false) (eBi gGcd (aCons (eV 1) (aCons (eV 2) (aNil)))) (eK (.int 1))))))) (sEnd)))
def fis_fraction : Sf := ofBody 1 2 bis_fraction
theorem gis_fraction (T : Txt K mg) : Good P w K mg base 2 "is_fraction" ["thing"] fis_fraction := by
  obtain ⟨fd, F⟩ := T.F_is_fraction
  have bn : Binds K fd ["thing"] [] := F.bindsN fun _ _ _ _ _ _ us hl => match us, hl with | [_], _ => rfl
  have Gis_whole := gis_whole (P := P) (w := w) (base := base) T
  refine ⟨_, fd, T.g_is_fraction, funD_G (k := 1) F scis_fraction fun cdv A outer s H E hr wh => ?_, F.kp, bn⟩
  exact m_seq (m_ifs (m_w (m_or (m_not (m_test (m_isi (T := "tuple") T.z_isinstance T.z_tuple (by decide +kernel) (m_var 0)))) (m_or1 (m_ne hr.units (m_len T.z_len (m_cons (m_var 0) (m_nil))) (m_int))))) (m_seq (m_ret (m_bl)) (m_end)) (m_end)) (m_seq (m_asg (m_var 0) (m_tgT wh.calm (m_gcons 1 wh.nd (m_gcons 2 wh.nd (m_gnil))))) (m_seq (m_ret (m_andV (m_callG Gis_whole wh hr (by omega) (m_cons (m_var 1) (m_nil))) (m_andV (m_callG Gis_whole wh hr (by omega) (m_cons (m_var 2) (m_nil))) (m_andV (m_geV (m_var 2) (m_int)) (m_one (m_eqV hr.units (m_gcd T.gcd (m_cons (m_var 1) (m_cons (m_var 2) (m_nil)))) (m_int))))))) (m_end)))
/-! need_fraction -/
theorem scneed_fraction : FnScope ["thing"] ["thing"] (defScope sneed_fraction) := ⟨rfl, rfl, rfl, by decide +kernel, rfl, by decide +kernel, by decide +kernel⟩
def bneed_fraction : Ss := sSeq (sIf (bNot (bOf (eCall 1 fis_fraction (aCons (eV 0) (aNil))))) (sSeq (sRaise "NoFraction") (sEnd)) (sEnd)) (sEnd)
def fneed_fraction : Sf := ofBody 1 0 bneed_fraction
theorem gneed_fraction (T : Txt K mg) : Good P w K mg base 3 "need_fraction" ["thing"] fneed_fraction := by
  obtain ⟨fd, F⟩ := T.F_need_fraction
  have bn : Binds K fd ["thing"] [] := F.bindsN fun _ _ _ _ _ _ us hl => match us, hl with | [_], _ => rfl
  have Gis_fraction := gis_fraction (P := P) (w := w) (base := base) T
  refine ⟨_, fd, T.g_need_fraction, funD_G (k := 2) F scneed_fraction fun cdv A outer s H E hr wh => ?_, F.kp, bn⟩
  exact m_seq (m_ifs (m_not (m_test (m_callG Gis_fraction wh hr (by omega) (m_cons (m_var 0) (m_nil))))) (m_seq (m_raise wh PySem.F.excBase_ValueError T.ex_NoFraction T.g_NoFraction T.kp_NoFraction (raises_own T.sb_NoFraction T.ty_NoFraction)) (m_end)) (m_end)) (m_end)
/-! lowest -/
theorem sclowest : FnScope ["over", "under", "common"] ["over", "under"] (defScope slowest) := ⟨rfl, rfl, rfl, by decide +kernel, rfl, by decide +kernel, by decide +kernel⟩
def blowest : Ss := sSeq (sIf (bOf (eOp dLt (eV 1) (eK (.int 0)))) (sSeq (sPar 0 1 (aCons (eUn dNeg (eV 0)) (aCons (eUn dNeg (eV 1)) (aNil)))) (sEnd)) (sEnd)) (sSeq (sAsg (eBi gGcd (aCons (eV 0) (aCons (eV 1) (aNil)))) (tgN 2)) (sSeq (sRet (eTup (aCons (eOp dDiv (eV 0) (eV 2)) (aCons (eOp dDiv (eV 1) (eV 2)) (aNil))))) (sEnd)))
def flowest : Sf := ofBody 2 1 blowest
theorem glowest (T : Txt K mg) : Good P w K mg base 1 "lowest" ["over", "under"] flowest := by
  obtain ⟨fd, F⟩ := T.F_lowest
  have bn : Binds K fd ["over", "under"] [] := F.bindsN fun _ _ _ _ _ _ us hl => match us, hl with | [_, _], _ => rfl
  refine ⟨_, fd, T.g_lowest, funD_G (k := 0) F sclowest fun cdv A outer s H E hr wh => ?_, F.kp, bn⟩
  exact m_seq (m_ifs (m_lt (m_var 1) (m_int)) (m_seq (m_par 0 1 wh (m_cons (m_neg (m_var 0)) (m_cons (m_neg (m_var 1)) (m_nil)))) (m_end)) (m_end)) (m_seq (m_set 2 wh.nd (m_gcd T.gcd (m_cons (m_var 0) (m_cons (m_var 1) (m_nil))))) (m_seq (m_ret (m_tup (m_cons (m_fdiv (m_var 0) (m_var 2)) (m_cons (m_fdiv (m_var 1) (m_var 2)) (m_nil))))) (m_end)))
/-! added -/
theorem scadded : FnScope ["one", "other"] ["one", "other"] (defScope sadded) := ⟨rfl, rfl, rfl, by decide +kernel, rfl, by decide +kernel, by decide +kernel⟩
def badded : Ss := sSeq (sRet (eCall 2 flowest (aCons (eOp dAdd (eOp dMul (eOp dIx (eV 0) (eK (.int 0))) (eOp dIx (eV 1) (eK (.int 1)))) (eOp dMul (eOp dIx (eV 1) (eK (.int 0))) (eOp dIx (eV 0) (eK (.int 1))))) (aCons (eOp dMul (eOp dIx (eV 0) (eK (.int 1))) (eOp dIx (eV 1) (eK (.int 1)))) (aNil))))) (sEnd)
def fadded : Sf := ofBody 2 0 badded
theorem gadded (T : Txt K mg) : Good P w K mg base 2 "added" ["one", "other"] fadded := by
  obtain ⟨fd, F⟩ := T.F_added
  have bn : Binds K fd ["one", "other"] [] := F.bindsN fun _ _ _ _ _ _ us hl => match us, hl with | [_, _], _ => rfl
  have Glowest := glowest (P := P) (w := w) (base := base) T
  refine ⟨_, fd, T.g_added, funD_G (k := 1) F scadded fun cdv A outer s H E hr wh => ?_, F.kp, bn⟩
  exact m_seq (m_ret (m_callG Glowest wh hr (by omega) (m_cons (m_add (m_mul (m_ix (m_var 0) (m_int)) (m_ix (m_var 1) (m_int))) (m_mul (m_ix (m_var 1) (m_int)) (m_ix (m_var 0) (m_int)))) (m_cons (m_mul (m_ix (m_var 0) (m_int)) (m_ix (m_var 1) (m_int))) (m_nil))))) (m_end)
/-! taken -/
theorem sctaken : FnScope ["one", "other"] ["one", "other"] (defScope staken) := ⟨rfl, rfl, rfl, by decide +kernel, rfl, by decide +kernel, by decide +kernel⟩
def btaken : Ss := sSeq (sRet (eCall 2 flowest (aCons (eOp dSub (eOp dMul (eOp dIx (eV 0) (eK (.int 0))) (eOp dIx (eV 1) (eK (.int 1)))) (eOp dMul (eOp dIx (eV 1) (eK (.int 0))) (eOp dIx (eV 0) (eK (.int 1))))) (aCons (eOp dMul (eOp dIx (eV 0) (eK (.int 1))) (eOp dIx (eV 1) (eK (.int 1)))) (aNil))))) (sEnd)
def ftaken : Sf := ofBody 2 0 btaken
theorem gtaken (T : Txt K mg) : Good P w K mg base 2 "taken" ["one", "other"] ftaken := by
  obtain ⟨fd, F⟩ := T.F_taken
  have bn : Binds K fd ["one", "other"] [] := F.bindsN fun _ _ _ _ _ _ us hl => match us, hl with | [_, _], _ => rfl
  have Glowest := glowest (P := P) (w := w) (base := base) T
  refine ⟨_, fd, T.g_taken, funD_G (k := 1) F sctaken fun cdv A outer s H E hr wh => ?_, F.kp, bn⟩
  exact m_seq (m_ret (m_callG Glowest wh hr (by omega) (m_cons (m_sub (m_mul (m_ix (m_var 0) (m_int)) (m_ix (m_var 1) (m_int))) (m_mul (m_ix (m_var 1) (m_int)) (m_ix (m_var 0) (m_int)))) (m_cons (m_mul (m_ix (m_var 0) (m_int)) (m_ix (m_var 1) (m_int))) (m_nil))))) (m_end)
/-! below -/
theorem scbelow : FnScope ["one", "other"] ["one", "other"] (defScope sbelow) := ⟨rfl, rfl, rfl, by decide +kernel, rfl, by decide +kernel, by decide +kernel⟩
def bbelow : Ss := sSeq (sRet (eOp dLt (eOp dMul (eOp dIx (eV 0) (eK (.int 0))) (eOp dIx (eV 1) (eK (.int 1)))) (eOp dMul (eOp dIx (eV 1) (eK (.int 0))) (eOp dIx (eV 0) (eK (.int 1)))))) (sEnd)
def fbelow : Sf := ofBody 2 0 bbelow
theorem gbelow (T : Txt K mg) : Good P w K mg base 1 "below" ["one", "other"] fbelow := by
  obtain ⟨fd, F⟩ := T.F_below
  have bn : Binds K fd ["one", "other"] [] := F.bindsN fun _ _ _ _ _ _ us hl => match us, hl with | [_, _], _ => rfl
  refine ⟨_, fd, T.g_below, funD_G (k := 0) F scbelow fun cdv A outer s H E hr wh => ?_, F.kp, bn⟩
  exact m_seq (m_ret (m_ltV (m_mul (m_ix (m_var 0) (m_int)) (m_ix (m_var 1) (m_int))) (m_mul (m_ix (m_var 1) (m_int)) (m_ix (m_var 0) (m_int))))) (m_end)
/-! plus -/
theorem scplus : FnScope ["one", "other"] ["one", "other"] (defScope splus) := ⟨rfl, rfl, rfl, by decide +kernel, rfl, by decide +kernel, by decide +kernel⟩
def bplus : Ss := sSeq (sExpr (eCall 1 fneed_fraction (aCons (eV 0) (aNil)))) (sSeq (sExpr (eCall 1 fneed_fraction (aCons (eV 1) (aNil)))) (sSeq (sRet (eCall 2 fadded (aCons (eV 0) (aCons (eV 1) (aNil))))) (sEnd)))
def fplus : Sf := ofBody 2 0 bplus
theorem gplus (T : Txt K mg) : Good P w K mg base 4 "plus" ["one", "other"] fplus := by
  obtain ⟨fd, F⟩ := T.F_plus
  have bn : Binds K fd ["one", "other"] [] := F.bindsN fun _ _ _ _ _ _ us hl => match us, hl with | [_, _], _ => rfl
  have Gadded := gadded (P := P) (w := w) (base := base) T
  have Gneed_fraction := gneed_fraction (P := P) (w := w) (base := base) T
  refine ⟨_, fd, T.g_plus, funD_G (k := 3) F scplus fun cdv A outer s H E hr wh => ?_, F.kp, bn⟩
  exact m_seq (m_expr (m_callG Gneed_fraction wh hr (by omega) (m_cons (m_var 0) (m_nil)))) (m_seq (m_expr (m_callG Gneed_fraction wh hr (by omega) (m_cons (m_var 1) (m_nil)))) (m_seq (m_ret (m_callG Gadded wh hr (by omega) (m_cons (m_var 0) (m_cons (m_var 1) (m_nil))))) (m_end)))
/-! minus -/
theorem scminus : FnScope ["one", "other"] ["one", "other"] (defScope sminus) := ⟨rfl, rfl, rfl, by decide +kernel, rfl, by decide +kernel, by decide +kernel⟩
def bminus : Ss := sSeq (sExpr (eCall 1 fneed_fraction (aCons (eV 0) (aNil)))) (sSeq (sExpr (eCall 1 fneed_fraction (aCons (eV 1) (aNil)))) (sSeq (sRet (eCall 2 ftaken (aCons (eV 0) (aCons (eV 1) (aNil))))) (sEnd)))
def fminus : Sf := ofBody 2 0 bminus
theorem gminus (T : Txt K mg) : Good P w K mg base 4 "minus" ["one", "other"] fminus := by
  obtain ⟨fd, F⟩ := T.F_minus
  have bn : Binds K fd ["one", "other"] [] := F.bindsN fun _ _ _ _ _ _ us hl => match us, hl with | [_, _], _ => rfl
  have Gneed_fraction := gneed_fraction (P := P) (w := w) (base := base) T
  have Gtaken := gtaken (P := P) (w := w) (base := base) T
  refine ⟨_, fd, T.g_minus, funD_G (k := 3) F scminus fun cdv A outer s H E hr wh => ?_, F.kp, bn⟩
  exact m_seq (m_expr (m_callG Gneed_fraction wh hr (by omega) (m_cons (m_var 0) (m_nil)))) (m_seq (m_expr (m_callG Gneed_fraction wh hr (by omega) (m_cons (m_var 1) (m_nil)))) (m_seq (m_ret (m_callG Gtaken wh hr (by omega) (m_cons (m_var 0) (m_cons (m_var 1) (m_nil))))) (m_end)))
/-! times -/
theorem sctimes : FnScope ["one", "other"] ["one", "other"] (defScope stimes) := ⟨rfl, rfl, rfl, by decide +kernel, rfl, by decide +kernel, by decide +kernel⟩
def btimes : Ss := sSeq (sExpr (eCall 1 fneed_fraction (aCons (eV 0) (aNil)))) (sSeq (sExpr (eCall 1 fneed_fraction (aCons (eV 1) (aNil)))) (sSeq (sRet (eCall 2 flowest (aCons (eOp dMul (eOp dIx (eV 0) (eK (.int 0))) (eOp dIx (eV 1) (eK (.int 0)))) (aCons (eOp dMul (eOp dIx (eV 0) (eK (.int 1))) (eOp dIx (eV 1) (eK (.int 1)))) (aNil))))) (sEnd)))
def ftimes : Sf := ofBody 2 0 btimes
theorem gtimes (T : Txt K mg) : Good P w K mg base 4 "times" ["one", "other"] ftimes := by
  obtain ⟨fd, F⟩ := T.F_times
  have bn : Binds K fd ["one", "other"] [] := F.bindsN fun _ _ _ _ _ _ us hl => match us, hl with | [_, _], _ => rfl
  have Glowest := glowest (P := P) (w := w) (base := base) T
  have Gneed_fraction := gneed_fraction (P := P) (w := w) (base := base) T
  refine ⟨_, fd, T.g_times, funD_G (k := 3) F sctimes fun cdv A outer s H E hr wh => ?_, F.kp, bn⟩
  exact m_seq (m_expr (m_callG Gneed_fraction wh hr (by omega) (m_cons (m_var 0) (m_nil)))) (m_seq (m_expr (m_callG Gneed_fraction wh hr (by omega) (m_cons (m_var 1) (m_nil)))) (m_seq (m_ret (m_callG Glowest wh hr (by omega) (m_cons (m_mul (m_ix (m_var 0) (m_int)) (m_ix (m_var 1) (m_int))) (m_cons (m_mul (m_ix (m_var 0) (m_int)) (m_ix (m_var 1) (m_int))) (m_nil))))) (m_end)))
/-! by -/
theorem scby : FnScope ["one", "other"] ["one", "other"] (defScope sby) := ⟨rfl, rfl, rfl, by decide +kernel, rfl, by decide +kernel, by decide +kernel⟩
def bby : Ss := sSeq (sExpr (eCall 1 fneed_fraction (aCons (eV 0) (aNil)))) (sSeq (sExpr (eCall 1 fneed_fraction (aCons (eV 1) (aNil)))) (sSeq (sIf (bOf (eOp (dEqs false) (eOp dIx (eV 1) (eK (.int 0))) (eK (.int 0)))) (sSeq (sRaise "NoFraction") (sEnd)) (sEnd)) (sSeq (sRet (eCall 2 flowest (aCons (eOp dMul (eOp dIx (eV 0) (eK (.int 0))) (eOp dIx (eV 1) (eK (.int 1)))) (aCons (eOp dMul (eOp dIx (eV 0) (eK (.int 1))) (eOp dIx (eV 1) (eK (.int 0)))) (aNil))))) (sEnd))))
def fby : Sf := ofBody 2 0 bby
theorem gby (T : Txt K mg) : Good P w K mg base 4 "by" ["one", "other"] fby := by
  obtain ⟨fd, F⟩ := T.F_by
  have bn : Binds K fd ["one", "other"] [] := F.bindsN fun _ _ _ _ _ _ us hl => match us, hl with | [_, _], _ => rfl
  have Glowest := glowest (P := P) (w := w) (base := base) T
  have Gneed_fraction := gneed_fraction (P := P) (w := w) (base := base) T
  refine ⟨_, fd, T.g_by, funD_G (k := 3) F scby fun cdv A outer s H E hr wh => ?_, F.kp, bn⟩
  exact m_seq (m_expr (m_callG Gneed_fraction wh hr (by omega) (m_cons (m_var 0) (m_nil)))) (m_seq (m_expr (m_callG Gneed_fraction wh hr (by omega) (m_cons (m_var 1) (m_nil)))) (m_seq (m_ifs (m_eq hr.units (m_ix (m_var 1) (m_int)) (m_int)) (m_seq (m_raise wh PySem.F.excBase_ValueError T.ex_NoFraction T.g_NoFraction T.kp_NoFraction (raises_own T.sb_NoFraction T.ty_NoFraction)) (m_end)) (m_end)) (m_seq (m_ret (m_callG Glowest wh hr (by omega) (m_cons (m_mul (m_ix (m_var 0) (m_int)) (m_ix (m_var 1) (m_int))) (m_cons (m_mul (m_ix (m_var 0) (m_int)) (m_ix (m_var 1) (m_int))) (m_nil))))) (m_end))))
/-! is_less -/
theorem scis_less : FnScope ["one", "other"] ["one", "other"] (defScope sis_less) := ⟨rfl, rfl, rfl, by decide +kernel, rfl, by decide +kernel, by decide +kernel⟩
def bis_less : Ss := sSeq (sExpr (eCall 1 fneed_fraction (aCons (eV 0) (aNil)))) (sSeq (sRet (eAnd (eCall 1 fis_fraction (aCons (eV 1) (aNil))) (eCall 2 fbelow (aCons (eV 0) (aCons (eV 1) (aNil)))))) (sEnd))
def fis_less : Sf := ofBody 2 0 bis_less
theorem gis_less (T : Txt K mg) : Good P w K mg base 4 "is_less" ["one", "other"] fis_less := by
  obtain ⟨fd, F⟩ := T.F_is_less
  have bn : Binds K fd ["one", "other"] [] := F.bindsN fun _ _ _ _ _ _ us hl => match us, hl with | [_, _], _ => rfl
  have Gbelow := gbelow (P := P) (w := w) (base := base) T
  have Gis_fraction := gis_fraction (P := P) (w := w) (base := base) T
  have Gneed_fraction := gneed_fraction (P := P) (w := w) (base := base) T
  refine ⟨_, fd, T.g_is_less, funD_G (k := 3) F scis_less fun cdv A outer s H E hr wh => ?_, F.kp, bn⟩
  exact m_seq (m_expr (m_callG Gneed_fraction wh hr (by omega) (m_cons (m_var 0) (m_nil)))) (m_seq (m_ret (m_andV (m_callG Gis_fraction wh hr (by omega) (m_cons (m_var 1) (m_nil))) (m_one (m_callG Gbelow wh hr (by omega) (m_cons (m_var 0) (m_cons (m_var 1) (m_nil))))))) (m_end))
/-! floor_of -/
theorem scfloor_of : FnScope ["one"] ["one"] (defScope sfloor_of) := ⟨rfl, rfl, rfl, by decide +kernel, rfl, by decide +kernel, by decide +kernel⟩
def bfloor_of : Ss := sSeq (sExpr (eCall 1 fneed_fraction (aCons (eV 0) (aNil)))) (sSeq (sRet (eOp dDiv (eOp dIx (eV 0) (eK (.int 0))) (eOp dIx (eV 0) (eK (.int 1))))) (sEnd))
def ffloor_of : Sf := ofBody 1 0 bfloor_of
theorem gfloor_of (T : Txt K mg) : Good P w K mg base 4 "floor_of" ["one"] ffloor_of := by
  obtain ⟨fd, F⟩ := T.F_floor_of
  have bn : Binds K fd ["one"] [] := F.bindsN fun _ _ _ _ _ _ us hl => match us, hl with | [_], _ => rfl
  have Gneed_fraction := gneed_fraction (P := P) (w := w) (base := base) T
  refine ⟨_, fd, T.g_floor_of, funD_G (k := 3) F scfloor_of fun cdv A outer s H E hr wh => ?_, F.kp, bn⟩
  exact m_seq (m_expr (m_callG Gneed_fraction wh hr (by omega) (m_cons (m_var 0) (m_nil)))) (m_seq (m_ret (m_fdiv (m_ix (m_var 0) (m_int)) (m_ix (m_var 0) (m_int)))) (m_end))
/-! _law_pot -/
theorem sc_law_pot : FnScope ["script", "k", "cell"] ["script", "k"] (defScope s_law_pot) := ⟨rfl, rfl, rfl, by decide +kernel, rfl, by decide +kernel, by decide +kernel⟩
def b_law_pot : Ss := sSeq (sAsg (eK (.int 0)) (tgN 2)) (sSeq (sIf (bOf (eOp dLt (eV 1) (eBi gLen (aCons (eV 0) (aNil))))) (sSeq (sAsg (eOp dMod (eBi gAbs (aCons (eOp dIx (eV 0) (eV 1)) (aNil))) (eOp dPow (eOp dPow (eK (.int 10)) (eK (.int 60))) (eK (.int 10)))) (tgN 2)) (sEnd)) (sEnd)) (sSeq (sRet (eLst (aCons (eOp dMul (eV 2) (eBi gInt (aCons (eOp dGe (eV 2) (eOp dPow (eK (.int 10)) (eK (.int 18)))) (aNil)))) (aCons (eOp dMod (eOp dPow (eOp dAdd (eOp dAdd (eOp dMod (eV 2) (eK (.int 2147483629))) (eOp dMul (eK (.int 7919)) (eV 1))) (eK (.int 1))) (eK (.int 5))) (eK (.int 2305843009213693951))) (aCons (eK (.int 0)) (aNil)))))) (sEnd)))
def f_law_pot : Sf := ofBody 2 1 b_law_pot
theorem g_law_pot (T : Txt K mg) : Good P w K mg base 1 "_law_pot" ["script", "k"] f_law_pot := by
  obtain ⟨fd, F⟩ := T.F__law_pot
  have bn : Binds K fd ["script", "k"] [] := F.bindsN fun _ _ _ _ _ _ us hl => match us, hl with | [_, _], _ => rfl
  refine ⟨_, fd, T.g__law_pot, funD_G (k := 0) F sc_law_pot fun cdv A outer s H E hr wh => ?_, F.kp, bn⟩
  exact m_seq (m_set 2 wh.nd (m_int)) (m_seq (m_ifs (m_lt (m_var 1) (m_len T.z_len (m_cons (m_var 0) (m_nil)))) (m_seq (m_set 2 wh.nd (m_mod (m_abs T.z_abs (m_cons (m_ix (m_var 0) (m_var 1)) (m_nil))) (m_pow (m_pow (m_int) (m_int)) (m_int)))) (m_end)) (m_end)) (m_seq (m_ret (m_lst (m_cons (m_mul (m_var 2) (m_intc T.z_int (m_cons (m_geV (m_var 2) (m_pow (m_int) (m_int))) (m_nil)))) (m_cons (m_mod (m_pow (m_add (m_add (m_mod (m_var 2) (m_int)) (m_mul (m_int) (m_var 1))) (m_int)) (m_int)) (m_int)) (m_cons (m_int) (m_nil)))))) (m_end)))
/-! _law_take -/
theorem sc_law_take : FnScope ["pot", "many", "found", "one", "other"] ["pot", "many"] (defScope s_law_take) := ⟨rfl, rfl, rfl, by decide +kernel, rfl, by decide +kernel, by decide +kernel⟩
def b_law_take : Ss := sSeq (sIf (bOf (eOp dGt (eOp dIx (eV 0) (eK (.int 0))) (eK (.int 0)))) (sSeq (sAsg (eOp dMod (eOp dIx (eV 0) (eK (.int 0))) (eV 1)) (tgN 2)) (sSeq (sPut (eOp dDiv (eOp dIx (eV 0) (eK (.int 0))) (eV 1)) (eV 0) (eK (.int 0))) (sSeq (sRet (eV 2)) (sEnd)))) (sEnd)) (sSeq (sPut (eOp dAdd (eOp dIx (eV 0) (eK (.int 2))) (eK (.int 1))) (eV 0) (eK (.int 2))) (sSeq (sAsg (eOp dMod (eOp dPow (eOp dAdd (eOp dIx (eV 0) (eK (.int 1))) (eOp dMul (eK (.int 104729)) (eOp dIx (eV 0) (eK (.int 2))))) (eK (.int 3))) (eK (.int 2305843009213693921))) (tgN 3)) (sSeq (sAsg (eOp dMod (eOp dPow (eOp dAdd (eOp dAdd (eV 3) (eOp dMod (eOp dIx (eV 0) (eK (.int 1))) (eK (.int 65537)))) (eOp dMul (eK (.int 31)) (eOp dIx (eV 0) (eK (.int 2))))) (eK (.int 5))) (eK (.int 2305843009213693907))) (tgN 4)) (sSeq (sRet (eOp dMod (eOp dDiv (eV 4) (eK (.int 1024))) (eV 1))) (sEnd)))))
def f_law_take : Sf := ofBody 2 3 b_law_take
theorem g_law_take (T : Txt K mg) : Good P w K mg base 1 "_law_take" ["pot", "many"] f_law_take := by
  obtain ⟨fd, F⟩ := T.F__law_take
  have bn : Binds K fd ["pot", "many"] [] := F.bindsN fun _ _ _ _ _ _ us hl => match us, hl with | [_, _], _ => rfl
  refine ⟨_, fd, T.g__law_take, funD_G (k := 0) F sc_law_take fun cdv A outer s H E hr wh => ?_, F.kp, bn⟩
  exact m_seq (m_ifs (m_gt (m_ix (m_var 0) (m_int)) (m_int)) (m_seq (m_set 2 wh.nd (m_mod (m_ix (m_var 0) (m_int)) (m_var 1))) (m_seq (m_put (m_fdiv (m_ix (m_var 0) (m_int)) (m_var 1)) (m_var 0) (m_int) (fun _ => rfl)) (m_seq (m_ret (m_var 2)) (m_end)))) (m_end)) (m_seq (m_put (m_add (m_ix (m_var 0) (m_int)) (m_int)) (m_var 0) (m_int) (fun _ => rfl)) (m_seq (m_set 3 wh.nd (m_mod (m_pow (m_add (m_ix (m_var 0) (m_int)) (m_mul (m_int) (m_ix (m_var 0) (m_int)))) (m_int)) (m_int))) (m_seq (m_set 4 wh.nd (m_mod (m_pow (m_add (m_add (m_var 3) (m_mod (m_ix (m_var 0) (m_int)) (m_int))) (m_mul (m_int) (m_ix (m_var 0) (m_int)))) (m_int)) (m_int))) (m_seq (m_ret (m_mod (m_fdiv (m_var 4) (m_int)) (m_var 1))) (m_end)))))
/-! _law_great -/
theorem sc_law_great : FnScope ["pot", "many", "found"] ["pot", "many"] (defScope s_law_great) := ⟨rfl, rfl, rfl, by decide +kernel, rfl, by decide +kernel, by decide +kernel⟩
def b_law_great : Ss := sSeq (sIf (bOf (eOp dLt (eV 1) (eOp dPow (eK (.int 10)) (eK (.int 12))))) (sSeq (sRet (eCall 2 f_law_take (aCons (eV 0) (aCons (eV 1) (aNil))))) (sEnd)) (sEnd)) (sSeq (sAsg (eOp dAdd (eOp dMul (eCall 2 f_law_take (aCons (eV 0) (aCons (eOp dPow (eK (.int 10)) (eK (.int 12))) (aNil)))) (eOp dPow (eK (.int 10)) (eK (.int 24)))) (eOp dMul (eCall 2 f_law_take (aCons (eV 0) (aCons (eOp dPow (eK (.int 10)) (eK (.int 12))) (aNil)))) (eOp dPow (eK (.int 10)) (eK (.int 12))))) (tgN 2)) (sSeq (sRet (eOp dMod (eOp dAdd (eV 2) (eCall 2 f_law_take (aCons (eV 0) (aCons (eOp dPow (eK (.int 10)) (eK (.int 12))) (aNil))))) (eV 1))) (sEnd)))
def f_law_great : Sf := ofBody 2 1 b_law_great
theorem g_law_great (T : Txt K mg) : Good P w K mg base 2 "_law_great" ["pot", "many"] f_law_great := by
  obtain ⟨fd, F⟩ := T.F__law_great
  have bn : Binds K fd ["pot", "many"] [] := F.bindsN fun _ _ _ _ _ _ us hl => match us, hl with | [_, _], _ => rfl
  have G_law_take := g_law_take (P := P) (w := w) (base := base) T
  refine ⟨_, fd, T.g__law_great, funD_G (k := 1) F sc_law_great fun cdv A outer s H E hr wh => ?_, F.kp, bn⟩
  exact m_seq (m_ifs (m_lt (m_var 1) (m_pow (m_int) (m_int))) (m_seq (m_ret (m_callG G_law_take wh hr (by omega) (m_cons (m_var 0) (m_cons (m_var 1) (m_nil))))) (m_end)) (m_end)) (m_seq (m_set 2 wh.nd (m_add (m_mul (m_callG G_law_take wh hr (by omega) (m_cons (m_var 0) (m_cons (m_pow (m_int) (m_int)) (m_nil)))) (m_pow (m_int) (m_int))) (m_mul (m_callG G_law_take wh hr (by omega) (m_cons (m_var 0) (m_cons (m_pow (m_int) (m_int)) (m_nil)))) (m_pow (m_int) (m_int))))) (m_seq (m_ret (m_mod (m_add (m_var 2) (m_callG G_law_take wh hr (by omega) (m_cons (m_var 0) (m_cons (m_pow (m_int) (m_int)) (m_nil))))) (m_var 1))) (m_end)))
/-! _law_lowest -/
theorem sc_law_lowest : FnScope ["over", "under", "one", "other"] ["over", "under"] (defScope s_law_lowest) := ⟨rfl, rfl, rfl, by decide +kernel, rfl, by decide +kernel, by decide +kernel⟩
def b_law_lowest : Ss := sSeq (sPar 2 3 (aCons (eBi gAbs (aCons (eV 0) (aNil))) (aCons (eV 1) (aNil)))) (sSeq (sWhile (bOf (eOp (dEqs true) (eV 3) (eK (.int 0)))) (sSeq (sPar 2 3 (aCons (eV 3) (aCons (eOp dMod (eV 2) (eV 3)) (aNil)))) (sEnd))) (sSeq (sRet (eTup (aCons (eOp dDiv (eV 0) (eV 2)) (aCons (eOp dDiv (eV 1) (eV 2)) (aNil))))) (sEnd)))
def f_law_lowest : Sf := ofBody 2 2 b_law_lowest
theorem g_law_lowest (T : Txt K mg) : Good P w K mg base 1 "_law_lowest" ["over", "under"] f_law_lowest := by
  obtain ⟨fd, F⟩ := T.F__law_lowest
  have bn : Binds K fd ["over", "under"] [] := F.bindsN fun _ _ _ _ _ _ us hl => match us, hl with | [_, _], _ => rfl
  refine ⟨_, fd, T.g__law_lowest, funD_G (k := 0) F sc_law_lowest fun cdv A outer s H E hr wh => ?_, F.kp, bn⟩
  exact m_seq (m_par 2 3 wh (m_cons (m_abs T.z_abs (m_cons (m_var 0) (m_nil))) (m_cons (m_var 1) (m_nil)))) (m_seq (m_while wh (m_ne hr.units (m_var 3) (m_int)) (m_seq (m_par 2 3 wh (m_cons (m_var 3) (m_cons (m_mod (m_var 2) (m_var 3)) (m_nil)))) (m_end))) (m_seq (m_ret (m_tup (m_cons (m_fdiv (m_var 0) (m_var 2)) (m_cons (m_fdiv (m_var 1) (m_var 2)) (m_nil))))) (m_end)))
/-! _law_fraction -/
theorem sc_law_fraction : FnScope ["pot", "way", "top"] ["pot"] (defScope s_law_fraction) := ⟨rfl, rfl, rfl, by decide +kernel, rfl, by decide +kernel, by decide +kernel⟩
def b_law_fraction : Ss := sSeq (sAsg (eCall 2 f_law_take (aCons (eV 0) (aCons (eK (.int 6)) (aNil)))) (tgN 1)) (sSeq (sAsg (eOp dIx (eLst (aCons (eK (.int 6)) (aCons (eK (.int 6)) (aCons (eK (.int 30)) (aCons (eK (.int 1000)) (aCons (eOp dPow (eK (.int 10)) (eK (.int 30))) (aCons (eOp dPow (eK (.int 10)) (eK (.int 30))) (aNil)))))))) (eV 1)) (tgN 2)) (sSeq (sRet (eCall 2 f_law_lowest (aCons (eOp dSub (eCall 2 f_law_great (aCons (eV 0) (aCons (eOp dAdd (eOp dMul (eK (.int 2)) (eV 2)) (eK (.int 1))) (aNil)))) (eV 2)) (aCons (eOp dAdd (eK (.int 1)) (eCall 2 f_law_great (aCons (eV 0) (aCons (eOp dIx (eLst (aCons (eK (.int 6)) (aCons (eK (.int 2)) (aCons (eK (.int 30)) (aCons (eK (.int 1000)) (aCons (eOp dPow (eK (.int 10)) (eK (.int 30))) (aCons (eK (.int 9)) (aNil)))))))) (eV 1)) (aNil))))) (aNil))))) (sEnd)))
def f_law_fraction : Sf := ofBody 1 2 b_law_fraction
theorem g_law_fraction (T : Txt K mg) : Good P w K mg base 3 "_law_fraction" ["pot"] f_law_fraction := by
  obtain ⟨fd, F⟩ := T.F__law_fraction
  have bn : Binds K fd ["pot"] [] := F.bindsN fun _ _ _ _ _ _ us hl => match us, hl with | [_], _ => rfl
  have G_law_great := g_law_great (P := P) (w := w) (base := base) T
  have G_law_lowest := g_law_lowest (P := P) (w := w) (base := base) T
  have G_law_take := g_law_take (P := P) (w := w) (base := base) T
  refine ⟨_, fd, T.g__law_fraction, funD_G (k := 2) F sc_law_fraction fun cdv A outer s H E hr wh => ?_, F.kp, bn⟩
  exact m_seq (m_set 1 wh.nd (m_callG G_law_take wh hr (by omega) (m_cons (m_var 0) (m_cons (m_int) (m_nil))))) (m_seq (m_set 2 wh.nd (m_ix (m_lst (m_cons (m_int) (m_cons (m_int) (m_cons (m_int) (m_cons (m_int) (m_cons (m_pow (m_int) (m_int)) (m_cons (m_pow (m_int) (m_int)) (m_nil)))))))) (m_var 1))) (m_seq (m_ret (m_callG G_law_lowest wh hr (by omega) (m_cons (m_sub (m_callG G_law_great wh hr (by omega) (m_cons (m_var 0) (m_cons (m_add (m_mul (m_int) (m_var 2)) (m_int)) (m_nil)))) (m_var 2)) (m_cons (m_add (m_int) (m_callG G_law_great wh hr (by omega) (m_cons (m_var 0) (m_cons (m_ix (m_lst (m_cons (m_int) (m_cons (m_int) (m_cons (m_int) (m_cons (m_int) (m_cons (m_pow (m_int) (m_int)) (m_cons (m_int) (m_nil)))))))) (m_var 1)) (m_nil))))) (m_nil))))) (m_end)))
/-! _law_whole -/
theorem sc_law_whole : FnScope ["thing"] ["thing"] (defScope s_law_whole) := ⟨rfl, rfl, rfl, by decide +kernel, rfl, by decide +kernel, by decide +kernel⟩
def b_law_whole : Ss := sSeq (sRet (eAnd (eIsi "int" (eV 0)) (eNot (eIsi "bool" (eV 0))))) (sEnd)
def f_law_whole : Sf := ofBody 1 0 b_law_whole
theorem g_law_whole (T : Txt K mg) : Good P w K mg base 1 "_law_whole" ["thing"] f_law_whole := by
  obtain ⟨fd, F⟩ := T.F__law_whole
  have bn : Binds K fd ["thing"] [] := F.bindsN fun _ _ _ _ _ _ us hl => match us, hl with | [_], _ => rfl
  refine ⟨_, fd, T.g__law_whole, funD_G (k := 0) F sc_law_whole fun cdv A outer s H E hr wh => ?_, F.kp, bn⟩
  exact m_seq (m_ret (m_andV (m_isi (T := "int") T.z_isinstance T.z_int (by decide +kernel) (m_var 0)) (m_one (m_notV (m_isi (T := "bool") T.z_isinstance T.z_bool (by decide +kernel) (m_var 0)))))) (m_end)
/-! _law_is_fraction -/
theorem sc_law_is_fraction : FnScope ["thing"] ["thing"] (defScope s_law_is_fraction) := ⟨rfl, rfl, rfl, by decide +kernel, rfl, by decide +kernel, by decide +kernel⟩
def b_law_is_fraction : Ss := sSeq (sIf (bOr (bNot (bOf (eIsi "tuple" (eV 0)))) (bOr (bOf (eOp (dEqs true) (eBi gLen (aCons (eV 0) (aNil))) (eK (.int 2)))) (bOr (bNot (bOf (eCall 1 f_law_whole (aCons (eOp dIx (eV 0) (eK (.int 0))) (aNil))))) (bNot (bOf (eCall 1 f_law_whole (aCons (eOp dIx (eV 0) (eK (.int 1))) (aNil)))))))) (sSeq (sRet (eK (.bl false))) (sEnd)) (sEnd)) (sSeq (sRet (eAnd (eOp dGt (eOp dIx (eV 0) (eK (.int 1))) (eK (.int 0))) (eOp (dEqs false) (eCall 2 f_law_lowest (aCons (eOp dIx (eV 0) (eK (.int 0))) (aCons (eOp dIx (eV 0) (eK (.int 1))) (aNil)))) (eV 0)))) (sEnd))
def f_law_is_fraction : Sf := ofBody 1 0 b_law_is_fraction
theorem g_law_is_fraction (T : Txt K mg) : Good P w K mg base 2 "_law_is_fraction" ["thing"] f_law_is_fraction := by
  obtain ⟨fd, F⟩ := T.F__law_is_fraction
  have bn : Binds K fd ["thing"] [] := F.bindsN fun _ _ _ _ _ _ us hl => match us, hl with | [_], _ => rfl
  have G_law_lowest := g_law_lowest (P := P) (w := w) (base := base) T
  have G_law_whole := g_law_whole (P := P) (w := w) (base := base) T
  refine ⟨_, fd, T.g__law_is_fraction, funD_G (k := 1) F sc_law_is_fraction fun cdv A outer s H E hr wh => ?_, F.kp, bn⟩
  exact m_seq (m_ifs (m_w (m_or (m_not (m_test (m_isi (T := "tuple") T.z_isinstance T.z_tuple (by decide +kernel) (m_var 0)))) (m_or (m_ne hr.units (m_len T.z_len (m_cons (m_var 0) (m_nil))) (m_int)) (m_or (m_not (m_test (m_callG G_law_whole wh hr (by omega) (m_cons (m_ix (m_var 0) (m_int)) (m_nil))))) (m_or1 (m_not (m_test (m_callG G_law_whole wh hr (by omega) (m_cons (m_ix (m_var 0) (m_int)) (m_nil)))))))))) (m_seq (m_ret (m_bl)) (m_end)) (m_end)) (m_seq (m_ret (m_andV (m_gtV (m_ix (m_var 0) (m_int)) (m_int)) (m_one (m_eqV hr.units (m_callG G_law_lowest wh hr (by omega) (m_cons (m_ix (m_var 0) (m_int)) (m_cons (m_ix (m_var 0) (m_int)) (m_nil)))) (m_var 0))))) (m_end))
/-! _law_bent -/
theorem sc_law_bent : FnScope ["pot", "thing", "deep", "way", "at"] ["pot", "thing", "deep"] (defScope s_law_bent) := ⟨rfl, rfl, rfl, by decide +kernel, rfl, by decide +kernel, by decide +kernel⟩
def b_law_bent (me : Sf) : Ss := sSeq (sAsg (eCall 2 f_law_take (aCons (eV 0) (aCons (eK (.int 12)) (aNil)))) (tgN 3)) (sSeq (sIf (bAnd (bOf (eIsi "tuple" (eV 1))) (bAnd (bOf (eOp (dEqs true) (eV 1) (eTup (aNil)))) (bAnd (bOf (eOp dGt (eV 2) (eK (.int 0)))) (bOf (eOp dGt (eV 3) (eK (.int 3))))))) (sSeq (sAsg (eCall 2 f_law_take (aCons (eV 0) (aCons (eBi gLen (aCons (eV 1) (aNil))) (aNil)))) (tgN 4)) (sSeq (sRet (eOp dAdd (eOp dAdd (eCut (eV 1) (oNone) (oSome (eV 4))) (eTup (aCons (eCall 3 me (aCons (eV 0) (aCons (eOp dIx (eV 1) (eV 4)) (aCons (eOp dSub (eV 2) (eK (.int 1))) (aNil))))) (aNil)))) (eCut (eV 1) (oSome (eOp dAdd (eV 4) (eK (.int 1)))) (oNone)))) (sEnd))) (sEnd)) (sSeq (sIf (bOf (eIsi "tuple" (eV 1))) (sSeq (sRet (eOp dIx (eLst (aCons (eBi gList (aCons (eV 1) (aNil))) (aCons (eCut (eV 1) (oSome (eK (.int 1))) (oNone)) (aCons (eOp dAdd (eV 1) (eCut (eV 1) (oNone) (oSome (eK (.int 1))))) (aCons (eUn dBack (eV 1)) (aCons (eTup (aCons (eV 1) (aNil))) (aCons (eTup (aNil)) (aCons (eK .non) (aCons (eCut (eV 1) (oNone) (oSome (eUn dNeg (eK (.int 1))))) (aNil)))))))))) (eOp dMod (eV 3) (eK (.int 8))))) (sEnd)) (sEnd)) (sSeq (sIf (bOf (eIsi "bool" (eV 1))) (sSeq (sRet (eOp dIx (eLst (aCons (eNot (eV 1)) (aCons (eBi gInt (aCons (eV 1) (aNil))) (aCons (eK .non) (aCons (eBi gStr (aCons (eV 1) (aNil))) (aCons (eTup (aCons (eV 1) (aNil))) (aNil))))))) (eOp dMod (eV 3) (eK (.int 5))))) (sEnd)) (sEnd)) (sSeq (sIf (bOf (eIsi "int" (eV 1))) (sSeq (sRet (eOp dIx (eLst (aCons (eOp dAdd (eV 1) (eK (.int 1))) (aCons (eOp dSub (eK (.int 0)) (eV 1)) (aCons (eOp dSub (eV 1) (eK (.int 1))) (aCons (eOp dMul (eK (.int 2)) (eV 1)) (aCons (eK (.bl true)) (aCons (eK .non) (aCons (eBi gStr (aCons (eV 1) (aNil))) (aCons (eTup (aCons (eV 1) (aNil))) (aCons (eK (.int 0)) (aCons (eOp dPow (eK (.int 10)) (eK (.int 59))) (aCons (eK (.int 1)) (aCons (eDct0) (aNil)))))))))))))) (eV 3))) (sEnd)) (sEnd)) (sSeq (sRet (eOp dIx (eLst (aCons (eK .non) (aCons (eK (.bl true)) (aCons (eK (.int 0)) (aCons (eK (.str "")) (aCons (eTup (aNil)) (aCons (eLst (aNil)) (aCons (eDct0) (aCons (eK (.str "a")) (aCons (eTup (aCons (eK (.int 0)) (aCons (eK (.int 1)) (aNil)))) (aCons (eOp dPow (eK (.int 10)) (eK (.int 59))) (aCons (eUn dNeg (eK (.int 1))) (aCons (eTup (aCons (eK (.int 1)) (aNil))) (aNil)))))))))))))) (eV 3))) (sEnd))))))
def f_law_bent : Nat → Sf
  | 0 => fun _ _ => .no
  | n + 1 => ofBody 3 2 (b_law_bent (f_law_bent n))
abbrev rec__law_bent : Nat := 4
theorem g_law_bent (T : Txt K mg) (n : Nat) : Good P w K mg base (2 + n) "_law_bent" ["pot", "thing", "deep"] (f_law_bent n) := by
  obtain ⟨fd, F⟩ := T.F__law_bent
  have bn : Binds K fd ["pot", "thing", "deep"] [] := F.bindsN fun _ _ _ _ _ _ us hl => match us, hl with | [_, _, _], _ => rfl
  induction n with
  | zero => exact ⟨_, fd, T.g__law_bent, fnG_no, F.kp, bn⟩
  | succ n ih =>
  have G_me := ih
  have G_law_take := g_law_take (P := P) (w := w) (base := base) T
  refine ⟨_, fd, T.g__law_bent, (funD_G (k := 2 + n) F sc_law_bent fun cdv A outer s H E hr wh => ?_ : FnG P w K mg base ((2 + n) + 1) _ fd ["pot", "thing", "deep"] _).mono (by omega), F.kp, bn⟩
  exact m_seq (m_set 3 wh.nd (m_callG G_law_take wh hr (by omega) (m_cons (m_var 0) (m_cons (m_int) (m_nil))))) (m_seq (m_ifs (m_w (m_and (m_test (m_isi (T := "tuple") T.z_isinstance T.z_tuple (by decide +kernel) (m_var 1))) (m_and (m_ne hr.units (m_var 1) (m_tup (m_nil))) (m_and (m_gt (m_var 2) (m_int)) (m_and1 (m_gt (m_var 3) (m_int))))))) (m_seq (m_set 4 wh.nd (m_callG G_law_take wh hr (by omega) (m_cons (m_var 0) (m_cons (m_len T.z_len (m_cons (m_var 1) (m_nil))) (m_nil))))) (m_seq (m_ret (m_add (m_add (m_cut (m_var 1) (m_ono) (m_oso (m_var 4))) (m_tup (m_cons (m_callG G_me wh hr (by omega) (m_cons (m_var 0) (m_cons (m_ix (m_var 1) (m_var 4)) (m_cons (m_sub (m_var 2) (m_int)) (m_nil))))) (m_nil)))) (m_cut (m_var 1) (m_oso (m_add (m_var 4) (m_int))) (m_ono)))) (m_end))) (m_end)) (m_seq (m_ifs (m_test (m_isi (T := "tuple") T.z_isinstance T.z_tuple (by decide +kernel) (m_var 1))) (m_seq (m_ret (m_ix (m_lst (m_cons (m_listc T.z_list (m_cons (m_var 1) (m_nil))) (m_cons (m_cut (m_var 1) (m_oso (m_int)) (m_ono)) (m_cons (m_add (m_var 1) (m_cut (m_var 1) (m_ono) (m_oso (m_int)))) (m_cons (m_back (m_var 1)) (m_cons (m_tup (m_cons (m_var 1) (m_nil))) (m_cons (m_tup (m_nil)) (m_cons (m_non) (m_cons (m_cut (m_var 1) (m_ono) (m_oso (m_neg (m_int)))) (m_nil)))))))))) (m_mod (m_var 3) (m_int)))) (m_end)) (m_end)) (m_seq (m_ifs (m_test (m_isi (T := "bool") T.z_isinstance T.z_bool (by decide +kernel) (m_var 1))) (m_seq (m_ret (m_ix (m_lst (m_cons (m_notV (m_var 1)) (m_cons (m_intc T.z_int (m_cons (m_var 1) (m_nil))) (m_cons (m_non) (m_cons (m_strc T.z_str (m_cons (m_var 1) (m_nil))) (m_cons (m_tup (m_cons (m_var 1) (m_nil))) (m_nil))))))) (m_mod (m_var 3) (m_int)))) (m_end)) (m_end)) (m_seq (m_ifs (m_test (m_isi (T := "int") T.z_isinstance T.z_int (by decide +kernel) (m_var 1))) (m_seq (m_ret (m_ix (m_lst (m_cons (m_add (m_var 1) (m_int)) (m_cons (m_sub (m_int) (m_var 1)) (m_cons (m_sub (m_var 1) (m_int)) (m_cons (m_mul (m_int) (m_var 1)) (m_cons (m_bl) (m_cons (m_non) (m_cons (m_strc T.z_str (m_cons (m_var 1) (m_nil))) (m_cons (m_tup (m_cons (m_var 1) (m_nil))) (m_cons (m_int) (m_cons (m_pow (m_int) (m_int)) (m_cons (m_int) (m_cons (m_dct0) (m_nil)))))))))))))) (m_var 3))) (m_end)) (m_end)) (m_seq (m_ret (m_ix (m_lst (m_cons (m_non) (m_cons (m_bl) (m_cons (m_int) (m_cons (m_str) (m_cons (m_tup (m_nil)) (m_cons (m_lst (m_nil)) (m_cons (m_dct0) (m_cons (m_str) (m_cons (m_tup (m_cons (m_int) (m_cons (m_int) (m_nil)))) (m_cons (m_pow (m_int) (m_int)) (m_cons (m_neg (m_int)) (m_cons (m_tup (m_cons (m_int) (m_nil))) (m_nil)))))))))))))) (m_var 3))) (m_end))))))
/-! _law_told -/
theorem sc_law_told : FnScope ["door", "one", "other"] ["door", "one", "other"] (defScope s_law_told) := ⟨rfl, rfl, rfl, by decide +kernel, rfl, by decide +kernel, by decide +kernel⟩
def b_law_told : Ss := sSeq (sIf (bOf (eOp dLt (eV 0) (eK (.int 3)))) (sSeq (sRet (eIf (bOf (eOp dLt (eV 0) (eK (.int 2)))) (eOp dIx (eLst (aCons (eCall 2 fplus (aCons (eV 1) (aCons (eV 2) (aNil)))) (aCons (eCall 2 fminus (aCons (eV 1) (aCons (eV 2) (aNil)))) (aNil)))) (eV 0)) (eCall 2 ftimes (aCons (eV 1) (aCons (eV 2) (aNil)))))) (sEnd)) (sEnd)) (sSeq (sIf (bOf (eOp (dEqs false) (eV 0) (eK (.int 3)))) (sSeq (sRet (eCall 2 fby (aCons (eV 1) (aCons (eV 2) (aNil))))) (sEnd)) (sEnd)) (sSeq (sRet (eIf (bOf (eOp (dEqs false) (eV 0) (eK (.int 4)))) (eCall 2 fis_less (aCons (eV 1) (aCons (eV 2) (aNil)))) (eCall 1 ffloor_of (aCons (eV 1) (aNil))))) (sEnd)))
def f_law_told : Sf := ofBody 3 0 b_law_told
theorem g_law_told (T : Txt K mg) : Good P w K mg base 5 "_law_told" ["door", "one", "other"] f_law_told := by
  obtain ⟨fd, F⟩ := T.F__law_told
  have bn : Binds K fd ["door", "one", "other"] [] := F.bindsN fun _ _ _ _ _ _ us hl => match us, hl with | [_, _, _], _ => rfl
  have Gby := gby (P := P) (w := w) (base := base) T
  have Gfloor_of := gfloor_of (P := P) (w := w) (base := base) T
  have Gis_less := gis_less (P := P) (w := w) (base := base) T
  have Gminus := gminus (P := P) (w := w) (base := base) T
  have Gplus := gplus (P := P) (w := w) (base := base) T
  have Gtimes := gtimes (P := P) (w := w) (base := base) T
  refine ⟨_, fd, T.g__law_told, funD_G (k := 4) F sc_law_told fun cdv A outer s H E hr wh => ?_, F.kp, bn⟩
  exact m_seq (m_ifs (m_lt (m_var 0) (m_int)) (m_seq (m_ret (m_if (m_lt (m_var 0) (m_int)) (m_ix (m_lst (m_cons (m_callG Gplus wh hr (by omega) (m_cons (m_var 1) (m_cons (m_var 2) (m_nil)))) (m_cons (m_callG Gminus wh hr (by omega) (m_cons (m_var 1) (m_cons (m_var 2) (m_nil)))) (m_nil)))) (m_var 0)) (m_callG Gtimes wh hr (by omega) (m_cons (m_var 1) (m_cons (m_var 2) (m_nil)))))) (m_end)) (m_end)) (m_seq (m_ifs (m_eq hr.units (m_var 0) (m_int)) (m_seq (m_ret (m_callG Gby wh hr (by omega) (m_cons (m_var 1) (m_cons (m_var 2) (m_nil))))) (m_end)) (m_end)) (m_seq (m_ret (m_if (m_eq hr.units (m_var 0) (m_int)) (m_callG Gis_less wh hr (by omega) (m_cons (m_var 1) (m_cons (m_var 2) (m_nil)))) (m_callG Gfloor_of wh hr (by omega) (m_cons (m_var 1) (m_nil))))) (m_end)))
/-! _law_met -/
theorem sc_law_met : FnScope ["door", "one", "other", "e"] ["door", "one", "other"] (defScope s_law_met) := ⟨rfl, rfl, rfl, by decide +kernel, rfl, by decide +kernel, by decide +kernel⟩
def cat_met : Str → Option Bool := fun y => if y = "NoFraction" then some true else none
def hd_met : Xn → Hq → SR := fun _ h => .rt (.str "none") h
def hs_met (K : PySem.W.Frag) (a : Addr) (z : Xn) : Ss := sSeq (sIf (bOf (eIsE a false (eV 3) (eTup (aCons (eK (.adr (He.ga K "LackError"))) (aCons (eK (.adr (He.ga K "NoMoment"))) (aCons (eK (.adr (He.ga K "NoNumber"))) (aCons (eK (.adr (He.ga K "NoSpell"))) (aCons (eK (.adr (He.ga K "NoSteps"))) (aNil))))))))) (sSeq (sRet (eK (.str "odd"))) sEnd) sEnd)
  (sSeq (sRet (eIf (bAnd (bOf (eIsE a true (eV 3) (eK (.adr (He.ga K "WhereError"))))) (bOf (eIsE a true (eV 3) (eK (.ty "ValueError"))))) (eK (.str "none")) (eK (.str "odd")))) sEnd)
def b_law_met : Ss := sSeq (sTry cat_met hd_met (sSeq (sRet (eCall 3 f_law_told (aCons (eV 0) (aCons (eV 1) (aCons (eV 2) (aNil)))))) (sEnd))) (sEnd)
def f_law_met : Sf := ofBody 3 1 b_law_met
theorem g_law_met (T : Txt K mg) : Good P w K mg base 6 "_law_met" ["door", "one", "other"] f_law_met := by
  obtain ⟨fd, F⟩ := T.F__law_met
  have bn : Binds K fd ["door", "one", "other"] [] := F.bindsN fun _ _ _ _ _ _ us hl => match us, hl with | [_, _, _], _ => rfl
  have G_law_told := g_law_told (P := P) (w := w) (base := base) T
  refine ⟨_, fd, T.g__law_met, funD_G (k := 5) F sc_law_met fun cdv A outer s H E hr wh => ?_, F.kp, bn⟩
  exact m_seq (m_try (hs := hs_met K) (cat := cat_met) (hd := hd_met) (c := .ref (He.ga K "NoFraction")) (i := 3) (N := 4) wh rfl rfl ⟨by rfl, by decide, .inl T.g_NoFraction⟩ (fun y k C h1 h2 => by
      unfold cat_met at h1
      split at h1
      · rename_i hy
        subst hy
        cases h1
        have e := T.g_NoFraction.symm.trans h2
        cases e
        exact T.exm_NoFraction_NoFraction
      · cases h1) (fun E' pn xe wh => m_seq (m_ret (m_callG G_law_told wh hr (by omega) (m_cons (m_var 0) (m_cons (m_var 1) (m_cons (m_var 2) (m_nil)))))) (m_end)) (fun a oe Dc pn z hz hf h1 h2 => by
      have hc : z.cls = "NoFraction" := by
        unfold cat_met at h1
        split at h1
        · assumption
        · cases h1
      rw [hc] at h2
      have e := T.g_NoFraction.symm.trans h2
      cases e
      exact m_seq (m_ifs (m_test (m_isET T.excC hz hf (ds := [.adr (He.ga K "LackError"), .adr (He.ga K "NoMoment"), .adr (He.ga K "NoNumber"), .adr (He.ga K "NoSpell"), .adr (He.ga K "NoSteps")]) T.z_isinstance (m_var 3) (m_tup (m_cons (m_cls T.g_LackError) (m_cons (m_cls T.g_NoMoment) (m_cons (m_cls T.g_NoNumber) (m_cons (m_cls T.g_NoSpell) (m_cons (m_cls T.g_NoSteps) (m_nil))))))) (fun _ _ => rfl) rfl T.kMany)) (m_seq (m_ret m_str) m_end) m_end) (m_seq (m_ret (m_if (m_w (m_and (m_test (m_isE T.excC hz hf T.z_isinstance (m_var 3) (m_cls T.g_WhereError) rfl T.kWhere)) (m_and1 (m_test (m_isE T.excC hz hf T.z_isinstance (m_var 3) (m_bty T.z_ValueError (by decide +kernel)) rfl T.kValue))))) m_str m_str)) m_end)) rfl (fun a z h hz => by simp [hs_met, hd_met, sSeq, sIf, sRet, sEnd, bOf, eIsE, eV, eK, eTup, aCons, aNil, isB, SR.less, Rs.bind, Rs.into, SR.then, small, bAnd, eIf, List.replicate])) (m_end)
/-! _law_due -/
theorem sc_law_due : FnScope ["door", "one", "other", "a", "b", "c", "d", "over"] ["door", "one", "other"] (defScope s_law_due) := ⟨rfl, rfl, rfl, by decide +kernel, rfl, by decide +kernel, by decide +kernel⟩
def b_law_due : Ss := sSeq (sIf (bNot (bOf (eCall 1 f_law_is_fraction (aCons (eV 1) (aNil))))) (sSeq (sRet (eK (.str "none"))) (sEnd)) (sEnd)) (sSeq (sIf (bOf (eOp (dEqs false) (eV 0) (eK (.int 5)))) (sSeq (sRet (eOp dDiv (eOp dIx (eV 1) (eK (.int 0))) (eOp dIx (eV 1) (eK (.int 1))))) (sEnd)) (sEnd)) (sSeq (sIf (bNot (bOf (eCall 1 f_law_is_fraction (aCons (eV 2) (aNil))))) (sSeq (sRet (eIf (bOf (eOp dLt (eV 0) (eK (.int 4)))) (eK (.str "none")) (eK (.bl false)))) (sEnd)) (sEnd)) (sSeq (sAsg (eOp dAdd (eV 1) (eV 2)) (tgT [3, 4, 5, 6])) (sSeq (sIf (bOf (eOp (dEqs false) (eV 0) (eK (.int 4)))) (sSeq (sRet (eOp dLt (eOp dMul (eV 3) (eV 6)) (eOp dMul (eV 5) (eV 4)))) (sEnd)) (sEnd)) (sSeq (sIf (bAnd (bOf (eOp (dEqs false) (eV 0) (eK (.int 3)))) (bOf (eOp (dEqs false) (eV 5) (eK (.int 0))))) (sSeq (sRet (eK (.str "none"))) (sEnd)) (sEnd)) (sSeq (sIf (bAnd (bOf (eOp (dEqs false) (eV 0) (eK (.int 3)))) (bOf (eOp dLt (eV 5) (eK (.int 0))))) (sSeq (sPar 5 6 (aCons (eOp dSub (eK (.int 0)) (eV 5)) (aCons (eOp dSub (eK (.int 0)) (eV 6)) (aNil)))) (sEnd)) (sEnd)) (sSeq (sAsg (eOp dIx (eLst (aCons (eOp dAdd (eOp dMul (eV 3) (eV 6)) (eOp dMul (eV 5) (eV 4))) (aCons (eOp dSub (eOp dMul (eV 3) (eV 6)) (eOp dMul (eV 5) (eV 4))) (aCons (eOp dMul (eV 3) (eV 5)) (aCons (eOp dMul (eV 3) (eV 6)) (aNil)))))) (eV 0)) (tgN 7)) (sSeq (sRet (eCall 2 f_law_lowest (aCons (eV 7) (aCons (eOp dIx (eLst (aCons (eOp dMul (eV 4) (eV 6)) (aCons (eOp dMul (eV 4) (eV 6)) (aCons (eOp dMul (eV 4) (eV 6)) (aCons (eOp dMul (eV 4) (eV 5)) (aNil)))))) (eV 0)) (aNil))))) (sEnd)))))))))
def f_law_due : Sf := ofBody 3 5 b_law_due
theorem g_law_due (T : Txt K mg) : Good P w K mg base 3 "_law_due" ["door", "one", "other"] f_law_due := by
  obtain ⟨fd, F⟩ := T.F__law_due
  have bn : Binds K fd ["door", "one", "other"] [] := F.bindsN fun _ _ _ _ _ _ us hl => match us, hl with | [_, _, _], _ => rfl
  have G_law_is_fraction := g_law_is_fraction (P := P) (w := w) (base := base) T
  have G_law_lowest := g_law_lowest (P := P) (w := w) (base := base) T
  refine ⟨_, fd, T.g__law_due, funD_G (k := 2) F sc_law_due fun cdv A outer s H E hr wh => ?_, F.kp, bn⟩
  exact m_seq (m_ifs (m_not (m_test (m_callG G_law_is_fraction wh hr (by omega) (m_cons (m_var 1) (m_nil))))) (m_seq (m_ret (m_str)) (m_end)) (m_end)) (m_seq (m_ifs (m_eq hr.units (m_var 0) (m_int)) (m_seq (m_ret (m_fdiv (m_ix (m_var 1) (m_int)) (m_ix (m_var 1) (m_int)))) (m_end)) (m_end)) (m_seq (m_ifs (m_not (m_test (m_callG G_law_is_fraction wh hr (by omega) (m_cons (m_var 2) (m_nil))))) (m_seq (m_ret (m_if (m_lt (m_var 0) (m_int)) (m_str) (m_bl))) (m_end)) (m_end)) (m_seq (m_asg (m_add (m_var 1) (m_var 2)) (m_tgT wh.calm (m_gcons 3 wh.nd (m_gcons 4 wh.nd (m_gcons 5 wh.nd (m_gcons 6 wh.nd (m_gnil))))))) (m_seq (m_ifs (m_eq hr.units (m_var 0) (m_int)) (m_seq (m_ret (m_ltV (m_mul (m_var 3) (m_var 6)) (m_mul (m_var 5) (m_var 4)))) (m_end)) (m_end)) (m_seq (m_ifs (m_w (m_and (m_eq hr.units (m_var 0) (m_int)) (m_and1 (m_eq hr.units (m_var 5) (m_int))))) (m_seq (m_ret (m_str)) (m_end)) (m_end)) (m_seq (m_ifs (m_w (m_and (m_eq hr.units (m_var 0) (m_int)) (m_and1 (m_lt (m_var 5) (m_int))))) (m_seq (m_par 5 6 wh (m_cons (m_sub (m_int) (m_var 5)) (m_cons (m_sub (m_int) (m_var 6)) (m_nil)))) (m_end)) (m_end)) (m_seq (m_set 7 wh.nd (m_ix (m_lst (m_cons (m_add (m_mul (m_var 3) (m_var 6)) (m_mul (m_var 5) (m_var 4))) (m_cons (m_sub (m_mul (m_var 3) (m_var 6)) (m_mul (m_var 5) (m_var 4))) (m_cons (m_mul (m_var 3) (m_var 5)) (m_cons (m_mul (m_var 3) (m_var 6)) (m_nil)))))) (m_var 0))) (m_seq (m_ret (m_callG G_law_lowest wh hr (by omega) (m_cons (m_var 7) (m_cons (m_ix (m_lst (m_cons (m_mul (m_var 4) (m_var 6)) (m_cons (m_mul (m_var 4) (m_var 6)) (m_cons (m_mul (m_var 4) (m_var 6)) (m_cons (m_mul (m_var 4) (m_var 5)) (m_nil)))))) (m_var 0)) (m_nil))))) (m_end)))))))))
/-! law -/
theorem sclaw : FnScope ["script", "k", "pot", "turn", "one", "other", "way", "kept", "door", "told", "over"] ["script"] (defScope slaw) := ⟨rfl, rfl, rfl, by decide +kernel, rfl, by decide +kernel, by decide +kernel⟩
def blaw : Ss := sSeq (sFor (tgN 1) (iRange (aCons (eBi gMax (aCons (eK (.int 1)) (aCons (eBi gMin (aCons (eK (.int 40)) (aCons (eBi gLen (aCons (eV 0) (aNil))) (aNil)))) (aNil)))) (aNil))) (sSeq (sAsg (eCall 2 f_law_pot (aCons (eV 0) (aCons (eV 1) (aNil)))) (tgN 2)) (sSeq (sFor (tgN 3) (iRange (aCons (eK (.int 3)) (aNil))) (sSeq (sPar 4 5 (aCons (eCall 1 f_law_fraction (aCons (eV 2) (aNil))) (aCons (eCall 1 f_law_fraction (aCons (eV 2) (aNil))) (aNil)))) (sSeq (sAsg (eOp dIx (eLst (aCons (eV 5) (aCons (eV 5) (aCons (eV 5) (aCons (eV 4) (aCons (eTup (aCons (eOp dSub (eK (.int 0)) (eOp dIx (eV 4) (eK (.int 0)))) (aCons (eOp dIx (eV 4) (eK (.int 1))) (aNil)))) (aCons (eTup (aCons (eK (.int 0)) (aCons (eK (.int 1)) (aNil)))) (aNil)))))))) (eCall 2 f_law_take (aCons (eV 2) (aCons (eK (.int 6)) (aNil))))) (tgN 5)) (sSeq (sAsg (eCall 2 f_law_take (aCons (eV 2) (aCons (eK (.int 8)) (aNil)))) (tgN 6)) (sSeq (sIf (bOr (bOf (eOp (dEqs false) (eV 6) (eK (.int 0)))) (bOf (eOp (dEqs false) (eV 6) (eK (.int 2))))) (sSeq (sAsg (eCall 3 (f_law_bent 4) (aCons (eV 2) (aCons (eV 4) (aCons (eK (.int 1)) (aNil))))) (tgN 4)) (sEnd)) (sEnd)) (sSeq (sIf (bOr (bOf (eOp (dEqs false) (eV 6) (eK (.int 1)))) (bOf (eOp (dEqs false) (eV 6) (eK (.int 2))))) (sSeq (sAsg (eCall 3 (f_law_bent 4) (aCons (eV 2) (aCons (eV 5) (aCons (eK (.int 1)) (aNil))))) (tgN 5)) (sEnd)) (sEnd)) (sSeq (sAsg (eBi gRepr (aCons (eTup (aCons (eV 4) (aCons (eV 5) (aNil)))) (aNil))) (tgN 7)) (sSeq (sFor (tgN 8) (iRange (aCons (eK (.int 6)) (aNil))) (sSeq (sIf (bOf (eOp (dEqs true) (eBi gRepr (aCons (eCall 3 f_law_met (aCons (eV 8) (aCons (eV 4) (aCons (eV 5) (aNil))))) (aNil))) (eBi gRepr (aCons (eCall 3 f_law_due (aCons (eV 8) (aCons (eV 4) (aCons (eV 5) (aNil))))) (aNil))))) (sSeq (sRet (eK (.bl false))) (sEnd)) (sEnd)) (sEnd))) (sSeq (sIf (bOf (eOp (dEqs true) (eBi gRepr (aCons (eTup (aCons (eV 4) (aCons (eV 5) (aNil)))) (aNil))) (eV 7))) (sSeq (sRet (eK (.bl false))) (sEnd)) (sEnd)) (sEnd)))))))))) (sEnd)))) (sSeq (sAsg (eLst (aCons (eCall 2 fplus (aCons (eTup (aCons (eK (.int 1)) (aCons (eK (.int 6)) (aNil)))) (aCons (eTup (aCons (eK (.int 1)) (aCons (eK (.int 3)) (aNil)))) (aNil)))) (aCons (eCall 2 fminus (aCons (eTup (aCons (eK (.int 1)) (aCons (eK (.int 2)) (aNil)))) (aCons (eTup (aCons (eK (.int 1)) (aCons (eK (.int 2)) (aNil)))) (aNil)))) (aCons (eCall 2 ftimes (aCons (eTup (aCons (eK (.int 2)) (aCons (eK (.int 3)) (aNil)))) (aCons (eTup (aCons (eUn dNeg (eK (.int 3))) (aCons (eK (.int 4)) (aNil)))) (aNil)))) (aCons (eCall 2 fby (aCons (eTup (aCons (eK (.int 1)) (aCons (eK (.int 2)) (aNil)))) (aCons (eTup (aCons (eUn dNeg (eK (.int 3))) (aCons (eK (.int 4)) (aNil)))) (aNil)))) (aNil)))))) (tgN 9)) (sSeq (sIf (bOr (bOf (eOp (dEqs true) (eV 9) (eLst (aCons (eTup (aCons (eK (.int 1)) (aCons (eK (.int 2)) (aNil)))) (aCons (eTup (aCons (eK (.int 0)) (aCons (eK (.int 1)) (aNil)))) (aCons (eTup (aCons (eUn dNeg (eK (.int 1))) (aCons (eK (.int 2)) (aNil)))) (aCons (eTup (aCons (eUn dNeg (eK (.int 2))) (aCons (eK (.int 3)) (aNil)))) (aNil)))))))) (bOf (eOp (dEqs true) (eComp (iSeq (eTup (aCons (eUn dNeg (eK (.int 3))) (aCons (eK (.int 3)) (aNil))))) [10] (tgN 10) (cYes) (eCall 1 ffloor_of (aCons (eTup (aCons (eV 10) (aCons (eK (.int 2)) (aNil)))) (aNil)))) (eLst (aCons (eUn dNeg (eK (.int 2))) (aCons (eK (.int 1)) (aNil))))))) (sSeq (sRet (eK (.bl false))) (sEnd)) (sEnd)) (sSeq (sRet (eOp (dEqs false) (eLst (aCons (eCall 2 fis_less (aCons (eTup (aCons (eK (.int 1)) (aCons (eK (.int 2)) (aNil)))) (aCons (eTup (aCons (eK (.int 2)) (aCons (eK (.int 3)) (aNil)))) (aNil)))) (aCons (eCall 2 fis_less (aCons (eTup (aCons (eUn dNeg (eK (.int 1))) (aCons (eK (.int 2)) (aNil)))) (aCons (eTup (aCons (eUn dNeg (eK (.int 2))) (aCons (eK (.int 3)) (aNil)))) (aNil)))) (aCons (eCall 2 fis_less (aCons (eTup (aCons (eK (.int 1)) (aCons (eK (.int 2)) (aNil)))) (aCons (eTup (aCons (eK (.int 1)) (aCons (eK (.int 2)) (aNil)))) (aNil)))) (aNil))))) (eLst (aCons (eK (.bl true)) (aCons (eK (.bl false)) (aCons (eK (.bl false)) (aNil))))))) (sEnd))))
def flaw : Sf := ofBody 1 10 blaw
theorem glaw (T : Txt K mg) {fd : FuncData} (F : FunD K "law" "law" (defArgs slaw) (defBody slaw) (defScope slaw) [] [] (He.ga K "law") fd) : FnG P w K mg base 7 (He.ga K "law") fd ["script"] flaw := by
  have G_law_bent := fun n => g_law_bent (P := P) (w := w) (base := base) T n
  have G_law_due := g_law_due (P := P) (w := w) (base := base) T
  have G_law_fraction := g_law_fraction (P := P) (w := w) (base := base) T
  have G_law_met := g_law_met (P := P) (w := w) (base := base) T
  have G_law_pot := g_law_pot (P := P) (w := w) (base := base) T
  have G_law_take := g_law_take (P := P) (w := w) (base := base) T
  have Gby := gby (P := P) (w := w) (base := base) T
  have Gfloor_of := gfloor_of (P := P) (w := w) (base := base) T
  have Gis_less := gis_less (P := P) (w := w) (base := base) T
  have Gminus := gminus (P := P) (w := w) (base := base) T
  have Gplus := gplus (P := P) (w := w) (base := base) T
  have Gtimes := gtimes (P := P) (w := w) (base := base) T
  refine funD_G (k := 6) F sclaw fun cdv A outer s H E hr wh => ?_
  exact m_seq (m_for wh (m_range T.z_range (m_cons (m_max wh.calm T.z_max (m_cons (m_int) (m_cons (m_min wh.calm T.z_min (m_cons (m_int) (m_cons (m_len T.z_len (m_cons (m_var 0) (m_nil))) (m_nil)))) (m_nil)))) (m_nil))) (m_tgN 1 wh.nd) (m_seq (m_set 2 wh.nd (m_callG G_law_pot wh hr (by omega) (m_cons (m_var 0) (m_cons (m_var 1) (m_nil))))) (m_seq (m_for wh (m_range T.z_range (m_cons (m_int) (m_nil))) (m_tgN 3 wh.nd) (m_seq (m_par 4 5 wh (m_cons (m_callG G_law_fraction wh hr (by omega) (m_cons (m_var 2) (m_nil))) (m_cons (m_callG G_law_fraction wh hr (by omega) (m_cons (m_var 2) (m_nil))) (m_nil)))) (m_seq (m_set 5 wh.nd (m_ix (m_lst (m_cons (m_var 5) (m_cons (m_var 5) (m_cons (m_var 5) (m_cons (m_var 4) (m_cons (m_tup (m_cons (m_sub (m_int) (m_ix (m_var 4) (m_int))) (m_cons (m_ix (m_var 4) (m_int)) (m_nil)))) (m_cons (m_tup (m_cons (m_int) (m_cons (m_int) (m_nil)))) (m_nil)))))))) (m_callG G_law_take wh hr (by omega) (m_cons (m_var 2) (m_cons (m_int) (m_nil)))))) (m_seq (m_set 6 wh.nd (m_callG G_law_take wh hr (by omega) (m_cons (m_var 2) (m_cons (m_int) (m_nil))))) (m_seq (m_ifs (m_w (m_or (m_eq hr.units (m_var 6) (m_int)) (m_or1 (m_eq hr.units (m_var 6) (m_int))))) (m_seq (m_set 4 wh.nd (m_callG (G_law_bent 4) wh hr (by omega) (m_cons (m_var 2) (m_cons (m_var 4) (m_cons (m_int) (m_nil)))))) (m_end)) (m_end)) (m_seq (m_ifs (m_w (m_or (m_eq hr.units (m_var 6) (m_int)) (m_or1 (m_eq hr.units (m_var 6) (m_int))))) (m_seq (m_set 5 wh.nd (m_callG (G_law_bent 4) wh hr (by omega) (m_cons (m_var 2) (m_cons (m_var 5) (m_cons (m_int) (m_nil)))))) (m_end)) (m_end)) (m_seq (m_set 7 wh.nd (m_repr wh hr.units T.z_repr (m_cons (m_tup (m_cons (m_var 4) (m_cons (m_var 5) (m_nil)))) (m_nil)))) (m_seq (m_for wh (m_range T.z_range (m_cons (m_int) (m_nil))) (m_tgN 8 wh.nd) (m_seq (m_ifs (m_ne hr.units (m_repr wh hr.units T.z_repr (m_cons (m_callG G_law_met wh hr (by omega) (m_cons (m_var 8) (m_cons (m_var 4) (m_cons (m_var 5) (m_nil))))) (m_nil))) (m_repr wh hr.units T.z_repr (m_cons (m_callG G_law_due wh hr (by omega) (m_cons (m_var 8) (m_cons (m_var 4) (m_cons (m_var 5) (m_nil))))) (m_nil)))) (m_seq (m_ret (m_bl)) (m_end)) (m_end)) (m_end))) (m_seq (m_ifs (m_ne hr.units (m_repr wh hr.units T.z_repr (m_cons (m_tup (m_cons (m_var 4) (m_cons (m_var 5) (m_nil)))) (m_nil))) (m_var 7)) (m_seq (m_ret (m_bl)) (m_end)) (m_end)) (m_end)))))))))) (m_end)))) (m_seq (m_set 9 wh.nd (m_lst (m_cons (m_callG Gplus wh hr (by omega) (m_cons (m_tup (m_cons (m_int) (m_cons (m_int) (m_nil)))) (m_cons (m_tup (m_cons (m_int) (m_cons (m_int) (m_nil)))) (m_nil)))) (m_cons (m_callG Gminus wh hr (by omega) (m_cons (m_tup (m_cons (m_int) (m_cons (m_int) (m_nil)))) (m_cons (m_tup (m_cons (m_int) (m_cons (m_int) (m_nil)))) (m_nil)))) (m_cons (m_callG Gtimes wh hr (by omega) (m_cons (m_tup (m_cons (m_int) (m_cons (m_int) (m_nil)))) (m_cons (m_tup (m_cons (m_neg (m_int)) (m_cons (m_int) (m_nil)))) (m_nil)))) (m_cons (m_callG Gby wh hr (by omega) (m_cons (m_tup (m_cons (m_int) (m_cons (m_int) (m_nil)))) (m_cons (m_tup (m_cons (m_neg (m_int)) (m_cons (m_int) (m_nil)))) (m_nil)))) (m_nil))))))) (m_seq (m_ifs (m_w (m_or (m_ne hr.units (m_var 9) (m_lst (m_cons (m_tup (m_cons (m_int) (m_cons (m_int) (m_nil)))) (m_cons (m_tup (m_cons (m_int) (m_cons (m_int) (m_nil)))) (m_cons (m_tup (m_cons (m_neg (m_int)) (m_cons (m_int) (m_nil)))) (m_cons (m_tup (m_cons (m_neg (m_int)) (m_cons (m_int) (m_nil)))) (m_nil))))))) (m_or1 (m_ne hr.units (m_comp wh (m_seqI (m_tup (m_cons (m_neg (m_int)) (m_cons (m_int) (m_nil))))) (blk_of (own := [("over", 10)]) (by rfl)) (m_oN 10 wh.nd) (m_t0) (fun _ _ _ _ _ => m_callG Gfloor_of (wh_blk wh) hr (by omega) (m_cons (m_tup (m_cons (m_var 10) (m_cons (m_int) (m_nil)))) (m_nil)))) (m_lst (m_cons (m_neg (m_int)) (m_cons (m_int) (m_nil)))))))) (m_seq (m_ret (m_bl)) (m_end)) (m_end)) (m_seq (m_ret (m_eqV hr.units (m_lst (m_cons (m_callG Gis_less wh hr (by omega) (m_cons (m_tup (m_cons (m_int) (m_cons (m_int) (m_nil)))) (m_cons (m_tup (m_cons (m_int) (m_cons (m_int) (m_nil)))) (m_nil)))) (m_cons (m_callG Gis_less wh hr (by omega) (m_cons (m_tup (m_cons (m_neg (m_int)) (m_cons (m_int) (m_nil)))) (m_cons (m_tup (m_cons (m_neg (m_int)) (m_cons (m_int) (m_nil)))) (m_nil)))) (m_cons (m_callG Gis_less wh hr (by omega) (m_cons (m_tup (m_cons (m_int) (m_cons (m_int) (m_nil)))) (m_cons (m_tup (m_cons (m_int) (m_cons (m_int) (m_nil)))) (m_nil)))) (m_nil))))) (m_lst (m_cons (m_bl) (m_cons (m_bl) (m_cons (m_bl) (m_nil))))))) (m_end))))
end
end K03
end

section
set_option Elab.async false
set_option linter.all false
set_option autoImplicit false
set_option maxRecDepth 100000
set_option exponentiation.threshold 20000
set_option maxHeartbeats 4000000
open PySem L2
namespace K03
open MI
/-! ### evaluation -/
theorem lg {n k : Nat} (h : n < 2 ^ k) (hk : 0 < k) : n.log2 < k := by
  by_cases h0 : n = 0
  · subst h0; simpa using hk
  · exact (Nat.log2_lt h0).mpr h
theorem lgI {i : Int} {k : Nat} (h0 : -(2 ^ k : Int) < i) (h1 : i < (2 ^ k : Int)) (hk : 0 < k) : i.natAbs.log2 < k := by
  refine lg ?_ hk
  have : ((2 ^ k : Nat) : Int) = (2 ^ k : Int) := by push_cast; rfl
  omega
theorem lstAt_of {h : Hq} {p : Nat} {l : List D} (e : h[p]? = some (.lst l)) : lstAt h p = some l := by unfold lstAt; rw [e]
theorem mulOk_of {i j : Int} (a : i.natAbs.log2 < 400000) (b : j.natAbs.log2 < 400000) : mulOk i j = true := by
  unfold mulOk
  exact decide_eq_true (by omega)
theorem l64 {i : Int} (h0 : -(2 ^ 64) < i) (h1 : i < 2 ^ 64) {k : Nat} (hk : 64 ≤ k := by decide) : i.natAbs.log2 < k := Nat.lt_of_lt_of_le (lgI (k := 64) h0 h1 (by decide)) hk
theorem divOk_of {j : Int} (h0 : 0 < j) (h1 : j < 2 ^ 8000) : divOk j = true := by
  unfold divOk
  have := Nat.lt_of_lt_of_le (lgI (k := 8000) (by omega) h1 (by decide)) (by decide : 8000 ≤ 9000)
  simp [h0, this]
/-! ### the pot -/
structure PotAt (h : Hq) (p : Nat) (n : Int) : Prop where
  ex : ∃ a b c : Int, lstAt h p = some [.int a, .int b, .int c] ∧ 0 ≤ a ∧ a < 2 ^ 2000 ∧ 0 ≤ b ∧ b < 2 ^ 61 ∧ 0 ≤ c ∧ c ≤ n
/-- only the cell p may have changed, cells may be new -/
structure Step (p : Nat) (h h' : Hq) : Prop where
  len : h.length ≤ h'.length
  old : ∀ q, q ≠ p → q < h.length → h'[q]? = h[q]?
theorem Step.refl (p : Nat) (h : Hq) : Step p h h := ⟨Nat.le_refl _, fun _ _ _ => rfl⟩
theorem Step.trans {p : Nat} {h h1 h2 : Hq} (a : Step p h h1) (b : Step p h1 h2) : Step p h h2 := ⟨Nat.le_trans a.len b.len, fun q n l => (b.old q n (Nat.lt_of_lt_of_le l a.len)).trans (a.old q n l)⟩
theorem Step.set (p : Nat) (h : Hq) (c : Cell) : Step p h (h.set p c) := ⟨by simp, fun q n l => by rw [List.getElem?_set_ne (Ne.symm n)]⟩
theorem Step.app (p : Nat) (h : Hq) (l : List Cell) : Step p h (h ++ l) := ⟨by simp, fun q n hl => by rw [List.getElem?_append_left hl]⟩
theorem lstAt_lt {h : Hq} {p : Nat} {l : List D} (e : lstAt h p = some l) : p < h.length := (List.getElem?_eq_some_iff.mp (lstAt_some e)).1
theorem PotAt.mono {h : Hq} {p : Nat} {n m : Int} (P : PotAt h p n) (hm : n ≤ m) : PotAt h p m := by
  obtain ⟨a, b, c, e, h1, h2, h3, h4, h5, h6⟩ := P.ex
  exact ⟨a, b, c, e, h1, h2, h3, h4, h5, by omega⟩
theorem lstAt_app {h : Hq} {p : Nat} {l : List D} (e : lstAt h p = some l) (t : List Cell) : lstAt (h ++ t) p = some l := by
  have hl := lstAt_lt e
  have e' := lstAt_some e
  unfold lstAt
  rw [List.getElem?_append_left hl, e']
theorem PotAt.app {h : Hq} {p : Nat} {n : Int} (P : PotAt h p n) (t : List Cell) : PotAt (h ++ t) p n := by
  obtain ⟨a, b, c, e, r⟩ := P.ex
  exact ⟨a, b, c, lstAt_app e t, r⟩
theorem lstAt_set {h : Hq} {p : Nat} {l : List D} (hp : p < h.length) : lstAt (h.set p (.lst l)) p = some l := by
  unfold lstAt
  rw [List.getElem?_set_self hp]
theorem take_ok {h : Hq} {p : Nat} {n many : Int} (P : PotAt h p n) (hn : n < 1000000) (hm : 0 < many) (hb : many < 2 ^ 8000) :
    ∃ r h', f_law_take [.ref p, .int many] h = .ok (.int r) h' ∧ 0 ≤ r ∧ r < many ∧ PotAt h' p (n + 1) ∧ Step p h h' := by
  obtain ⟨a, b, c, e, a0, a1, b0, b1, c0, c1⟩ := P.ex
  have hp := lstAt_lt e
  have hd1 : divOk many = true := divOk_of hm hb
  by_cases ha : 0 < a
  · refine ⟨a % many, h.set p (.lst [.int (a / many), .int b, .int c]), ?_, Int.emod_nonneg _ (by omega), Int.emod_lt_of_pos _ hm, ⟨a / many, b, c, lstAt_set hp, ?_, ?_, b0, b1, c0, by omega⟩, Step.set _ _ _⟩
    · simp [c_bind, c_into, c_then, v_K, v_V, v_vR, v_Op, v_Un, v_bOf, v_isB, v_isBx, v_bAnd, v_bOr, v_bNot, v_eAnd, v_eOr, v_eNot, v_eIf, v_aNil, v_aCons, v_Tup, v_Lst, v_Dct, v_Call, v_CallK, v_Bi, v_Isi, v_Cut, v_oNone, v_oSome, v_vO, v_End, v_Seq, v_If, v_Ret, v_Expr, v_Set, v_Par, v_Raise, v_For, v_Put, v_fnx, v_frt, v_fex, v_of, v_add, v_sub, v_neg, v_rel, v_abs, v_lenT, v_lenS, v_max, v_min, v_intB, v_intI, v_gcd, v_cutT, v_listT, v_backT, v_eqI, v_eqS, List.replicate, small, atI, ixN, f_law_take, b_law_take, v_ixL e, v_vPut e, v_mod hm, v_div hd1, ha]
    · exact Int.ediv_nonneg a0 (by omega)
    · exact Int.lt_of_le_of_lt (Int.ediv_le_self _ a0) a1
  · have a00 : a = 0 := by omega
    subst a00
    have e2 : lstAt (h.set p (.lst [.int 0, .int b, .int (c + 1)])) p = some [.int 0, .int b, .int (c + 1)] := lstAt_set hp
    have q1 := Int.emod_nonneg ((b + 104729 * (c + 1)) ^ 3) (b := 2305843009213693921) (by decide)
    have q2 := Int.emod_lt_of_pos ((b + 104729 * (c + 1)) ^ 3) (b := 2305843009213693921) (by decide)
    have w1 : (b + 104729 * (c + 1)).natAbs.log2 < 10000 := l64 (by omega) (by omega)
    have w2 : ((b + 104729 * (c + 1)) ^ 3 % 2305843009213693921 + b % 65537 + 31 * (c + 1)).natAbs.log2 < 10000 := l64 (by omega) (by omega)
    have w3 : mulOk 104729 (c + 1) = true := mulOk_of (l64 (by decide) (by decide)) (l64 (by omega) (by omega))
    have w4 : mulOk 31 (c + 1) = true := mulOk_of (l64 (by decide) (by decide)) (l64 (by omega) (by omega))
    refine ⟨_, h.set p (.lst [.int 0, .int b, .int (c + 1)]), ?_, Int.emod_nonneg (((b + 104729 * (c + 1)) ^ 3 % 2305843009213693921 + b % 65537 + 31 * (c + 1)) ^ 5 % 2305843009213693907 / 1024) (by omega), Int.emod_lt_of_pos _ hm, ⟨0, b, c + 1, e2, by omega, by decide, b0, b1, by omega, by omega⟩, Step.set _ _ _⟩
    simp [c_bind, c_into, c_then, v_K, v_V, v_vR, v_Op, v_Un, v_bOf, v_isB, v_isBx, v_bAnd, v_bOr, v_bNot, v_eAnd, v_eOr, v_eNot, v_eIf, v_aNil, v_aCons, v_Tup, v_Lst, v_Dct, v_Call, v_CallK, v_Bi, v_Isi, v_Cut, v_oNone, v_oSome, v_vO, v_End, v_Seq, v_If, v_Ret, v_Expr, v_Set, v_Par, v_Raise, v_For, v_Put, v_fnx, v_frt, v_fex, v_of, v_add, v_sub, v_neg, v_rel, v_abs, v_lenT, v_lenS, v_max, v_min, v_intB, v_intI, v_gcd, v_cutT, v_listT, v_backT, v_eqI, v_eqS, List.replicate, small, atI, ixN, f_law_take, b_law_take, v_ixL e, v_vPut e, v_ixL e2, v_mod, hm, v_div, divOk_of, hd1, v_mul w3, v_mul w4, v_pow, w1, w2]
theorem v_pow10 {j : Int} {h : Hq} (e0 : 0 ≤ j) (e1 : j ≤ 1000) : dPow (.int 10) (.int j) h = .ok (.int (10 ^ j.toNat)) h := v_pow e0 e1 (by decide)
theorem great_ok {h : Hq} {p : Nat} {n many : Int} (P : PotAt h p n) (hn : n < 999990) (hm : 0 < many) (hb : many < 2 ^ 8000) :
    ∃ r h', f_law_great [.ref p, .int many] h = .ok (.int r) h' ∧ 0 ≤ r ∧ r < many ∧ PotAt h' p (n + 3) ∧ Step p h h' := by
  by_cases hs : many < 1000000000000
  · obtain ⟨r, h1, e, r0, r1, P1, S1⟩ := take_ok P (by omega) hm hb
    exact ⟨r, h1, by simp [c_bind, c_into, c_then, v_K, v_V, v_vR, v_Op, v_Un, v_bOf, v_isB, v_isBx, v_bAnd, v_bOr, v_bNot, v_eAnd, v_eOr, v_eNot, v_eIf, v_aNil, v_aCons, v_Tup, v_Lst, v_Dct, v_Call, v_CallK, v_Bi, v_Isi, v_Cut, v_oNone, v_oSome, v_vO, v_End, v_Seq, v_If, v_Ret, v_Expr, v_Set, v_Par, v_Raise, v_For, v_Put, v_fnx, v_frt, v_fex, v_of, v_add, v_sub, v_neg, v_rel, v_abs, v_lenT, v_lenS, v_max, v_min, v_intB, v_intI, v_gcd, v_cutT, v_listT, v_backT, v_eqI, v_eqS, List.replicate, small, atI, ixN, f_law_great, b_law_great, v_pow10, hs, e], r0, r1, P1.mono (by omega), S1⟩
  · obtain ⟨x, h1, e1, x0, x1, P1, S1⟩ := take_ok (many := 1000000000000) P (by omega) (by decide) (by decide)
    obtain ⟨y, h2, e2, y0, y1, P2, S2⟩ := take_ok (many := 1000000000000) P1 (by omega) (by decide) (by decide)
    obtain ⟨z, h3, e3, z0, z1, P3, S3⟩ := take_ok (many := 1000000000000) P2 (by omega) (by decide) (by decide)
    have m1 : mulOk x 1000000000000000000000000 = true := mulOk_of (l64 (by omega) (by omega)) (by decide)
    have m2 : mulOk y 1000000000000 = true := mulOk_of (l64 (by omega) (by omega)) (by decide)
    refine ⟨(x * 1000000000000000000000000 + y * 1000000000000 + z) % many, h3, ?_, Int.emod_nonneg _ (by omega), Int.emod_lt_of_pos _ hm, P3.mono (by omega), (S1.trans S2).trans S3⟩
    simp [c_bind, c_into, c_then, v_K, v_V, v_vR, v_Op, v_Un, v_bOf, v_isB, v_isBx, v_bAnd, v_bOr, v_bNot, v_eAnd, v_eOr, v_eNot, v_eIf, v_aNil, v_aCons, v_Tup, v_Lst, v_Dct, v_Call, v_CallK, v_Bi, v_Isi, v_Cut, v_oNone, v_oSome, v_vO, v_End, v_Seq, v_If, v_Ret, v_Expr, v_Set, v_Par, v_Raise, v_For, v_Put, v_fnx, v_frt, v_fex, v_of, v_add, v_sub, v_neg, v_rel, v_abs, v_lenT, v_lenS, v_max, v_min, v_intB, v_intI, v_gcd, v_cutT, v_listT, v_backT, v_eqI, v_eqS, List.replicate, small, atI, ixN, f_law_great, b_law_great, v_pow10, hs, e1, e2, e3, v_mul m1, v_mul m2, v_mod hm]
/-! ### the cell's pot -/
theorem pot_ok {h : Hq} {ns : List Int} {k : Nat} (hk : k < 100) : ∃ l, f_law_pot [.scr ns, .int k] h = .ok (.ref h.length) (h ++ [.lst l]) ∧ PotAt (h ++ [.lst l]) h.length 0 := by
  have key : ∀ c : Int, 0 ≤ c → c < 10 ^ 600 → ∀ x : Int, 0 ≤ x → x < 2 ^ 61 → PotAt (h ++ [.lst [D.int (c * (if 1000000000000000000 ≤ c then 1 else 0)), D.int x, D.int 0]]) h.length 0 := by
    intro c c0 c1 x x0 x1
    refine ⟨⟨c * (if 1000000000000000000 ≤ c then 1 else 0), x, 0, by unfold lstAt; simp, ?_, ?_, x0, x1, by decide, by decide⟩⟩
    · split <;> omega
    · have : (10 : Int) ^ 600 < 2 ^ 2000 := by decide
      split <;> omega
  have m1 : mulOk 7919 k = true := mulOk_of (by decide) (l64 (by omega) (by omega))
  by_cases hl : (k : Int) < ns.length
  · have hl' : k < ns.length := by omega
    have ix : atI ns (k : Int) = some ns[k] := by unfold atI ixN; simp [hl']
    obtain ⟨M, hM⟩ : ∃ M : Int, M = 10 ^ 600 := ⟨_, rfl⟩
    obtain ⟨c, hc⟩ : ∃ c : Int, c = (if ns[k] < 0 then -ns[k] else ns[k]) % M := ⟨_, rfl⟩
    have M0 : 0 < M := by rw [hM]; decide
    have c0 : 0 ≤ c := by rw [hc]; exact Int.emod_nonneg _ (by omega)
    have c1 : c < 10 ^ 600 := by rw [← hM, hc]; exact Int.emod_lt_of_pos _ M0
    have dm : ∀ h, dMod (.int (if ns[k] < 0 then -ns[k] else ns[k])) (.int M) h = .ok (.int c) h := fun h => by rw [hc]; exact v_mod M0
    have dp : ∀ h, dPow (.int 1000000000000000000000000000000000000000000000000000000000000) (.int 10) h = .ok (.int M) h := fun h => by rw [hM]; exact (v_pow (by decide) (by decide) (by decide)).trans (by congr 2)
    have mk : mulOk c (if 1000000000000000000 ≤ c then 1 else 0) = true := by
      have e : (10 : Int) ^ 600 < 2 ^ 2000 := by decide
      refine mulOk_of (Nat.lt_of_lt_of_le (lgI (k := 2000) (by omega) (by omega) (by decide)) (by decide)) ?_
      split <;> decide
    have q0 := Int.emod_nonneg c (b := 2147483629) (by decide)
    have q1 := Int.emod_lt_of_pos c (b := 2147483629) (by decide)
    have pw : (c % 2147483629 + 7919 * k + 1).natAbs.log2 < 10000 := l64 (by omega) (by omega)
    refine ⟨_, ?_, key c c0 c1 ((c % 2147483629 + 7919 * k + 1) ^ 5 % 2305843009213693951) (Int.emod_nonneg _ (by decide)) (Int.lt_of_lt_of_le (Int.emod_lt_of_pos _ (by decide)) (by decide))⟩
    simp [c_bind, c_into, c_then, v_K, v_V, v_vR, v_Op, v_Un, v_bOf, v_isB, v_isBx, v_bAnd, v_bOr, v_bNot, v_eAnd, v_eOr, v_eNot, v_eIf, v_aNil, v_aCons, v_Tup, v_Lst, v_Dct, v_Call, v_CallK, v_Bi, v_Isi, v_Cut, v_oNone, v_oSome, v_vO, v_End, v_Seq, v_If, v_Ret, v_Expr, v_Set, v_Par, v_Raise, v_For, v_Put, v_fnx, v_frt, v_fex, v_of, v_add, v_sub, v_neg, v_rel, v_abs, v_lenT, v_lenS, v_max, v_min, v_intB, v_intI, v_gcd, v_cutT, v_listT, v_backT, v_eqI, v_eqS, List.replicate, small, atI, ixN, f_law_pot, b_law_pot, v_pow10, hl', v_ixS ix, dp, dm, v_mul m1, v_mul mk, v_pow, pw, v_mod]
  · have hl' : ¬ k < ns.length := by omega
    have mk : mulOk 0 0 = true := by decide
    have pw : (7919 * (k : Int) + 1).natAbs.log2 < 10000 := l64 (by omega) (by omega)
    refine ⟨_, ?_, key 0 (by decide) (by decide) ((7919 * k + 1) ^ 5 % 2305843009213693951) (Int.emod_nonneg _ (by decide)) (Int.lt_of_lt_of_le (Int.emod_lt_of_pos _ (by decide)) (by decide))⟩
    simp [c_bind, c_into, c_then, v_K, v_V, v_vR, v_Op, v_Un, v_bOf, v_isB, v_isBx, v_bAnd, v_bOr, v_bNot, v_eAnd, v_eOr, v_eNot, v_eIf, v_aNil, v_aCons, v_Tup, v_Lst, v_Dct, v_Call, v_CallK, v_Bi, v_Isi, v_Cut, v_oNone, v_oSome, v_vO, v_End, v_Seq, v_If, v_Ret, v_Expr, v_Set, v_Par, v_Raise, v_For, v_Put, v_fnx, v_frt, v_fex, v_of, v_add, v_sub, v_neg, v_rel, v_abs, v_lenT, v_lenS, v_max, v_min, v_intB, v_intI, v_gcd, v_cutT, v_listT, v_backT, v_eqI, v_eqS, List.replicate, small, atI, ixN, f_law_pot, b_law_pot, v_pow10, hl', v_mul m1, v_mul mk, v_pow, pw, v_mod]
/-! ### lowest terms -/
def gI (o u : Int) : Int := ((Nat.gcd o.natAbs u.natAbs : Nat) : Int)
theorem gI_pos {o u : Int} (h : u ≠ 0) : 0 < gI o u := by
  unfold gI
  have : 0 < Nat.gcd o.natAbs u.natAbs := Nat.gcd_pos_of_pos_right _ (by omega)
  omega
theorem gI_le {o u : Int} (h : 0 < u) : gI o u ≤ u := by
  unfold gI
  have := Nat.gcd_le_right o.natAbs (show 0 < u.natAbs by omega)
  omega
theorem euclid {s : Hq} {x y : Option D} : ∀ (n : Nat) (a b : Nat), b ≤ n → whileN (bOf (eOp (dEqs true) (eV 3) (eK (.int 0)))) (sSeq (sPar 2 3 (aCons (eV 3) (aCons (eOp dMod (eV 2) (eV 3)) (aNil)))) (sEnd)) (n + 1) [x, y, some (.int a), some (.int b)] s = some (.nx [x, y, some (.int (Nat.gcd a b : Nat)), some (.int 0)] s)
  | n, a, 0, _ => by
    unfold whileN
    have e : bOf (eOp (dEqs true) (eV 3) (eK (.int 0))) [x, y, some (.int a), some (.int (0 : Nat))] s = .ok false s := by simp [c_bind, c_into, c_then, v_K, v_V, v_vR, v_Op, v_Un, v_bOf, v_isB, v_isBx, v_bAnd, v_bOr, v_bNot, v_eAnd, v_eOr, v_eNot, v_eIf, v_aNil, v_aCons, v_Tup, v_Lst, v_Dct, v_Call, v_CallK, v_Bi, v_Isi, v_Cut, v_oNone, v_oSome, v_vO, v_End, v_Seq, v_If, v_Ret, v_Expr, v_Set, v_Par, v_Raise, v_For, v_Put, v_fnx, v_frt, v_fex, v_of, v_add, v_sub, v_neg, v_rel, v_abs, v_lenT, v_lenS, v_max, v_min, v_intB, v_intI, v_gcd, v_cutT, v_listT, v_backT, v_eqI, v_eqS, List.replicate, small, atI, ixN]
    rw [e]
    simp
  | 0, a, b + 1, h => by omega
  | n + 1, a, b + 1, h => by
    unfold whileN
    have hb : (0 : Int) < ((b + 1 : Nat) : Int) := by omega
    have e : bOf (eOp (dEqs true) (eV 3) (eK (.int 0))) [x, y, some (.int a), some (.int ((b + 1 : Nat) : Int))] s = .ok true s := by
      have : ¬ ((b : Int) + 1 = 0) := by omega
      simp [c_bind, c_into, c_then, v_K, v_V, v_vR, v_Op, v_Un, v_bOf, v_isB, v_isBx, v_bAnd, v_bOr, v_bNot, v_eAnd, v_eOr, v_eNot, v_eIf, v_aNil, v_aCons, v_Tup, v_Lst, v_Dct, v_Call, v_CallK, v_Bi, v_Isi, v_Cut, v_oNone, v_oSome, v_vO, v_End, v_Seq, v_If, v_Ret, v_Expr, v_Set, v_Par, v_Raise, v_For, v_Put, v_fnx, v_frt, v_fex, v_of, v_add, v_sub, v_neg, v_rel, v_abs, v_lenT, v_lenS, v_max, v_min, v_intB, v_intI, v_gcd, v_cutT, v_listT, v_backT, v_eqI, v_eqS, List.replicate, small, atI, ixN, this]
    have e2 : (sSeq (sPar 2 3 (aCons (eV 3) (aCons (eOp dMod (eV 2) (eV 3)) (aNil)))) (sEnd)) [x, y, some (.int a), some (.int ((b + 1 : Nat) : Int))] s = .nx [x, y, some (.int ((b + 1 : Nat) : Int)), some (.int ((a % (b + 1) : Nat) : Int))] s := by
      have hb' : (0 : Int) < (b : Int) + 1 := by omega
      simp [c_bind, c_into, c_then, v_K, v_V, v_vR, v_Op, v_Un, v_bOf, v_isB, v_isBx, v_bAnd, v_bOr, v_bNot, v_eAnd, v_eOr, v_eNot, v_eIf, v_aNil, v_aCons, v_Tup, v_Lst, v_Dct, v_Call, v_CallK, v_Bi, v_Isi, v_Cut, v_oNone, v_oSome, v_vO, v_End, v_Seq, v_If, v_Ret, v_Expr, v_Set, v_Par, v_Raise, v_For, v_Put, v_fnx, v_frt, v_fex, v_of, v_add, v_sub, v_neg, v_rel, v_abs, v_lenT, v_lenS, v_max, v_min, v_intB, v_intI, v_gcd, v_cutT, v_listT, v_backT, v_eqI, v_eqS, List.replicate, small, atI, ixN, v_mod hb']
    rw [e]
    dsimp only
    rw [e2]
    dsimp only
    rw [euclid n (b + 1) (a % (b + 1)) (by have := Nat.mod_lt a (show 0 < b + 1 by omega); omega)]
    have : Nat.gcd (b + 1) (a % (b + 1)) = Nat.gcd a (b + 1) := by
      rw [Nat.gcd_comm a (b + 1), Nat.gcd_rec (b + 1) a, Nat.gcd_comm]
    rw [this]
theorem lowL_ok {h : Hq} {o u : Int} (hu : 0 < u) (hb : u < 2 ^ 8000) : f_law_lowest [.int o, .int u] h = .ok (.tup [.int (o / gI o u), .int (u / gI o u)]) h := by
  have hd : divOk (gI o u) = true := divOk_of (gI_pos (by omega)) (Int.lt_of_le_of_lt (gI_le hu) hb)
  have ew : sWhile (bOf (eOp (dEqs true) (eV 3) (eK (.int 0)))) (sSeq (sPar 2 3 (aCons (eV 3) (aCons (eOp dMod (eV 2) (eV 3)) (aNil)))) (sEnd)) [some (.int o), some (.int u), some (.int (if o < 0 then -o else o)), some (.int u)] h = .nx [some (.int o), some (.int u), some (.int (gI o u)), some (.int 0)] h := by
    have := euclid (s := h) (x := some (.int o)) (y := some (.int u)) u.natAbs o.natAbs u.natAbs (Nat.le_refl _)
    have e1 : ((o.natAbs : Nat) : Int) = if o < 0 then -o else o := by split <;> omega
    have e2 : ((u.natAbs : Nat) : Int) = u := by omega
    rw [e1, e2] at this
    exact sWhile_eq this
  unfold f_law_lowest b_law_lowest
  simp [c_bind, c_into, c_then, v_K, v_V, v_vR, v_Op, v_Un, v_bOf, v_isB, v_isBx, v_bAnd, v_bOr, v_bNot, v_eAnd, v_eOr, v_eNot, v_eIf, v_aNil, v_aCons, v_Tup, v_Lst, v_Dct, v_Call, v_CallK, v_Bi, v_Isi, v_Cut, v_oNone, v_oSome, v_vO, v_End, v_Seq, v_If, v_Ret, v_Expr, v_Set, v_Par, v_Raise, v_For, v_Put, v_fnx, v_frt, v_fex, v_of, v_add, v_sub, v_neg, v_rel, v_abs, v_lenT, v_lenS, v_max, v_min, v_intB, v_intI, v_gcd, v_cutT, v_listT, v_backT, v_eqI, v_eqS, List.replicate, small, atI, ixN, ew, v_div hd]
theorem lowP_ok {h : Hq} {o u : Int} (hu : 0 < u) (hb : u < 2 ^ 8000) : flowest [.int o, .int u] h = .ok (.tup [.int (o / gI o u), .int (u / gI o u)]) h := by
  have hd : divOk (gI o u) = true := divOk_of (gI_pos (by omega)) (Int.lt_of_le_of_lt (gI_le hu) hb)
  have hu' : ¬ u < 0 := by omega
  unfold flowest blowest
  unfold gI at hd ⊢
  simp [c_bind, c_into, c_then, v_K, v_V, v_vR, v_Op, v_Un, v_bOf, v_isB, v_isBx, v_bAnd, v_bOr, v_bNot, v_eAnd, v_eOr, v_eNot, v_eIf, v_aNil, v_aCons, v_Tup, v_Lst, v_Dct, v_Call, v_CallK, v_Bi, v_Isi, v_Cut, v_oNone, v_oSome, v_vO, v_End, v_Seq, v_If, v_Ret, v_Expr, v_Set, v_Par, v_Raise, v_For, v_Put, v_fnx, v_frt, v_fex, v_of, v_add, v_sub, v_neg, v_rel, v_abs, v_lenT, v_lenS, v_max, v_min, v_intB, v_intI, v_gcd, v_cutT, v_listT, v_backT, v_eqI, v_eqS, List.replicate, small, atI, ixN, hu', v_div hd]
theorem lowN_ok {h : Hq} {o u : Int} (hu : u < 0) (hb : -u < 2 ^ 8000) : flowest [.int o, .int u] h = .ok (.tup [.int (-o / gI (-o) (-u)), .int (-u / gI (-o) (-u))]) h := by
  have hd : divOk (gI (-o) (-u)) = true := divOk_of (gI_pos (by omega)) (Int.lt_of_le_of_lt (gI_le (by omega)) hb)
  unfold flowest blowest
  unfold gI at hd ⊢
  simp only [Int.natAbs_neg] at hd ⊢
  simp [c_bind, c_into, c_then, v_K, v_V, v_vR, v_Op, v_Un, v_bOf, v_isB, v_isBx, v_bAnd, v_bOr, v_bNot, v_eAnd, v_eOr, v_eNot, v_eIf, v_aNil, v_aCons, v_Tup, v_Lst, v_Dct, v_Call, v_CallK, v_Bi, v_Isi, v_Cut, v_oNone, v_oSome, v_vO, v_End, v_Seq, v_If, v_Ret, v_Expr, v_Set, v_Par, v_Raise, v_For, v_Put, v_fnx, v_frt, v_fex, v_of, v_add, v_sub, v_neg, v_rel, v_abs, v_lenT, v_lenS, v_max, v_min, v_intB, v_intI, v_gcd, v_cutT, v_listT, v_backT, v_eqI, v_eqS, List.replicate, small, atI, ixN, hu, v_div hd]
/-! ### what is a fraction -/
def isI : D → Bool
  | .int _ => true
  | _ => false
theorem ty_ref {h : Hq} {m : Nat} {n : String} (e : tyD h (.ref m) = some n) : n = "list" ∨ n = "dict" := by
  simp only [tyD] at e
  split at e
  · cases e; exact .inl rfl
  · cases e; exact .inr rfl
  · cases e
theorem ty_cases {h : Hq} {d : D} {n : String} (e : tyD h d = some n) : n = "NoneType" ∨ n = "bool" ∨ n = "int" ∨ n = "str" ∨ n = "tuple" ∨ n = "list" ∨ n = "dict" := by
  cases d with
  | ref m => rcases ty_ref e with rfl | rfl <;> simp
  | opq => cases e
  | adr a => cases e
  | ty s => cases e
  | _ => cases e; simp
theorem isi_int {h : Hq} {d : D} {n : String} (e : tyD h d = some n) : gIsi "int" d h = .ok (.bl (n == "int" || n == "bool")) h := by
  unfold gIsi
  rw [e]
  rcases ty_cases e with rfl | rfl | rfl | rfl | rfl | rfl | rfl <;> rfl
theorem isi_bool {h : Hq} {d : D} {n : String} (e : tyD h d = some n) : gIsi "bool" d h = .ok (.bl (n == "bool")) h := by
  unfold gIsi
  rw [e]
  rcases ty_cases e with rfl | rfl | rfl | rfl | rfl | rfl | rfl <;> rfl
theorem isi_tup {h : Hq} {d : D} {n : String} (e : tyD h d = some n) : gIsi "tuple" d h = .ok (.bl (n == "tuple")) h := by
  unfold gIsi
  rw [e]
  rcases ty_cases e with rfl | rfl | rfl | rfl | rfl | rfl | rfl <;> rfl
theorem isI_ty {h : Hq} {d : D} {n : String} (e : tyD h d = some n) : isI d = (n == "int") := by
  cases d with
  | ref m => rcases ty_ref e with rfl | rfl <;> rfl
  | opq => cases e
  | adr a => cases e
  | ty s => cases e
  | _ => cases e; rfl
theorem whole_ok {h : Hq} {d : D} {n : String} (e : tyD h d = some n) : fis_whole [d] h = .ok (.bl (isI d)) h ∧ f_law_whole [d] h = .ok (.bl (isI d)) h := by
  have e1 := isi_int e
  have e2 := isi_bool e
  rw [isI_ty e]
  rcases ty_cases e with rfl | rfl | rfl | rfl | rfl | rfl | rfl <;>
    exact ⟨by simp [c_bind, c_into, c_then, v_K, v_V, v_vR, v_Op, v_Un, v_bOf, v_isB, v_isBx, v_bAnd, v_bOr, v_bNot, v_eAnd, v_eOr, v_eNot, v_eIf, v_aNil, v_aCons, v_Tup, v_Lst, v_Dct, v_Call, v_CallK, v_Bi, v_Isi, v_Cut, v_oNone, v_oSome, v_vO, v_End, v_Seq, v_If, v_Ret, v_Expr, v_Set, v_Par, v_Raise, v_For, v_Put, v_fnx, v_frt, v_fex, v_of, v_add, v_sub, v_neg, v_rel, v_abs, v_lenT, v_lenS, v_max, v_min, v_intB, v_intI, v_gcd, v_cutT, v_listT, v_backT, v_eqI, v_eqS, List.replicate, small, atI, ixN, fis_whole, bis_whole, e1, e2], by simp [c_bind, c_into, c_then, v_K, v_V, v_vR, v_Op, v_Un, v_bOf, v_isB, v_isBx, v_bAnd, v_bOr, v_bNot, v_eAnd, v_eOr, v_eNot, v_eIf, v_aNil, v_aCons, v_Tup, v_Lst, v_Dct, v_Call, v_CallK, v_Bi, v_Isi, v_Cut, v_oNone, v_oSome, v_vO, v_End, v_Seq, v_If, v_Ret, v_Expr, v_Set, v_Par, v_Raise, v_For, v_Put, v_fnx, v_frt, v_fex, v_of, v_add, v_sub, v_neg, v_rel, v_abs, v_lenT, v_lenS, v_max, v_min, v_intB, v_intI, v_gcd, v_cutT, v_listT, v_backT, v_eqI, v_eqS, List.replicate, small, atI, ixN, f_law_whole, b_law_whole, e1, e2]⟩
/-- a fraction -/
def isF : D → Bool
  | .tup [.int o, .int u] => decide (1 ≤ u) && decide (gI o u = 1)
  | _ => false
/-- what is asked of is known -/
def Kn (h : Hq) (d : D) : Prop := (∃ n, tyD h d = some n) ∧ ∀ l, d = .tup l → ∀ x ∈ l, ∃ n, tyD h x = some n
theorem v_eqT2 {h : Hq} {i j k l : Int} : dEqs false (.tup [.int i, .int j]) (.tup [.int k, .int l]) h = .ok (.bl (i == k && j == l)) h := by
  unfold dEqs eqQ dEqP
  simp [toPy, opts, SeqAt.shaped, PyData.eqv, PyData.eqvAll, PyData.canLay0, PyData.canLayAll0, PyData.depth, PyData.depthAll]
theorem low_same {o u : Int} (hu : 0 < u) : (o / gI o u == o && u / gI o u == u) = decide (gI o u = 1) := by
  have g0 := gI_pos (o := o) (u := u) (by omega)
  by_cases h1 : gI o u = 1
  · rw [h1]; simp
  · have h2 : ¬ u / gI o u = u := fun e => by
      have := Int.ediv_lt_of_lt_mul g0 (show u < u * gI o u by
        have : u * 2 ≤ u * gI o u := Int.mul_le_mul_of_nonneg_left (by omega) (by omega)
        omega)
      omega
    simp [h1, h2]
theorem isfr_ok {h : Hq} {d : D} (k : Kn h d) (b : ∀ o u, d = .tup [.int o, .int u] → u < 2 ^ 8000) : fis_fraction [d] h = .ok (.bl (isF d)) h ∧ f_law_is_fraction [d] h = .ok (.bl (isF d)) h := by
  obtain ⟨⟨n, e⟩, kl⟩ := k
  have e1 := isi_tup e
  have other : n ≠ "tuple" → isF d = false → fis_fraction [d] h = .ok (.bl (isF d)) h ∧ f_law_is_fraction [d] h = .ok (.bl (isF d)) h := by
    intro hn hf
    have hn' : (n == "tuple") = false := by simpa using hn
    rw [hn'] at e1
    rw [hf]
    exact ⟨by simp [c_bind, c_into, c_then, v_K, v_V, v_vR, v_Op, v_Un, v_bOf, v_isB, v_isBx, v_bAnd, v_bOr, v_bNot, v_eAnd, v_eOr, v_eNot, v_eIf, v_aNil, v_aCons, v_Tup, v_Lst, v_Dct, v_Call, v_CallK, v_Bi, v_Isi, v_Cut, v_oNone, v_oSome, v_vO, v_End, v_Seq, v_If, v_Ret, v_Expr, v_Set, v_Par, v_Raise, v_For, v_Put, v_fnx, v_frt, v_fex, v_of, v_add, v_sub, v_neg, v_rel, v_abs, v_lenT, v_lenS, v_max, v_min, v_intB, v_intI, v_gcd, v_cutT, v_listT, v_backT, v_eqI, v_eqS, List.replicate, small, atI, ixN, fis_fraction, bis_fraction, e1], by simp [c_bind, c_into, c_then, v_K, v_V, v_vR, v_Op, v_Un, v_bOf, v_isB, v_isBx, v_bAnd, v_bOr, v_bNot, v_eAnd, v_eOr, v_eNot, v_eIf, v_aNil, v_aCons, v_Tup, v_Lst, v_Dct, v_Call, v_CallK, v_Bi, v_Isi, v_Cut, v_oNone, v_oSome, v_vO, v_End, v_Seq, v_If, v_Ret, v_Expr, v_Set, v_Par, v_Raise, v_For, v_Put, v_fnx, v_frt, v_fex, v_of, v_add, v_sub, v_neg, v_rel, v_abs, v_lenT, v_lenS, v_max, v_min, v_intB, v_intI, v_gcd, v_cutT, v_listT, v_backT, v_eqI, v_eqS, List.replicate, small, atI, ixN, f_law_is_fraction, b_law_is_fraction, e1]⟩
  cases d with
  | tup l =>
    cases e
    have e1' : gIsi "tuple" (.tup l) h = .ok (.bl true) h := e1
    match l, kl, b, e1' with
    | [], _, _, e1' => exact ⟨by simp [c_bind, c_into, c_then, v_K, v_V, v_vR, v_Op, v_Un, v_bOf, v_isB, v_isBx, v_bAnd, v_bOr, v_bNot, v_eAnd, v_eOr, v_eNot, v_eIf, v_aNil, v_aCons, v_Tup, v_Lst, v_Dct, v_Call, v_CallK, v_Bi, v_Isi, v_Cut, v_oNone, v_oSome, v_vO, v_End, v_Seq, v_If, v_Ret, v_Expr, v_Set, v_Par, v_Raise, v_For, v_Put, v_fnx, v_frt, v_fex, v_of, v_add, v_sub, v_neg, v_rel, v_abs, v_lenT, v_lenS, v_max, v_min, v_intB, v_intI, v_gcd, v_cutT, v_listT, v_backT, v_eqI, v_eqS, List.replicate, small, atI, ixN, fis_fraction, bis_fraction, e1', isF], by simp [c_bind, c_into, c_then, v_K, v_V, v_vR, v_Op, v_Un, v_bOf, v_isB, v_isBx, v_bAnd, v_bOr, v_bNot, v_eAnd, v_eOr, v_eNot, v_eIf, v_aNil, v_aCons, v_Tup, v_Lst, v_Dct, v_Call, v_CallK, v_Bi, v_Isi, v_Cut, v_oNone, v_oSome, v_vO, v_End, v_Seq, v_If, v_Ret, v_Expr, v_Set, v_Par, v_Raise, v_For, v_Put, v_fnx, v_frt, v_fex, v_of, v_add, v_sub, v_neg, v_rel, v_abs, v_lenT, v_lenS, v_max, v_min, v_intB, v_intI, v_gcd, v_cutT, v_listT, v_backT, v_eqI, v_eqS, List.replicate, small, atI, ixN, f_law_is_fraction, b_law_is_fraction, e1', isF]⟩
    | [x], _, _, e1' => exact ⟨by simp [c_bind, c_into, c_then, v_K, v_V, v_vR, v_Op, v_Un, v_bOf, v_isB, v_isBx, v_bAnd, v_bOr, v_bNot, v_eAnd, v_eOr, v_eNot, v_eIf, v_aNil, v_aCons, v_Tup, v_Lst, v_Dct, v_Call, v_CallK, v_Bi, v_Isi, v_Cut, v_oNone, v_oSome, v_vO, v_End, v_Seq, v_If, v_Ret, v_Expr, v_Set, v_Par, v_Raise, v_For, v_Put, v_fnx, v_frt, v_fex, v_of, v_add, v_sub, v_neg, v_rel, v_abs, v_lenT, v_lenS, v_max, v_min, v_intB, v_intI, v_gcd, v_cutT, v_listT, v_backT, v_eqI, v_eqS, List.replicate, small, atI, ixN, fis_fraction, bis_fraction, e1', isF], by simp [c_bind, c_into, c_then, v_K, v_V, v_vR, v_Op, v_Un, v_bOf, v_isB, v_isBx, v_bAnd, v_bOr, v_bNot, v_eAnd, v_eOr, v_eNot, v_eIf, v_aNil, v_aCons, v_Tup, v_Lst, v_Dct, v_Call, v_CallK, v_Bi, v_Isi, v_Cut, v_oNone, v_oSome, v_vO, v_End, v_Seq, v_If, v_Ret, v_Expr, v_Set, v_Par, v_Raise, v_For, v_Put, v_fnx, v_frt, v_fex, v_of, v_add, v_sub, v_neg, v_rel, v_abs, v_lenT, v_lenS, v_max, v_min, v_intB, v_intI, v_gcd, v_cutT, v_listT, v_backT, v_eqI, v_eqS, List.replicate, small, atI, ixN, f_law_is_fraction, b_law_is_fraction, e1', isF]⟩
    | x :: y :: z :: r, _, _, e1' =>
      have hl : ¬ ((r.length : Int) + 1 + 1 + 1 = 2) := by omega
      exact ⟨by simp [c_bind, c_into, c_then, v_K, v_V, v_vR, v_Op, v_Un, v_bOf, v_isB, v_isBx, v_bAnd, v_bOr, v_bNot, v_eAnd, v_eOr, v_eNot, v_eIf, v_aNil, v_aCons, v_Tup, v_Lst, v_Dct, v_Call, v_CallK, v_Bi, v_Isi, v_Cut, v_oNone, v_oSome, v_vO, v_End, v_Seq, v_If, v_Ret, v_Expr, v_Set, v_Par, v_Raise, v_For, v_Put, v_fnx, v_frt, v_fex, v_of, v_add, v_sub, v_neg, v_rel, v_abs, v_lenT, v_lenS, v_max, v_min, v_intB, v_intI, v_gcd, v_cutT, v_listT, v_backT, v_eqI, v_eqS, List.replicate, small, atI, ixN, fis_fraction, bis_fraction, e1', isF, hl], by simp [c_bind, c_into, c_then, v_K, v_V, v_vR, v_Op, v_Un, v_bOf, v_isB, v_isBx, v_bAnd, v_bOr, v_bNot, v_eAnd, v_eOr, v_eNot, v_eIf, v_aNil, v_aCons, v_Tup, v_Lst, v_Dct, v_Call, v_CallK, v_Bi, v_Isi, v_Cut, v_oNone, v_oSome, v_vO, v_End, v_Seq, v_If, v_Ret, v_Expr, v_Set, v_Par, v_Raise, v_For, v_Put, v_fnx, v_frt, v_fex, v_of, v_add, v_sub, v_neg, v_rel, v_abs, v_lenT, v_lenS, v_max, v_min, v_intB, v_intI, v_gcd, v_cutT, v_listT, v_backT, v_eqI, v_eqS, List.replicate, small, atI, ixN, f_law_is_fraction, b_law_is_fraction, e1', isF, hl]⟩
    | [x, y], kl, b, e1' =>
      obtain ⟨nx, ex⟩ := kl _ rfl x (by simp)
      obtain ⟨ny, ey⟩ := kl _ rfl y (by simp)
      obtain ⟨w1, w2⟩ := whole_ok ex
      obtain ⟨w3, w4⟩ := whole_ok ey
      have v0 : dIx (.tup [x, y]) (.int 0) h = .ok x h := v_ixT (by simp [atI, ixN])
      have v1 : dIx (.tup [x, y]) (.int 1) h = .ok y h := v_ixT (by simp [atI, ixN])
      by_cases hx : isI x = true
      · by_cases hy : isI y = true
        · obtain ⟨o, rfl⟩ : ∃ o, x = .int o := by cases x <;> first | exact ⟨_, rfl⟩ | cases hx
          obtain ⟨u, rfl⟩ : ∃ u, y = .int u := by cases y <;> first | exact ⟨_, rfl⟩ | cases hy
          have hb := b o u rfl
          by_cases hu : 1 ≤ u
          · have hl := lowL_ok (h := h) (o := o) (show 0 < u by omega) hb
            have hs := low_same (o := o) (show 0 < u by omega)
            have hu' : 0 < u := by omega
            have hs' : (o / gI o u == o && u / gI o u == u) = decide (Nat.gcd o.natAbs u.natAbs = 1) := by rw [hs]; unfold gI; congr 1; simp; omega
            refine ⟨?_, ?_⟩
            · simp [c_bind, c_into, c_then, v_K, v_V, v_vR, v_Op, v_Un, v_bOf, v_isB, v_isBx, v_bAnd, v_bOr, v_bNot, v_eAnd, v_eOr, v_eNot, v_eIf, v_aNil, v_aCons, v_Tup, v_Lst, v_Dct, v_Call, v_CallK, v_Bi, v_Isi, v_Cut, v_oNone, v_oSome, v_vO, v_End, v_Seq, v_If, v_Ret, v_Expr, v_Set, v_Par, v_Raise, v_For, v_Put, v_fnx, v_frt, v_fex, v_of, v_add, v_sub, v_neg, v_rel, v_abs, v_lenT, v_lenS, v_max, v_min, v_intB, v_intI, v_gcd, v_cutT, v_listT, v_backT, v_eqI, v_eqS, List.replicate, small, atI, ixN, fis_fraction, bis_fraction, e1', isF, w1, w3, isI, hu, gI, v_SetT, tgT, setAll]
              exact Bool.eq_iff_iff.mpr ⟨fun e => decide_eq_true (eq_of_beq e), fun e => beq_iff_eq.mpr (of_decide_eq_true e)⟩
            · simp [c_bind, c_into, c_then, v_K, v_V, v_vR, v_Op, v_Un, v_bOf, v_isB, v_isBx, v_bAnd, v_bOr, v_bNot, v_eAnd, v_eOr, v_eNot, v_eIf, v_aNil, v_aCons, v_Tup, v_Lst, v_Dct, v_Call, v_CallK, v_Bi, v_Isi, v_Cut, v_oNone, v_oSome, v_vO, v_End, v_Seq, v_If, v_Ret, v_Expr, v_Set, v_Par, v_Raise, v_For, v_Put, v_fnx, v_frt, v_fex, v_of, v_add, v_sub, v_neg, v_rel, v_abs, v_lenT, v_lenS, v_max, v_min, v_intB, v_intI, v_gcd, v_cutT, v_listT, v_backT, v_eqI, v_eqS, List.replicate, small, atI, ixN, f_law_is_fraction, b_law_is_fraction, e1', isF, w2, w4, isI, hu, hu', v0, v1, hl, v_eqT2, hs]
          · have hu' : ¬ 0 < u := by omega
            refine ⟨?_, ?_⟩
            · simp [c_bind, c_into, c_then, v_K, v_V, v_vR, v_Op, v_Un, v_bOf, v_isB, v_isBx, v_bAnd, v_bOr, v_bNot, v_eAnd, v_eOr, v_eNot, v_eIf, v_aNil, v_aCons, v_Tup, v_Lst, v_Dct, v_Call, v_CallK, v_Bi, v_Isi, v_Cut, v_oNone, v_oSome, v_vO, v_End, v_Seq, v_If, v_Ret, v_Expr, v_Set, v_Par, v_Raise, v_For, v_Put, v_fnx, v_frt, v_fex, v_of, v_add, v_sub, v_neg, v_rel, v_abs, v_lenT, v_lenS, v_max, v_min, v_intB, v_intI, v_gcd, v_cutT, v_listT, v_backT, v_eqI, v_eqS, List.replicate, small, atI, ixN, fis_fraction, bis_fraction, e1', isF, w1, w3, isI, hu, v_SetT, tgT, setAll]
            · simp [c_bind, c_into, c_then, v_K, v_V, v_vR, v_Op, v_Un, v_bOf, v_isB, v_isBx, v_bAnd, v_bOr, v_bNot, v_eAnd, v_eOr, v_eNot, v_eIf, v_aNil, v_aCons, v_Tup, v_Lst, v_Dct, v_Call, v_CallK, v_Bi, v_Isi, v_Cut, v_oNone, v_oSome, v_vO, v_End, v_Seq, v_If, v_Ret, v_Expr, v_Set, v_Par, v_Raise, v_For, v_Put, v_fnx, v_frt, v_fex, v_of, v_add, v_sub, v_neg, v_rel, v_abs, v_lenT, v_lenS, v_max, v_min, v_intB, v_intI, v_gcd, v_cutT, v_listT, v_backT, v_eqI, v_eqS, List.replicate, small, atI, ixN, f_law_is_fraction, b_law_is_fraction, e1', isF, w2, w4, isI, hu, hu', v0, v1]
        · have hy' : isI y = false := by simpa using hy
          have hf : isF (.tup [x, y]) = false := by
            cases x <;> first | rfl | (cases y <;> first | rfl | cases hy')
          rw [hf]
          exact ⟨by simp [c_bind, c_into, c_then, v_K, v_V, v_vR, v_Op, v_Un, v_bOf, v_isB, v_isBx, v_bAnd, v_bOr, v_bNot, v_eAnd, v_eOr, v_eNot, v_eIf, v_aNil, v_aCons, v_Tup, v_Lst, v_Dct, v_Call, v_CallK, v_Bi, v_Isi, v_Cut, v_oNone, v_oSome, v_vO, v_End, v_Seq, v_If, v_Ret, v_Expr, v_Set, v_Par, v_Raise, v_For, v_Put, v_fnx, v_frt, v_fex, v_of, v_add, v_sub, v_neg, v_rel, v_abs, v_lenT, v_lenS, v_max, v_min, v_intB, v_intI, v_gcd, v_cutT, v_listT, v_backT, v_eqI, v_eqS, List.replicate, small, atI, ixN, fis_fraction, bis_fraction, e1', w1, w3, hx, hy', v_SetT, tgT, setAll], by simp [c_bind, c_into, c_then, v_K, v_V, v_vR, v_Op, v_Un, v_bOf, v_isB, v_isBx, v_bAnd, v_bOr, v_bNot, v_eAnd, v_eOr, v_eNot, v_eIf, v_aNil, v_aCons, v_Tup, v_Lst, v_Dct, v_Call, v_CallK, v_Bi, v_Isi, v_Cut, v_oNone, v_oSome, v_vO, v_End, v_Seq, v_If, v_Ret, v_Expr, v_Set, v_Par, v_Raise, v_For, v_Put, v_fnx, v_frt, v_fex, v_of, v_add, v_sub, v_neg, v_rel, v_abs, v_lenT, v_lenS, v_max, v_min, v_intB, v_intI, v_gcd, v_cutT, v_listT, v_backT, v_eqI, v_eqS, List.replicate, small, atI, ixN, f_law_is_fraction, b_law_is_fraction, e1', w2, w4, hx, hy', v0, v1]⟩
      · have hx' : isI x = false := by simpa using hx
        have hf : isF (.tup [x, y]) = false := by cases x <;> first | rfl | cases hx'
        rw [hf]
        exact ⟨by simp [c_bind, c_into, c_then, v_K, v_V, v_vR, v_Op, v_Un, v_bOf, v_isB, v_isBx, v_bAnd, v_bOr, v_bNot, v_eAnd, v_eOr, v_eNot, v_eIf, v_aNil, v_aCons, v_Tup, v_Lst, v_Dct, v_Call, v_CallK, v_Bi, v_Isi, v_Cut, v_oNone, v_oSome, v_vO, v_End, v_Seq, v_If, v_Ret, v_Expr, v_Set, v_Par, v_Raise, v_For, v_Put, v_fnx, v_frt, v_fex, v_of, v_add, v_sub, v_neg, v_rel, v_abs, v_lenT, v_lenS, v_max, v_min, v_intB, v_intI, v_gcd, v_cutT, v_listT, v_backT, v_eqI, v_eqS, List.replicate, small, atI, ixN, fis_fraction, bis_fraction, e1', w1, w3, hx', v_SetT, tgT, setAll], by simp [c_bind, c_into, c_then, v_K, v_V, v_vR, v_Op, v_Un, v_bOf, v_isB, v_isBx, v_bAnd, v_bOr, v_bNot, v_eAnd, v_eOr, v_eNot, v_eIf, v_aNil, v_aCons, v_Tup, v_Lst, v_Dct, v_Call, v_CallK, v_Bi, v_Isi, v_Cut, v_oNone, v_oSome, v_vO, v_End, v_Seq, v_If, v_Ret, v_Expr, v_Set, v_Par, v_Raise, v_For, v_Put, v_fnx, v_frt, v_fex, v_of, v_add, v_sub, v_neg, v_rel, v_abs, v_lenT, v_lenS, v_max, v_min, v_intB, v_intI, v_gcd, v_cutT, v_listT, v_backT, v_eqI, v_eqS, List.replicate, small, atI, ixN, f_law_is_fraction, b_law_is_fraction, e1', w2, w4, hx', v0, v1]⟩
  | ref m =>
    refine other ?_ rfl
    rcases ty_ref e with rfl | rfl <;> decide
  | opq => cases e
  | adr a => cases e
  | ty s => cases e
  | _ => cases e; exact other (by decide) rfl
theorem seq_nx {f g : Ss} {fr fr1 : Fr} {h h1 : Hq} (e : f fr h = .nx fr1 h1) : sSeq f g fr h = g fr1 h1 := by unfold sSeq; rw [e]; rfl
theorem seq_rt {f g : Ss} {fr : Fr} {d : D} {h h1 : Hq} (e : f fr h = .rt d h1) : sSeq f g fr h = .rt d h1 := by unfold sSeq; rw [e]; rfl
theorem Step.lst {p q : Nat} {h h' : Hq} {l : List D} (S : Step p h h') (n : q ≠ p) (e : lstAt h q = some l) : lstAt h' q = some l := by
  have e' := lstAt_some e
  have := S.old q n (lstAt_lt e)
  unfold lstAt
  rw [this, e']
theorem Step.get {p q : Nat} {h h' : Hq} {c : Cell} (S : Step p h h') (n : q ≠ p) (e : h[q]? = some c) : h'[q]? = some c := by
  rw [S.old q n (List.getElem?_eq_some_iff.mp e).1, e]
theorem PotAt.lt {h : Hq} {p : Nat} {n : Int} (P : PotAt h p n) : p < h.length := by
  obtain ⟨a, b, c, e, _⟩ := P.ex
  exact lstAt_lt e
theorem lst_new (h : Hq) (l : List D) : lstAt (h ++ [.lst l]) h.length = some l := by unfold lstAt; simp
theorem div_in {o g B : Int} (hg : 0 < g) (a : -B < o) (b : o < B) : -B < o / g ∧ o / g < B := by
  by_cases h : 0 ≤ o
  · have h1 := Int.ediv_nonneg h (show 0 ≤ g by omega)
    have h2 := Int.ediv_le_self g h
    omega
  · have h1 : o ≤ o / g := by
      refine Int.le_ediv_of_mul_le hg ?_
      have := Int.mul_le_mul_of_nonpos_left (a := o) (b := g) (c := 1) (by omega) (by omega)
      omega
    have h2 := Int.ediv_neg_of_neg_of_pos (show o < 0 by omega) hg
    omega
theorem fraction_ok {h : Hq} {p : Nat} {n : Int} (P : PotAt h p n) (hn : n < 999000) :
    ∃ o u h', f_law_fraction [.ref p] h = .ok (.tup [.int o, .int u]) h' ∧ -(2 ^ 150) < o ∧ o < 2 ^ 150 ∧ 0 < u ∧ u < 2 ^ 150 ∧ PotAt h' p (n + 10) ∧ Step p h h' := by
  have hp := P.lt
  obtain ⟨i, h2, e2, i0, i1, P2, S2⟩ := take_ok (many := 6) P (by omega) (by decide) (by decide)
  have hp2 := P2.lt
  obtain ⟨top, low, t0, t1, w0, w1, et, ew⟩ : ∃ top low : Int, 0 < top ∧ top < 2 ^ 120 ∧ 0 < low ∧ low < 2 ^ 120 ∧ atI [D.int 6, D.int 6, D.int 30, D.int 1000, D.int (10 ^ 30), D.int (10 ^ 30)] i = some (.int top) ∧
      atI [D.int 6, D.int 2, D.int 30, D.int 1000, D.int (10 ^ 30), D.int 9] i = some (.int low) := by
    rcases (by omega : i = 0 ∨ i = 1 ∨ i = 2 ∨ i = 3 ∨ i = 4 ∨ i = 5) with rfl | rfl | rfl | rfl | rfl | rfl
    · exact ⟨6, 6, by decide, by decide, by decide, by decide, rfl, rfl⟩
    · exact ⟨6, 2, by decide, by decide, by decide, by decide, rfl, rfl⟩
    · exact ⟨30, 30, by decide, by decide, by decide, by decide, rfl, rfl⟩
    · exact ⟨1000, 1000, by decide, by decide, by decide, by decide, rfl, rfl⟩
    · exact ⟨10 ^ 30, 10 ^ 30, by decide, by decide, by decide, by decide, rfl, rfl⟩
    · exact ⟨10 ^ 30, 9, by decide, by decide, by decide, by decide, rfl, rfl⟩
  have s1 : (sAsg (eCall 2 f_law_take (aCons (eV 0) (aCons (eK (.int 6)) (aNil)))) (tgN 1)) [some (.ref p), none, none] h = .nx [some (.ref p), some (.int i), none] h2 := by simp [c_bind, c_into, c_then, v_K, v_V, v_vR, v_Op, v_Un, v_bOf, v_isB, v_isBx, v_bAnd, v_bOr, v_bNot, v_eAnd, v_eOr, v_eNot, v_eIf, v_aNil, v_aCons, v_Tup, v_Lst, v_Dct, v_Call, v_CallK, v_Bi, v_Isi, v_Cut, v_oNone, v_oSome, v_vO, v_End, v_Seq, v_If, v_Ret, v_Expr, v_Set, v_Par, v_Raise, v_For, v_Put, v_fnx, v_frt, v_fex, v_of, v_add, v_sub, v_neg, v_rel, v_abs, v_lenT, v_lenS, v_max, v_min, v_intB, v_intI, v_gcd, v_cutT, v_listT, v_backT, v_eqI, v_eqS, List.replicate, small, atI, ixN, e2]
  obtain ⟨T, hT⟩ : ∃ T : List Cell, T = [.lst [D.int 6, D.int 6, D.int 30, D.int 1000, D.int (10 ^ 30), D.int (10 ^ 30)]] := ⟨_, rfl⟩
  have l3 : lstAt (h2 ++ T) h2.length = some [D.int 6, D.int 6, D.int 30, D.int 1000, D.int (10 ^ 30), D.int (10 ^ 30)] := by subst hT; exact lst_new _ _
  have s2 : (sAsg (eOp dIx (eLst (aCons (eK (.int 6)) (aCons (eK (.int 6)) (aCons (eK (.int 30)) (aCons (eK (.int 1000)) (aCons (eOp dPow (eK (.int 10)) (eK (.int 30))) (aCons (eOp dPow (eK (.int 10)) (eK (.int 30))) (aNil)))))))) (eV 1)) (tgN 2)) [some (.ref p), some (.int i), none] h2 = .nx [some (.ref p), some (.int i), some (.int top)] (h2 ++ T) := by
    subst hT
    simp at l3 et
    simp [c_bind, c_into, c_then, v_K, v_V, v_vR, v_Op, v_Un, v_bOf, v_isB, v_isBx, v_bAnd, v_bOr, v_bNot, v_eAnd, v_eOr, v_eNot, v_eIf, v_aNil, v_aCons, v_Tup, v_Lst, v_Dct, v_Call, v_CallK, v_Bi, v_Isi, v_Cut, v_oNone, v_oSome, v_vO, v_End, v_Seq, v_If, v_Ret, v_Expr, v_Set, v_Par, v_Raise, v_For, v_Put, v_fnx, v_frt, v_fex, v_of, v_add, v_sub, v_neg, v_rel, v_abs, v_lenT, v_lenS, v_max, v_min, v_intB, v_intI, v_gcd, v_cutT, v_listT, v_backT, v_eqI, v_eqS, List.replicate, small, atI, ixN, v_pow10, v_ixL l3 et]
  obtain ⟨x, h4, e4, x0, x1, P4, S4⟩ := great_ok (many := 2 * top + 1) (P2.app T) (by omega) (by omega) (Int.lt_of_le_of_lt (show 2 * top + 1 ≤ 2 * 2 ^ 120 by omega) (by decide))
  obtain ⟨U, hU⟩ : ∃ U : List Cell, U = [.lst [D.int 6, D.int 2, D.int 30, D.int 1000, D.int (10 ^ 30), D.int 9]] := ⟨_, rfl⟩
  have l5 : lstAt (h4 ++ U) h4.length = some [D.int 6, D.int 2, D.int 30, D.int 1000, D.int (10 ^ 30), D.int 9] := by subst hU; exact lst_new _ _
  obtain ⟨y, h6, e6, y0, y1, P6, S6⟩ := great_ok (many := low) (P4.app U) (by omega) w0 (Int.lt_trans w1 (by decide))
  have m2 : mulOk 2 top = true := mulOk_of (by decide) (Nat.lt_of_lt_of_le (lgI (k := 120) (by omega) t1 (by decide)) (by decide))
  have hl := lowL_ok (h := h6) (o := x - top) (u := 1 + y) (by omega) (Int.lt_of_lt_of_le (show 1 + y < 1 + 2 ^ 120 by omega) (by decide))
  have s3 : (sRet (eCall 2 f_law_lowest (aCons (eOp dSub (eCall 2 f_law_great (aCons (eV 0) (aCons (eOp dAdd (eOp dMul (eK (.int 2)) (eV 2)) (eK (.int 1))) (aNil)))) (eV 2)) (aCons (eOp dAdd (eK (.int 1)) (eCall 2 f_law_great (aCons (eV 0) (aCons (eOp dIx (eLst (aCons (eK (.int 6)) (aCons (eK (.int 2)) (aCons (eK (.int 30)) (aCons (eK (.int 1000)) (aCons (eOp dPow (eK (.int 10)) (eK (.int 30))) (aCons (eK (.int 9)) (aNil)))))))) (eV 1)) (aNil))))) (aNil))))) [some (.ref p), some (.int i), some (.int top)] (h2 ++ T) = .rt (.tup [.int ((x - top) / gI (x - top) (1 + y)), .int ((1 + y) / gI (x - top) (1 + y))]) h6 := by
    subst hU
    simp at l5 ew e6
    simp [c_bind, c_into, c_then, v_K, v_V, v_vR, v_Op, v_Un, v_bOf, v_isB, v_isBx, v_bAnd, v_bOr, v_bNot, v_eAnd, v_eOr, v_eNot, v_eIf, v_aNil, v_aCons, v_Tup, v_Lst, v_Dct, v_Call, v_CallK, v_Bi, v_Isi, v_Cut, v_oNone, v_oSome, v_vO, v_End, v_Seq, v_If, v_Ret, v_Expr, v_Set, v_Par, v_Raise, v_For, v_Put, v_fnx, v_frt, v_fex, v_of, v_add, v_sub, v_neg, v_rel, v_abs, v_lenT, v_lenS, v_max, v_min, v_intB, v_intI, v_gcd, v_cutT, v_listT, v_backT, v_eqI, v_eqS, List.replicate, small, atI, ixN, v_pow10, v_mul m2, e4, v_ixL l5 ew, e6, hl]
  have g0 := gI_pos (o := x - top) (u := 1 + y) (by omega)
  have c1 : (2 : Int) ^ 120 < 2 ^ 150 := by decide
  have c2 : (2 : Int) * 2 ^ 120 + 1 < 2 ^ 150 := by decide
  have b1 := div_in (o := x - top) (B := 2 ^ 150) g0 (by omega) (by omega)
  have b2 := div_in (o := 1 + y) (B := 2 ^ 150) g0 (by omega) (by omega)
  have b3 : 0 < (1 + y) / gI (x - top) (1 + y) := Int.ediv_pos_of_pos_of_dvd (by omega) (by omega) (by unfold gI; have := Int.gcd_dvd_right (x - top) (1 + y); exact this)
  refine ⟨_, _, h6, ?_, b1.1, b1.2, b3, b2.2, P6.mono (by omega), (S2.trans (Step.app p h2 T)).trans (S4.trans ((Step.app p h4 U).trans S6))⟩
  show fin (b_law_fraction [some (.ref p), none, none] h) = _
  unfold b_law_fraction
  rw [seq_nx s1, seq_nx s2, seq_rt s3]
  rfl
/-- a number that was bent -/
inductive Bent1 (p : Nat) (h : Hq) : D → Prop
  | int (i : Int) : -(2 ^ 300) < i → i < 2 ^ 300 → Bent1 p h (.int i)
  | non : Bent1 p h .non
  | tru : Bent1 p h (.bl true)
  | str (i : Int) : -(2 ^ 300) < i → i < 2 ^ 300 → Bent1 p h (.str (toString i))
  | tup (i : Int) : -(2 ^ 300) < i → i < 2 ^ 300 → Bent1 p h (.tup [.int i])
  | dct (m : Nat) : m ≠ p → h[m]? = some (.dct []) → Bent1 p h (.ref m)
theorem Bent1.step {p : Nat} {h h' : Hq} {d : D} (N : Bent1 p h d) (S : Step p h h') : Bent1 p h' d := by
  cases N with
  | int i a b => exact .int i a b
  | non => exact .non
  | tru => exact .tru
  | str i a b => exact .str i a b
  | tup i a b => exact .tup i a b
  | dct m a b => exact .dct m a (S.get a b)
theorem bent_int {h : Hq} {p : Nat} {n i deep : Int} {k : Nat} (P : PotAt h p n) (hn : n < 999000) (i0 : -(2 ^ 200) < i) (i1 : i < 2 ^ 200) :
    ∃ d h', f_law_bent (k + 1) [.ref p, .int i, .int deep] h = .ok d h' ∧ Bent1 p h' d ∧ PotAt h' p (n + 1) ∧ Step p h h' := by
  obtain ⟨j, h2, e2, j0, j1, P2, S2⟩ := take_ok (many := 12) P (by omega) (by decide) (by decide)
  have hp2 := P2.lt
  obtain ⟨L, hL⟩ : ∃ L : List D, L = [.int (i + 1), .int (0 - i), .int (i - 1), .int (2 * i), .bl true, .non, .str (toString i), .tup [.int i], .int 0, .int (10 ^ 59), .int 1, .ref h2.length] := ⟨_, rfl⟩
  obtain ⟨T, hT⟩ : ∃ T : List Cell, T = [.dct [], .lst L] := ⟨_, rfl⟩
  have lL : lstAt (h2 ++ T) (h2.length + 1) = some L := by subst hT; unfold lstAt; simp
  have lD : (h2 ++ T)[h2.length]? = some (.dct []) := by subst hT; simp
  have m2 : mulOk 2 i = true := mulOk_of (by decide) (Nat.lt_of_lt_of_le (lgI (k := 200) (by omega) i1 (by decide)) (by decide))
  have bo : bitsOk i = true := decide_eq_true (Nat.lt_of_lt_of_le (lgI (k := 200) i0 i1 (by decide)) (by decide))
  have g1 : ∀ h, gIsi "tuple" (.int i) h = .ok (.bl false) h := fun _ => rfl
  have g2 : ∀ h, gIsi "bool" (.int i) h = .ok (.bl false) h := fun _ => rfl
  have g3 : ∀ h, gIsi "int" (.int i) h = .ok (.bl true) h := fun _ => rfl
  have c1 : (2 : Int) ^ 200 * 4 < 2 ^ 300 := by decide
  have fin_ : ∀ d, atI L j = some d → Bent1 p (h2 ++ T) d → ∃ d h', f_law_bent (k + 1) [.ref p, .int i, .int deep] h = .ok d h' ∧ Bent1 p h' d ∧ PotAt h' p (n + 1) ∧ Step p h h' := by
    intro d ed nd
    refine ⟨d, h2 ++ T, ?_, nd, P2.app T, S2.trans (Step.app p h2 T)⟩
    subst hT
    subst hL
    simp at lL ed
    simp [c_bind, c_into, c_then, v_K, v_V, v_vR, v_Op, v_Un, v_bOf, v_isB, v_isBx, v_bAnd, v_bOr, v_bNot, v_eAnd, v_eOr, v_eNot, v_eIf, v_aNil, v_aCons, v_Tup, v_Lst, v_Dct, v_Call, v_CallK, v_Bi, v_Isi, v_Cut, v_oNone, v_oSome, v_vO, v_End, v_Seq, v_If, v_Ret, v_Expr, v_Set, v_Par, v_Raise, v_For, v_Put, v_fnx, v_frt, v_fex, v_of, v_add, v_sub, v_neg, v_rel, v_abs, v_lenT, v_lenS, v_max, v_min, v_intB, v_intI, v_gcd, v_cutT, v_listT, v_backT, v_eqI, v_eqS, List.replicate, small, atI, ixN, f_law_bent, b_law_bent, e2, g1, g2, g3, v_mul m2, v_strI bo, v_pow10, v_ixL lL ed]
  rcases (by omega : j = 0 ∨ j = 1 ∨ j = 2 ∨ j = 3 ∨ j = 4 ∨ j = 5 ∨ j = 6 ∨ j = 7 ∨ j = 8 ∨ j = 9 ∨ j = 10 ∨ j = 11) with rfl | rfl | rfl | rfl | rfl | rfl | rfl | rfl | rfl | rfl | rfl | rfl
  · exact fin_ (.int (i + 1)) (by subst hL; rfl) (.int _ (by omega) (by omega))
  · exact fin_ (.int (0 - i)) (by subst hL; rfl) (.int _ (by omega) (by omega))
  · exact fin_ (.int (i - 1)) (by subst hL; rfl) (.int _ (by omega) (by omega))
  · exact fin_ (.int (2 * i)) (by subst hL; rfl) (.int _ (by omega) (by omega))
  · exact fin_ (.bl true) (by subst hL; rfl) .tru
  · exact fin_ .non (by subst hL; rfl) .non
  · exact fin_ (.str (toString i)) (by subst hL; rfl) (.str i (by omega) (by omega))
  · exact fin_ (.tup [.int i]) (by subst hL; rfl) (.tup i (by omega) (by omega))
  · exact fin_ (.int 0) (by subst hL; rfl) (.int _ (by decide) (by decide))
  · exact fin_ (.int (10 ^ 59)) (by subst hL; rfl) (.int _ (by decide) (by decide))
  · exact fin_ (.int 1) (by subst hL; rfl) (.int _ (by decide) (by decide))
  · exact fin_ (.ref h2.length) (by subst hL; rfl) (.dct _ (by omega) lD)
/-- things that are asked of -/
inductive Thg (p : Nat) (h : Hq) : D → Prop
  | int (i : Int) : -(2 ^ 300) < i → i < 2 ^ 300 → Thg p h (.int i)
  | tup (l : List Int) : l.length ≤ 4 → (∀ i ∈ l, -(2 ^ 300) < i ∧ i < 2 ^ 300) → Thg p h (.tup (l.map .int))
  | lst (m : Nat) (l : List Int) : m ≠ p → lstAt h m = some (l.map .int) → l.length ≤ 4 → (∀ i ∈ l, -(2 ^ 300) < i ∧ i < 2 ^ 300) → Thg p h (.ref m)
  | left (d : D) (u : Int) : Bent1 p h d → -(2 ^ 300) < u → u < 2 ^ 300 → Thg p h (.tup [d, .int u])
  | right (o : Int) (d : D) : Bent1 p h d → -(2 ^ 300) < o → o < 2 ^ 300 → Thg p h (.tup [.int o, d])
theorem Thg.step {p : Nat} {h h' : Hq} {d : D} (N : Thg p h d) (S : Step p h h') : Thg p h' d := by
  cases N with
  | int i a b => exact .int i a b
  | tup l a b => exact .tup l a b
  | lst m l a b c e => exact .lst m l a (S.lst a b) c e
  | left d u a b c => exact .left d u (a.step S) b c
  | right o d a b c => exact .right o d (a.step S) b c
theorem eq_nil {h : Hq} {o u : Int} : dEqs true (.tup [.int o, .int u]) (.tup []) h = .ok (.bl true) h := by
  unfold dEqs eqQ dEqP
  simp [toPy, opts, SeqAt.shaped, PyData.eqv, PyData.eqvAll, PyData.canLay0, PyData.canLayAll0, PyData.depth, PyData.depthAll]
theorem bent_tup {h : Hq} {p : Nat} {n o u deep : Int} {k : Nat} (P : PotAt h p n) (hn : n < 998000) (hd : 0 < deep) (o0 : -(2 ^ 150) < o) (o1 : o < 2 ^ 150) (u0 : -(2 ^ 150) < u) (u1 : u < 2 ^ 150) :
    ∃ d h', f_law_bent (k + 2) [.ref p, .tup [.int o, .int u], .int deep] h = .ok d h' ∧ Thg p h' d ∧ PotAt h' p (n + 10) ∧ Step p h h' := by
  obtain ⟨j, h2, e2, j0, j1, P2, S2⟩ := take_ok (many := 12) P (by omega) (by decide) (by decide)
  have hp2 := P2.lt
  have c0 : (2 : Int) ^ 150 < 2 ^ 200 := by decide
  have c1 : (2 : Int) ^ 150 < 2 ^ 300 := by decide
  have g1 : ∀ h, gIsi "tuple" (.tup [.int o, .int u]) h = .ok (.bl true) h := fun _ => rfl
  by_cases hj : 3 < j
  · obtain ⟨i, h3, e3, i0, i1, P3, S3⟩ := take_ok (many := 2) P2 (by omega) (by decide) (by decide)
    rcases (by omega : i = 0 ∨ i = 1) with rfl | rfl
    · obtain ⟨d, h4, e4, B, P4, S4⟩ := bent_int (k := k) (deep := deep - 1) P3 (by omega) (show -(2 ^ 200) < o by omega) (by omega)
      have q1 : cutD [D.int o, D.int u] none (some 0) = [] := rfl
      have q2 : cutD [D.int o, D.int u] (some 1) none = [.int u] := rfl
      have x0 : ∀ h, dIx (.tup [.int o, .int u]) (.int 0) h = .ok (.int o) h := fun h => v_ixT rfl
      refine ⟨.tup [d, .int u], h4, ?_, .left d u B (by omega) (by omega), P4.mono (by omega), (S2.trans S3).trans S4⟩
      show ofBody 3 2 (b_law_bent (f_law_bent (k + 1))) [.ref p, .tup [.int o, .int u], .int deep] h = _
      simp [c_bind, c_into, c_then, v_K, v_V, v_vR, v_Op, v_Un, v_bOf, v_isB, v_isBx, v_bAnd, v_bOr, v_bNot, v_eAnd, v_eOr, v_eNot, v_eIf, v_aNil, v_aCons, v_Tup, v_Lst, v_Dct, v_Call, v_CallK, v_Bi, v_Isi, v_Cut, v_oNone, v_oSome, v_vO, v_End, v_Seq, v_If, v_Ret, v_Expr, v_Set, v_Par, v_Raise, v_For, v_Put, v_fnx, v_frt, v_fex, v_of, v_add, v_sub, v_neg, v_rel, v_abs, v_lenT, v_lenS, v_max, v_min, v_intB, v_intI, v_gcd, v_cutT, v_listT, v_backT, v_eqI, v_eqS, List.replicate, small, atI, ixN, b_law_bent, e2, e3, g1, hj, hd, eq_nil, x0, e4, q1, q2, v_addT]
    · obtain ⟨d, h4, e4, B, P4, S4⟩ := bent_int (k := k) (deep := deep - 1) P3 (by omega) (show -(2 ^ 200) < u by omega) (by omega)
      have q1 : cutD [D.int o, D.int u] none (some 1) = [.int o] := rfl
      have q2 : cutD [D.int o, D.int u] (some 2) none = [] := rfl
      have x0 : ∀ h, dIx (.tup [.int o, .int u]) (.int 1) h = .ok (.int u) h := fun h => v_ixT rfl
      refine ⟨.tup [.int o, d], h4, ?_, .right o d B (by omega) (by omega), P4.mono (by omega), (S2.trans S3).trans S4⟩
      show ofBody 3 2 (b_law_bent (f_law_bent (k + 1))) [.ref p, .tup [.int o, .int u], .int deep] h = _
      simp [c_bind, c_into, c_then, v_K, v_V, v_vR, v_Op, v_Un, v_bOf, v_isB, v_isBx, v_bAnd, v_bOr, v_bNot, v_eAnd, v_eOr, v_eNot, v_eIf, v_aNil, v_aCons, v_Tup, v_Lst, v_Dct, v_Call, v_CallK, v_Bi, v_Isi, v_Cut, v_oNone, v_oSome, v_vO, v_End, v_Seq, v_If, v_Ret, v_Expr, v_Set, v_Par, v_Raise, v_For, v_Put, v_fnx, v_frt, v_fex, v_of, v_add, v_sub, v_neg, v_rel, v_abs, v_lenT, v_lenS, v_max, v_min, v_intB, v_intI, v_gcd, v_cutT, v_listT, v_backT, v_eqI, v_eqS, List.replicate, small, atI, ixN, b_law_bent, e2, e3, g1, hj, hd, eq_nil, x0, e4, q1, q2, v_addT]
  · obtain ⟨L, hL⟩ : ∃ L : List D, L = [.ref h2.length, .tup [.int u], .tup [.int o, .int u, .int o], .tup [.int u, .int o], .tup [.tup [.int o, .int u]], .tup [], .non, .tup [.int o]] := ⟨_, rfl⟩
    obtain ⟨T, hT⟩ : ∃ T : List Cell, T = [.lst [.int o, .int u], .lst L] := ⟨_, rfl⟩
    have lL : lstAt (h2 ++ T) (h2.length + 1) = some L := by subst hT; unfold lstAt; simp
    have lA : lstAt (h2 ++ T) h2.length = some [.int o, .int u] := by subst hT; unfold lstAt; simp
    have q1 : cutD [D.int o, D.int u] (some 1) none = [.int u] := rfl
    have q2 : cutD [D.int o, D.int u] none (some 1) = [.int o] := rfl
    have q3 : cutD [D.int o, D.int u] none (some (-1)) = [.int o] := rfl
    have fin_ : ∀ d, atI L (j % 8) = some d → Thg p (h2 ++ T) d → ∃ d h', f_law_bent (k + 2) [.ref p, .tup [.int o, .int u], .int deep] h = .ok d h' ∧ Thg p h' d ∧ PotAt h' p (n + 10) ∧ Step p h h' := by
      intro d ed nd
      refine ⟨d, h2 ++ T, ?_, nd, (P2.app T).mono (by omega), S2.trans (Step.app p h2 T)⟩
      subst hT
      subst hL
      show ofBody 3 2 (b_law_bent (f_law_bent (k + 1))) [.ref p, .tup [.int o, .int u], .int deep] h = _
      simp [c_bind, c_into, c_then, v_K, v_V, v_vR, v_Op, v_Un, v_bOf, v_isB, v_isBx, v_bAnd, v_bOr, v_bNot, v_eAnd, v_eOr, v_eNot, v_eIf, v_aNil, v_aCons, v_Tup, v_Lst, v_Dct, v_Call, v_CallK, v_Bi, v_Isi, v_Cut, v_oNone, v_oSome, v_vO, v_End, v_Seq, v_If, v_Ret, v_Expr, v_Set, v_Par, v_Raise, v_For, v_Put, v_fnx, v_frt, v_fex, v_of, v_add, v_sub, v_neg, v_rel, v_abs, v_lenT, v_lenS, v_max, v_min, v_intB, v_intI, v_gcd, v_cutT, v_listT, v_backT, v_eqI, v_eqS, List.replicate, small, atI, ixN, b_law_bent, e2, g1, hj, hd, eq_nil, q1, q2, q3, v_addT, v_mod, v_ixL lL ed]
    rcases (by omega : j = 0 ∨ j = 1 ∨ j = 2 ∨ j = 3) with rfl | rfl | rfl | rfl
    · exact fin_ (.ref h2.length) (by subst hL; rfl) (.lst _ [o, u] (by omega) lA (by simp) (by simp; omega))
    · exact fin_ (.tup [.int u]) (by subst hL; rfl) (.tup [u] (by simp) (by simp; omega))
    · exact fin_ (.tup [.int o, .int u, .int o]) (by subst hL; rfl) (.tup [o, u, o] (by simp) (by simp; omega))
    · exact fin_ (.tup [.int u, .int o]) (by subst hL; rfl) (.tup [u, o] (by simp) (by simp; omega))
/-! ### what is shown fits -/
structure Sh (q : PyData) (k w : Nat) : Prop where
  sh : q.showable = true
  hd : q.hasDict = false
  dp : q.depth ≤ k
  ls : q.leavesShort 2000 = true
  wt : q.weight ≤ w
theorem fits_of {q : PyData} (h1 : q.showable = true) (h2 : q.hasDict = false ∨ noLst q = true) (h3 : q.depth ≤ 60) (h4 : q.leavesShort 2000 = true) (h5 : q.weight ≤ 8000) : shows q = true := by
  have h6 := PyData.shown_le 2000 (by decide) q h4
  have h7 : q.shown.length ≤ 16777216 := by
    have : (2000 + 2) * q.weight ≤ (2000 + 2) * 8000 := Nat.mul_le_mul_left _ h5
    omega
  unfold shows small
  rcases h2 with h2 | h2 <;> simp [h1, h2, h3, h7]
theorem Sh.fits {q : PyData} {k w : Nat} (s : Sh q k w) (hk : k ≤ 60) (hw : w ≤ 8000) : shows q = true := fits_of s.sh (.inl s.hd) (Nat.le_trans s.dp hk) s.ls (Nat.le_trans s.wt hw)
theorem lg300 {i : Int} (a : -(2 ^ 300) < i) (b : i < 2 ^ 300) : i.natAbs.log2 < 300 := lgI (k := 300) a b (by decide)
theorem Sh.int {i : Int} (a : -(2 ^ 300) < i) (b : i < 2 ^ 300) : Sh (.int i) 0 301 := by
  have h1 := lg300 a b
  refine ⟨decide_eq_true (by omega), rfl, Nat.le_refl _, decide_eq_true ?_, ?_⟩
  · exact Nat.le_trans (PyProof.Rows.int_text_len_1921 (by omega)) (by decide)
  · show (if i == 0 then 0 else i.natAbs.log2 + 1) ≤ 301
    split <;> omega
theorem cps_lt (s : String) : (Str.ofString s).cps.toList.all (fun c => decide (c < 16 ^ 8)) = true := by
  rw [Str.ofString_eq_toList]
  simp only [List.all_eq_true, decide_eq_true_eq]
  intro c hc
  obtain ⟨x, _, rfl⟩ := List.mem_map.mp hc
  have := x.valid
  have h2 : x.toNat < 0x110000 := by
    rcases this with q | q
    · exact Nat.lt_of_lt_of_le q (by decide)
    · exact q.2
  omega
theorem Sh.text {i : Int} (a : -(2 ^ 300) < i) (b : i < 2 ^ 300) : Sh (.str (toString i)) 0 1921 := by
  have h1 := lg300 a b
  exact ⟨rfl, rfl, Nat.le_refl _, cps_lt _, PyProof.Rows.int_text_len_1921 (by omega)⟩
theorem seq_sh {k w : Nat} : ∀ {ps : List PyData}, (∀ q ∈ ps, Sh q k w) → PyData.showableAll ps = true ∧ PyData.hasDictAll ps = false ∧ PyData.depthAll ps ≤ k ∧ PyData.leavesShortAll 2000 ps = true ∧ PyData.weightAll ps ≤ ps.length * (w + 1)
  | [], _ => ⟨rfl, rfl, Nat.zero_le _, rfl, by simp [PyData.weightAll]⟩
  | q :: ps, h => by
    obtain ⟨a1, a2, a3, a4, a5⟩ := h q (by simp)
    obtain ⟨b1, b2, b3, b4, b5⟩ := seq_sh (ps := ps) fun r hr => h r (by simp [hr])
    refine ⟨by simp [PyData.showableAll, a1, b1], by simp [PyData.hasDictAll, a2, b2], ?_, by simp [PyData.leavesShortAll, a4, b4], ?_⟩
    · show max q.depth (PyData.depthAll ps) ≤ k
      omega
    · show q.weight + 1 + PyData.weightAll ps ≤ (ps.length + 1) * (w + 1)
      rw [Nat.add_mul]
      omega
theorem Sh.tup {k w : Nat} {ps : List PyData} (h : ∀ q ∈ ps, Sh q k w) : Sh (.tuple ps) (k + 1) (ps.length * (w + 1)) := by
  obtain ⟨a1, a2, a3, a4, a5⟩ := seq_sh h
  exact ⟨a1, a2, Nat.add_le_add_right a3 1, a4, a5⟩
theorem Sh.lst {k w : Nat} {ps : List PyData} (h : ∀ q ∈ ps, Sh q k w) : Sh (.list ps) (k + 1) (ps.length * (w + 1)) := by
  obtain ⟨a1, a2, a3, a4, a5⟩ := seq_sh h
  exact ⟨a1, a2, Nat.add_le_add_right a3 1, a4, a5⟩
theorem Sh.more {q : PyData} {k w k' w' : Nat} (s : Sh q k w) (hk : k ≤ k') (hw : w ≤ w') : Sh q k' w' := ⟨s.sh, s.hd, Nat.le_trans s.dp hk, s.ls, Nat.le_trans s.wt hw⟩
theorem opts_int {h : Hq} {n : Nat} : ∀ l : List Int, opts (toPyR h (n + 1)) (l.map D.int) = some (l.map PyData.int)
  | [] => rfl
  | i :: l => by
    have ih := opts_int (h := h) (n := n) l
    simp only [List.map_cons, opts, ih]
    rfl
theorem ints_sh {l : List Int} (h : ∀ i ∈ l, -(2 ^ 300) < i ∧ i < 2 ^ 300) : ∀ q ∈ l.map PyData.int, Sh q 0 301 := by
  intro q hq
  obtain ⟨i, hi, rfl⟩ := List.mem_map.mp hq
  exact Sh.int (h i hi).1 (h i hi).2
/-- a bent number as data -/
theorem bent_py {p : Nat} {h : Hq} {d : D} (B : Bent1 p h d) : ∃ q, (∀ n, toPyR h (n + 3) d = some q) ∧ (Sh q 1 1921 ∨ q = .dict []) := by
  cases B with
  | int i a b => exact ⟨.int i, fun _ => rfl, .inl ((Sh.int a b).more (by decide) (by decide))⟩
  | non => exact ⟨.none, fun _ => rfl, .inl ⟨rfl, rfl, by decide, rfl, by decide⟩⟩
  | tru => exact ⟨.bool true, fun _ => rfl, .inl ⟨rfl, rfl, by decide, rfl, by decide⟩⟩
  | str i a b => exact ⟨.str (toString i), fun _ => rfl, .inl ((Sh.text a b).more (by decide) (by decide))⟩
  | tup i a b => exact ⟨.tuple [.int i], fun n => rfl, .inl ((Sh.tup (ps := [.int i]) (k := 0) (w := 301) (by simp; exact Sh.int a b)).more (by decide) (by simp))⟩
  | dct m a b => exact ⟨.dict [], fun n => by simp [toPyR, b, opts], .inr rfl⟩
theorem thg_shows {p : Nat} {h : Hq} {d : D} (T : Thg p h d) : ∃ q, toPyR h 60 d = some q ∧ shows q = true := by
  cases T with
  | int i a b => exact ⟨.int i, rfl, (Sh.int a b).fits (by decide) (by decide)⟩
  | tup l a b =>
    refine ⟨.tuple (l.map .int), ?_, (Sh.tup (ints_sh b)).fits (by decide) ?_⟩
    · show (opts (toPyR h 59) (l.map D.int)).map PyData.tuple = _
      rw [opts_int]; rfl
    · rw [List.length_map]; omega
  | lst m l a b c e =>
    refine ⟨.list (l.map .int), ?_, (Sh.lst (ints_sh e)).fits (by decide) ?_⟩
    · have b' := lstAt_some b
      have o1 := opts_int (h := h) (n := 58) l
      simp only [toPyR, b', o1]
      rfl
    · rw [List.length_map]; omega
  | left d u B a b =>
    obtain ⟨q, e, s⟩ := bent_py B
    have e1 : toPyR h 60 (.tup [d, .int u]) = some (.tuple [q, .int u]) := by
      show (opts (toPyR h (56 + 3)) [d, .int u]).map PyData.tuple = _
      simp only [opts, e 56]
      rfl
    refine ⟨_, e1, ?_⟩
    rcases s with s | rfl
    · refine (Sh.tup (k := 1) (w := 1921) (ps := [q, .int u]) ?_).fits (by decide) (by simp)
      intro r hr
      simp only [List.mem_cons, List.not_mem_nil, or_false] at hr
      rcases hr with rfl | rfl
      · exact s
      · exact (Sh.int a b).more (by decide) (by decide)
    · obtain ⟨a1, a2, a3, a4, a5⟩ := Sh.int a b
      refine fits_of ?_ (.inr ?_) ?_ ?_ ?_
      · simp [PyData.showable, PyData.showableAll, PyData.showableKv]; exact of_decide_eq_true a1
      · simp [noLst, noLsts, noLstK]
      · simp [PyData.depth, PyData.depthAll, PyData.depthKv]
      · simp only [PyData.leavesShort, PyData.leavesShortAll, PyData.leavesShortKv, Bool.true_and, Bool.and_true]; exact a4
      · simp only [PyData.weight, PyData.weightAll, PyData.weightKv] at a5 ⊢; omega
  | right o d B a b =>
    obtain ⟨q, e, s⟩ := bent_py B
    have e1 : toPyR h 60 (.tup [.int o, d]) = some (.tuple [.int o, q]) := by
      show (opts (toPyR h (56 + 3)) [.int o, d]).map PyData.tuple = _
      simp only [opts, e 56]
      rfl
    refine ⟨_, e1, ?_⟩
    rcases s with s | rfl
    · refine (Sh.tup (k := 1) (w := 1921) (ps := [.int o, q]) ?_).fits (by decide) (by simp)
      intro r hr
      simp only [List.mem_cons, List.not_mem_nil, or_false] at hr
      rcases hr with rfl | rfl
      · exact (Sh.int a b).more (by decide) (by decide)
      · exact s
    · obtain ⟨a1, a2, a3, a4, a5⟩ := Sh.int a b
      refine fits_of ?_ (.inr ?_) ?_ ?_ ?_
      · simp [PyData.showable, PyData.showableAll, PyData.showableKv]; exact of_decide_eq_true a1
      · simp [noLst, noLsts, noLstK]
      · simp [PyData.depth, PyData.depthAll, PyData.depthKv]
      · simp only [PyData.leavesShort, PyData.leavesShortAll, PyData.leavesShortKv, Bool.true_and, Bool.and_true]; exact a4
      · simp only [PyData.weight, PyData.weightAll, PyData.weightKv] at a5 ⊢; omega
theorem bent_ty {p : Nat} {h : Hq} {d : D} (B : Bent1 p h d) : ∃ n, tyD h d = some n := by
  cases B with
  | dct m a b => exact ⟨"dict", by simp [tyD, b]⟩
  | _ => exact ⟨_, rfl⟩
theorem bent_lt {p : Nat} {h : Hq} {d : D} (B : Bent1 p h d) : ∀ u, d = .int u → u < 2 ^ 8000 := by
  have c : (2 : Int) ^ 300 < 2 ^ 8000 := by decide
  intro u e
  cases B with
  | int i a b =>
    have e' := D.int.inj e
    omega
  | _ => cases e
theorem thg_kn {p : Nat} {h : Hq} {d : D} (T : Thg p h d) : Kn h d ∧ ∀ o u, d = .tup [.int o, .int u] → u < 2 ^ 8000 := by
  have c : (2 : Int) ^ 300 < 2 ^ 8000 := by decide
  cases T with
  | int i a b => exact ⟨⟨⟨_, rfl⟩, fun l e => by cases e⟩, fun o u e => by cases e⟩
  | tup l a b =>
    refine ⟨⟨⟨_, rfl⟩, fun k e x hx => ?_⟩, fun o u e => ?_⟩
    · cases e
      obtain ⟨i, _, rfl⟩ := List.mem_map.mp hx
      exact ⟨_, rfl⟩
    · have e' : l.map D.int = [.int o, .int u] := by simpa using e
      have hu : D.int u ∈ l.map D.int := by rw [e']; simp
      obtain ⟨i, hi, e2⟩ := List.mem_map.mp hu
      cases e2
      have := b _ hi
      omega
  | lst m l a b c' e =>
    have b' := lstAt_some b
    exact ⟨⟨⟨"list", by simp [tyD, b']⟩, fun l e => by cases e⟩, fun o u e => by cases e⟩
  | left d u B a b =>
    refine ⟨⟨⟨_, rfl⟩, fun k e x hx => ?_⟩, fun o u' e => ?_⟩
    · cases e
      simp only [List.mem_cons, List.not_mem_nil, or_false] at hx
      rcases hx with rfl | rfl
      · exact bent_ty B
      · exact ⟨_, rfl⟩
    · cases e; omega
  | right o d B a b =>
    refine ⟨⟨⟨_, rfl⟩, fun k e x hx => ?_⟩, fun o' u' e => ?_⟩
    · cases e
      simp only [List.mem_cons, List.not_mem_nil, or_false] at hx
      rcases hx with rfl | rfl
      · exact ⟨_, rfl⟩
      · exact bent_ty B
    · cases e
      exact bent_lt B _ rfl
/-! ### loops -/
theorem turns_list {get : Nat → Hq → Option D} {fin : Nat → Hq → Bool} {t : Tg} {b : Ss} {h : Hq} {l : List D} {I : Fr → Prop} (hget : ∀ i, get i h = l[i]?) (hfin : fin l.length h = true)
    (hb : ∀ d ∈ l, ∀ fr, I fr → ∃ fr1 fr2, t d fr = some fr1 ∧ b fr1 h = .nx fr2 h ∧ I fr2) : ∀ (k i : Nat) (fr : Fr), i + k = l.length → I fr → ∃ fr', turns get fin t b k i fr h = .nx fr' h ∧ I fr'
  | 0, i, fr, hk, hI => by
    have : i = l.length := by omega
    subst this
    exact ⟨fr, by unfold turns; rw [if_pos hfin], hI⟩
  | k + 1, i, fr, hk, hI => by
    have hi : i < l.length := by omega
    obtain ⟨fr1, fr2, e1, e2, hI2⟩ := hb l[i] (List.getElem_mem hi) fr hI
    obtain ⟨fr', e3, hI3⟩ := turns_list hget hfin hb k (i + 1) fr2 (by omega) hI2
    refine ⟨fr', ?_, hI3⟩
    unfold turns
    rw [hget, List.getElem?_eq_getElem hi]
    simp only [e1, e2]
    exact e3
theorem turns_range {n j : Nat} {b : Ss} {I : Nat → Fr → Hq → Prop} {get : Nat → Hq → Option D} {fin : Nat → Hq → Bool} (hget : ∀ i h, i < n → get i h = some (.int i)) (hfin : ∀ h, fin n h = true)
    (hb : ∀ i fr h, i < n → I i fr h → ∃ fr2 h2, b (fr.set j (some (.int i))) h = .nx fr2 h2 ∧ I (i + 1) fr2 h2) : ∀ (k i : Nat) (fr : Fr) (h : Hq), i + k = n → I i fr h → ∃ fr' h', turns get fin (tgN j) b k i fr h = .nx fr' h' ∧ I n fr' h'
  | 0, i, fr, h, hk, hI => by
    have : i = n := by omega
    subst this
    exact ⟨fr, h, by unfold turns; rw [if_pos (hfin h)], hI⟩
  | k + 1, i, fr, h, hk, hI => by
    have hi : i < n := by omega
    obtain ⟨fr2, h2, e2, hI2⟩ := hb i fr h hi hI
    obtain ⟨fr', h', e3, hI3⟩ := turns_range hget hfin hb k (i + 1) fr2 h2 (by omega) hI2
    refine ⟨fr', h', ?_, hI3⟩
    unfold turns
    rw [hget i h hi]
    simp only [tgN, e2]
    exact e3
theorem repr_ok {h : Hq} {d : D} {q : PyData} (e : toPyR h 60 d = some q) (s : shows q = true) : gRepr [d] h = .ok (.str q.shown) h := by
  unfold gRepr
  simp only [e, s, if_true]
theorem repr_bl {h : Hq} (b : Bool) : gRepr [.bl b] h = .ok (.str (PyData.bool b).shown) h := repr_ok rfl (by cases b <;> decide +kernel)
theorem picks_list {h1 : Hq} {m0 j : Nat} {l : List D} {f : D → D} {e : Sx} {fr : Fr} (hl : lstAt h1 m0 = some l) (he : ∀ d ∈ l, ∀ h, e (fr.set j (some d)) h = .ok (f d) h) (hs : l.length ≤ 1000) :
    ∀ (k i : Nat) (acc : List D), i + k = l.length → acc.length = i → picks h1.length (srcC m0 l.length).get (srcC m0 l.length).fin (tgN j) cYes e fr k i (h1 ++ [.lst acc]) = .ok (.ref h1.length) (h1 ++ [.lst (acc ++ (l.drop i).map f)])
  | 0, i, acc, hk, ha => by
    have hi : i = l.length := by omega
    subst hi
    unfold picks
    have : (srcC m0 l.length).fin l.length (h1 ++ [.lst acc]) = true := by simp [srcC, lstAt_app hl]
    rw [if_pos this]
    simp
  | k + 1, i, acc, hk, ha => by
    have hi : i < l.length := by omega
    unfold picks
    have g : (srcC m0 l.length).get i (h1 ++ [.lst acc]) = some l[i] := by simp [srcC, lstAt_app hl, hi]
    have s : small (acc.length + 1) = true := decide_eq_true (by omega)
    rw [g]
    simp only [tgN, cYes, he l[i] (List.getElem_mem hi), lst_new, s, if_true]
    have st : (h1 ++ [Cell.lst acc]).set h1.length (.lst (acc ++ [f l[i]])) = h1 ++ [.lst (acc ++ [f l[i]])] := by simp [List.set_append]
    rw [st]
    have ih := picks_list hl he hs k (i + 1) (acc ++ [f l[i]]) (by omega) (by simp [ha])
    try simp only [tgN] at ih
    rw [ih]
    congr 4
    rw [List.append_assoc]
    congr 1
    rw [List.drop_eq_getElem_cons hi]
    rfl
end K03
end

section
set_option Elab.async false
set_option linter.all false
set_option autoImplicit false
set_option maxRecDepth 100000
set_option exponentiation.threshold 20000
set_option maxHeartbeats 4000000
open PySem L2
namespace K03
open MI
/-! ### what each door should tell -/
def fr2 : D → Option (Int × Int)
  | .tup [.int o, .int u] => if 1 ≤ u ∧ gI o u = 1 then some (o, u) else none
  | _ => none
def lowD (x y : Int) : D := .tup [.int (x / gI x y), .int (y / gI x y)]
def resD (door : Int) (one other : D) : D := match fr2 one with
  | none => .str "none"
  | some (a, b) => if door = 5 then .int (a / b) else match fr2 other with
    | none => if door < 4 then .str "none" else .bl false
    | some (c, d) => if door = 4 then .bl (decide (a * d < c * b)) else if door = 3 then (if c = 0 then .str "none" else if 0 < c then lowD (a * d) (b * c) else lowD (-(a * d)) (-(b * c))) else if door = 0 then lowD (a * d + c * b) (b * d) else if door = 1 then lowD (a * d - c * b) (b * d) else lowD (a * c) (b * d)
theorem fr2_some {d : D} {o u : Int} (e : fr2 d = some (o, u)) : d = .tup [.int o, .int u] ∧ 1 ≤ u ∧ gI o u = 1 := by
  unfold fr2 at e
  split at e
  · split at e
    · rename_i h
      cases e
      exact ⟨rfl, h⟩
    · cases e
  · cases e
theorem fr2_isF {d : D} : isF d = (fr2 d).isSome := by
  by_cases h : ∃ o u, d = .tup [.int o, .int u]
  · obtain ⟨o, u, rfl⟩ := h
    show (decide (1 ≤ u) && decide (gI o u = 1)) = (if 1 ≤ u ∧ gI o u = 1 then some (o, u) else none : Option (Int × Int)).isSome
    by_cases h : 1 ≤ u ∧ gI o u = 1
    · rw [if_pos h]; simp [h.1, h.2]
    · rw [if_neg h]
      simp only [Option.isSome_none, Bool.and_eq_false_iff, decide_eq_false_iff_not]
      by_cases h1 : 1 ≤ u
      · exact .inr fun h2 => h ⟨h1, h2⟩
      · exact .inl h1
  · have h1 : isF d = false := by
      unfold isF
      split
      · exact absurd ⟨_, _, rfl⟩ h
      · rfl
    have h2 : fr2 d = none := by
      unfold fr2
      split
      · exact absurd ⟨_, _, rfl⟩ h
      · rfl
    rw [h1, h2]
    rfl
/-- parts of a thing that is a fraction are of no great size -/
theorem thg_pair {p : Nat} {h : Hq} {o u : Int} (T : Thg p h (.tup [.int o, .int u])) : (-(2 ^ 300) < o ∧ o < 2 ^ 300) ∧ (-(2 ^ 300) < u ∧ u < 2 ^ 300) := by
  have bi : ∀ {d : D}, Bent1 p h d → ∀ i, d = .int i → -(2 ^ 300) < i ∧ i < 2 ^ 300 := by
    intro d B i e
    cases B with
    | int j a b =>
      have e' := D.int.inj e
      omega
    | _ => cases e
  generalize hd : D.tup [.int o, .int u] = d at T
  cases T with
  | int i a b => cases hd
  | tup l a b =>
    have e' : l.map D.int = [.int o, .int u] := by simpa using hd.symm
    have ho : D.int o ∈ l.map D.int := by rw [e']; simp
    have hu : D.int u ∈ l.map D.int := by rw [e']; simp
    obtain ⟨i, hi, e1⟩ := List.mem_map.mp ho
    obtain ⟨j, hj, e2⟩ := List.mem_map.mp hu
    have e1' := D.int.inj e1
    have e2' := D.int.inj e2
    subst e1' e2'
    exact ⟨b _ hi, b _ hj⟩
  | lst m l a b c e => cases hd
  | left d u' B a b =>
    have e1 : D.int o = d := by injection hd with h1; injection h1
    have e2 : D.int u = D.int u' := by injection hd with h1; injection h1 with _ h2; injection h2
    have e2' := D.int.inj e2
    subst e2'
    exact ⟨bi B _ e1.symm, a, b⟩
  | right o' d B a b =>
    have e1 : D.int o = D.int o' := by injection hd with h1; injection h1
    have e2 : D.int u = d := by injection hd with h1; injection h1 with _ h2; injection h2
    have e1' := D.int.inj e1
    subst e1'
    exact ⟨⟨a, b⟩, bi B _ e2.symm⟩
/-! ### the program's doors -/
theorem need_ok {h : Hq} {d : D} (k : Kn h d) (b : ∀ o u, d = .tup [.int o, .int u] → u < 2 ^ 8000) : fneed_fraction [d] h = if (fr2 d).isSome = true then .ok .non h else .exc { cls := "NoFraction" } h := by
  have f1 := (isfr_ok k b).1
  rw [fr2_isF] at f1
  by_cases hf : (fr2 d).isSome = true
  · rw [if_pos hf]; rw [hf] at f1; simp [c_bind, c_into, c_then, v_K, v_V, v_vR, v_Op, v_Un, v_bOf, v_isB, v_isBx, v_bAnd, v_bOr, v_bNot, v_eAnd, v_eOr, v_eNot, v_eIf, v_aNil, v_aCons, v_Tup, v_Lst, v_Dct, v_Call, v_CallK, v_Bi, v_Isi, v_Cut, v_oNone, v_oSome, v_vO, v_End, v_Seq, v_If, v_Ret, v_Expr, v_Set, v_Par, v_Raise, v_For, v_Put, v_fnx, v_frt, v_fex, v_of, v_add, v_sub, v_neg, v_rel, v_abs, v_lenT, v_lenS, v_max, v_min, v_intB, v_intI, v_gcd, v_cutT, v_listT, v_backT, v_eqI, v_eqS, List.replicate, small, atI, ixN, fneed_fraction, bneed_fraction, f1]
  · have hf' : (fr2 d).isSome = false := by simpa using hf
    rw [if_neg hf]; rw [hf'] at f1; simp [c_bind, c_into, c_then, v_K, v_V, v_vR, v_Op, v_Un, v_bOf, v_isB, v_isBx, v_bAnd, v_bOr, v_bNot, v_eAnd, v_eOr, v_eNot, v_eIf, v_aNil, v_aCons, v_Tup, v_Lst, v_Dct, v_Call, v_CallK, v_Bi, v_Isi, v_Cut, v_oNone, v_oSome, v_vO, v_End, v_Seq, v_If, v_Ret, v_Expr, v_Set, v_Par, v_Raise, v_For, v_Put, v_fnx, v_frt, v_fex, v_of, v_add, v_sub, v_neg, v_rel, v_abs, v_lenT, v_lenS, v_max, v_min, v_intB, v_intI, v_gcd, v_cutT, v_listT, v_backT, v_eqI, v_eqS, List.replicate, small, atI, ixN, fneed_fraction, bneed_fraction, f1]
end K03
end

section
set_option Elab.async false
set_option linter.all false
set_option autoImplicit false
set_option maxRecDepth 100000
set_option exponentiation.threshold 20000
set_option maxHeartbeats 4000000
open PySem L2
namespace K03
open MI
theorem bm {x y : Int} (a : -(2 ^ 300) < x ∧ x < 2 ^ 300) (b : -(2 ^ 300) < y ∧ y < 2 ^ 300) : -(2 ^ 600) < x * y ∧ x * y < 2 ^ 600 := by
  have h1 : x.natAbs < 2 ^ 300 := by omega
  have h2 : y.natAbs < 2 ^ 300 := by omega
  have h3 : (x * y).natAbs < 2 ^ 600 := by
    rw [Int.natAbs_mul]
    calc x.natAbs * y.natAbs < 2 ^ 300 * 2 ^ 300 := Nat.mul_lt_mul'' h1 h2
      _ = 2 ^ 600 := by decide
  omega
theorem mk {x y : Int} (a : -(2 ^ 300) < x ∧ x < 2 ^ 300) (b : -(2 ^ 300) < y ∧ y < 2 ^ 300) : mulOk x y = true :=
  mulOk_of (Nat.lt_trans (lg300 a.1 a.2) (by decide)) (Nat.lt_trans (lg300 b.1 b.2) (by decide))
/-- a pair of fractions -/
structure Two (x y z w : Int) : Prop where
  a : -(2 ^ 300) < x ∧ x < 2 ^ 300
  b : -(2 ^ 300) < y ∧ y < 2 ^ 300
  c : -(2 ^ 300) < z ∧ z < 2 ^ 300
  d : -(2 ^ 300) < w ∧ w < 2 ^ 300
  b1 : 1 ≤ y
  d1 : 1 ≤ w
section
variable {a b c d : Int} {h : Hq} (t : Two a b c d)
theorem ix0 {x y : Int} : dIx (.tup [.int x, .int y]) (.int 0) h = .ok (.int x) h := v_ixT rfl
theorem ix1 {x y : Int} : dIx (.tup [.int x, .int y]) (.int 1) h = .ok (.int y) h := v_ixT rfl
include t
theorem Two.pos : 0 < b * d ∧ b * d < 2 ^ 8000 := by
  have h1 := Int.mul_pos (show 0 < b by have := t.b1; omega) (show 0 < d by have := t.d1; omega)
  have h2 := (bm t.b t.d).2
  have h3 : (2 : Int) ^ 600 < 2 ^ 8000 := by decide
  omega
theorem added_ok : fadded [.tup [.int a, .int b], .tup [.int c, .int d]] h = .ok (lowD (a * d + c * b) (b * d)) h := by
  have hl := lowP_ok (h := h) (o := a * d + c * b) t.pos.1 t.pos.2
  simp [c_bind, c_into, c_then, v_K, v_V, v_vR, v_Op, v_Un, v_bOf, v_isB, v_isBx, v_bAnd, v_bOr, v_bNot, v_eAnd, v_eOr, v_eNot, v_eIf, v_aNil, v_aCons, v_Tup, v_Lst, v_Dct, v_Call, v_CallK, v_Bi, v_Isi, v_Cut, v_oNone, v_oSome, v_vO, v_End, v_Seq, v_If, v_Ret, v_Expr, v_Set, v_Par, v_Raise, v_For, v_Put, v_fnx, v_frt, v_fex, v_of, v_add, v_sub, v_neg, v_rel, v_abs, v_lenT, v_lenS, v_max, v_min, v_intB, v_intI, v_gcd, v_cutT, v_listT, v_backT, v_eqI, v_eqS, List.replicate, small, atI, ixN, fadded, badded, ix0, ix1, v_mul (mk t.a t.d), v_mul (mk t.c t.b), v_mul (mk t.b t.d), hl, lowD]
theorem taken_ok : ftaken [.tup [.int a, .int b], .tup [.int c, .int d]] h = .ok (lowD (a * d - c * b) (b * d)) h := by
  have hl := lowP_ok (h := h) (o := a * d - c * b) t.pos.1 t.pos.2
  simp [c_bind, c_into, c_then, v_K, v_V, v_vR, v_Op, v_Un, v_bOf, v_isB, v_isBx, v_bAnd, v_bOr, v_bNot, v_eAnd, v_eOr, v_eNot, v_eIf, v_aNil, v_aCons, v_Tup, v_Lst, v_Dct, v_Call, v_CallK, v_Bi, v_Isi, v_Cut, v_oNone, v_oSome, v_vO, v_End, v_Seq, v_If, v_Ret, v_Expr, v_Set, v_Par, v_Raise, v_For, v_Put, v_fnx, v_frt, v_fex, v_of, v_add, v_sub, v_neg, v_rel, v_abs, v_lenT, v_lenS, v_max, v_min, v_intB, v_intI, v_gcd, v_cutT, v_listT, v_backT, v_eqI, v_eqS, List.replicate, small, atI, ixN, ftaken, btaken, ix0, ix1, v_mul (mk t.a t.d), v_mul (mk t.c t.b), v_mul (mk t.b t.d), hl, lowD]
theorem below_ok : fbelow [.tup [.int a, .int b], .tup [.int c, .int d]] h = .ok (.bl (decide (a * d < c * b))) h := by
  simp [c_bind, c_into, c_then, v_K, v_V, v_vR, v_Op, v_Un, v_bOf, v_isB, v_isBx, v_bAnd, v_bOr, v_bNot, v_eAnd, v_eOr, v_eNot, v_eIf, v_aNil, v_aCons, v_Tup, v_Lst, v_Dct, v_Call, v_CallK, v_Bi, v_Isi, v_Cut, v_oNone, v_oSome, v_vO, v_End, v_Seq, v_If, v_Ret, v_Expr, v_Set, v_Par, v_Raise, v_For, v_Put, v_fnx, v_frt, v_fex, v_of, v_add, v_sub, v_neg, v_rel, v_abs, v_lenT, v_lenS, v_max, v_min, v_intB, v_intI, v_gcd, v_cutT, v_listT, v_backT, v_eqI, v_eqS, List.replicate, small, atI, ixN, fbelow, bbelow, ix0, ix1, v_mul (mk t.a t.d), v_mul (mk t.c t.b)]
end
/-- what is asked of the doors -/
structure Ask (p : Nat) (h : Hq) (x : D) : Prop where
  t : Thg p h x
theorem told_ok {p : Nat} {h : Hq} {x y : D} (X : Thg p h x) (Y : Thg p h y) (door : Int) (hd : door = 0 ∨ door = 1 ∨ door = 2 ∨ door = 3 ∨ door = 4 ∨ door = 5) :
    (∃ T, f_law_told [.int door, x, y] h = .ok (resD door x y) (h ++ T)) ∨ (resD door x y = .str "none" ∧ f_law_told [.int door, x, y] h = .exc { cls := "NoFraction" } h) := by
  have kx := thg_kn X
  have ky := thg_kn Y
  have nx := need_ok kx.1 kx.2
  have ny := need_ok ky.1 ky.2
  have fy := (isfr_ok ky.1 ky.2).1
  rw [fr2_isF] at fy
  cases ex : fr2 x with
  | none =>
    rw [ex] at nx
    have nx' : fneed_fraction [x] h = .exc { cls := "NoFraction" } h := nx
    refine .inr ⟨by simp only [resD, ex], ?_⟩
    rcases hd with rfl | rfl | rfl | rfl | rfl | rfl <;> simp [c_bind, c_into, c_then, v_K, v_V, v_vR, v_Op, v_Un, v_bOf, v_isB, v_isBx, v_bAnd, v_bOr, v_bNot, v_eAnd, v_eOr, v_eNot, v_eIf, v_aNil, v_aCons, v_Tup, v_Lst, v_Dct, v_Call, v_CallK, v_Bi, v_Isi, v_Cut, v_oNone, v_oSome, v_vO, v_End, v_Seq, v_If, v_Ret, v_Expr, v_Set, v_Par, v_Raise, v_For, v_Put, v_fnx, v_frt, v_fex, v_of, v_add, v_sub, v_neg, v_rel, v_abs, v_lenT, v_lenS, v_max, v_min, v_intB, v_intI, v_gcd, v_cutT, v_listT, v_backT, v_eqI, v_eqS, List.replicate, small, atI, ixN, f_law_told, b_law_told, fplus, bplus, fminus, bminus, ftimes, btimes, fby, bby, fis_less, bis_less, ffloor_of, bfloor_of, nx']
  | some ab =>
    obtain ⟨a, b⟩ := ab
    rw [ex] at nx
    have nx' : fneed_fraction [x] h = .ok .non h := nx
    obtain ⟨rfl, b1, bg⟩ := fr2_some ex
    have bx := thg_pair X
    have db : divOk b = true := divOk_of (by omega) (Int.lt_trans bx.2.2 (by decide))
    by_cases h5 : door = 5
    · subst h5
      refine .inl ⟨[], ?_⟩
      simp only [resD, ex]
      simp [c_bind, c_into, c_then, v_K, v_V, v_vR, v_Op, v_Un, v_bOf, v_isB, v_isBx, v_bAnd, v_bOr, v_bNot, v_eAnd, v_eOr, v_eNot, v_eIf, v_aNil, v_aCons, v_Tup, v_Lst, v_Dct, v_Call, v_CallK, v_Bi, v_Isi, v_Cut, v_oNone, v_oSome, v_vO, v_End, v_Seq, v_If, v_Ret, v_Expr, v_Set, v_Par, v_Raise, v_For, v_Put, v_fnx, v_frt, v_fex, v_of, v_add, v_sub, v_neg, v_rel, v_abs, v_lenT, v_lenS, v_max, v_min, v_intB, v_intI, v_gcd, v_cutT, v_listT, v_backT, v_eqI, v_eqS, List.replicate, small, atI, ixN, f_law_told, b_law_told, ffloor_of, bfloor_of, nx', ix0, ix1, v_div db]
    · cases ey : fr2 y with
      | none =>
        rw [ey] at ny fy
        have ny' : fneed_fraction [y] h = .exc { cls := "NoFraction" } h := ny
        have fy' : fis_fraction [y] h = .ok (.bl false) h := fy
        by_cases h4 : door = 4
        · subst h4
          refine .inl ⟨[], ?_⟩
          simp only [resD, ex, ey]
          simp [c_bind, c_into, c_then, v_K, v_V, v_vR, v_Op, v_Un, v_bOf, v_isB, v_isBx, v_bAnd, v_bOr, v_bNot, v_eAnd, v_eOr, v_eNot, v_eIf, v_aNil, v_aCons, v_Tup, v_Lst, v_Dct, v_Call, v_CallK, v_Bi, v_Isi, v_Cut, v_oNone, v_oSome, v_vO, v_End, v_Seq, v_If, v_Ret, v_Expr, v_Set, v_Par, v_Raise, v_For, v_Put, v_fnx, v_frt, v_fex, v_of, v_add, v_sub, v_neg, v_rel, v_abs, v_lenT, v_lenS, v_max, v_min, v_intB, v_intI, v_gcd, v_cutT, v_listT, v_backT, v_eqI, v_eqS, List.replicate, small, atI, ixN, f_law_told, b_law_told, fis_less, bis_less, nx', fy']
        · refine .inr ⟨?_, ?_⟩
          · simp only [resD, ex, ey, if_neg h5]
            rw [if_pos (by omega)]
          · rcases (by omega : door = 0 ∨ door = 1 ∨ door = 2 ∨ door = 3) with rfl | rfl | rfl | rfl <;> simp [c_bind, c_into, c_then, v_K, v_V, v_vR, v_Op, v_Un, v_bOf, v_isB, v_isBx, v_bAnd, v_bOr, v_bNot, v_eAnd, v_eOr, v_eNot, v_eIf, v_aNil, v_aCons, v_Tup, v_Lst, v_Dct, v_Call, v_CallK, v_Bi, v_Isi, v_Cut, v_oNone, v_oSome, v_vO, v_End, v_Seq, v_If, v_Ret, v_Expr, v_Set, v_Par, v_Raise, v_For, v_Put, v_fnx, v_frt, v_fex, v_of, v_add, v_sub, v_neg, v_rel, v_abs, v_lenT, v_lenS, v_max, v_min, v_intB, v_intI, v_gcd, v_cutT, v_listT, v_backT, v_eqI, v_eqS, List.replicate, small, atI, ixN, f_law_told, b_law_told, fplus, bplus, fminus, bminus, ftimes, btimes, fby, bby, nx', ny']
      | some cd =>
        obtain ⟨c, d⟩ := cd
        rw [ey] at ny fy
        have ny' : fneed_fraction [y] h = .ok .non h := ny
        have fy' : fis_fraction [y] h = .ok (.bl true) h := fy
        obtain ⟨rfl, d1, dg⟩ := fr2_some ey
        have by_ := thg_pair Y
        have t : Two a b c d := ⟨bx.1, bx.2, by_.1, by_.2, b1, d1⟩
        have ea := added_ok (h := h) t
        have et := taken_ok (h := h) t
        have eb := below_ok (h := h) t
        have hm := lowP_ok (h := h) (o := a * c) t.pos.1 t.pos.2
        have c0 : (2 : Int) ^ 600 < 2 ^ 8000 := by decide
        obtain ⟨T, hT⟩ : ∃ T : List Cell, T = [.lst [lowD (a * d + c * b) (b * d), lowD (a * d - c * b) (b * d)]] := ⟨_, rfl⟩
        have lT : lstAt (h ++ T) h.length = some [lowD (a * d + c * b) (b * d), lowD (a * d - c * b) (b * d)] := by subst hT; exact lst_new _ _
        rcases (by omega : door = 0 ∨ door = 1 ∨ door = 2 ∨ door = 3 ∨ door = 4) with rfl | rfl | rfl | rfl | rfl
        · refine .inl ⟨T, ?_⟩
          simp only [resD, ex, ey]
          subst hT
          have li : atI [lowD (a * d + c * b) (b * d), lowD (a * d - c * b) (b * d)] 0 = some (lowD (a * d + c * b) (b * d)) := rfl
          simp [c_bind, c_into, c_then, v_K, v_V, v_vR, v_Op, v_Un, v_bOf, v_isB, v_isBx, v_bAnd, v_bOr, v_bNot, v_eAnd, v_eOr, v_eNot, v_eIf, v_aNil, v_aCons, v_Tup, v_Lst, v_Dct, v_Call, v_CallK, v_Bi, v_Isi, v_Cut, v_oNone, v_oSome, v_vO, v_End, v_Seq, v_If, v_Ret, v_Expr, v_Set, v_Par, v_Raise, v_For, v_Put, v_fnx, v_frt, v_fex, v_of, v_add, v_sub, v_neg, v_rel, v_abs, v_lenT, v_lenS, v_max, v_min, v_intB, v_intI, v_gcd, v_cutT, v_listT, v_backT, v_eqI, v_eqS, List.replicate, small, atI, ixN, f_law_told, b_law_told, fplus, bplus, fminus, bminus, nx', ny', ea, et, v_ixL lT li]
        · refine .inl ⟨T, ?_⟩
          simp only [resD, ex, ey]
          subst hT
          have li : atI [lowD (a * d + c * b) (b * d), lowD (a * d - c * b) (b * d)] 1 = some (lowD (a * d - c * b) (b * d)) := rfl
          simp [c_bind, c_into, c_then, v_K, v_V, v_vR, v_Op, v_Un, v_bOf, v_isB, v_isBx, v_bAnd, v_bOr, v_bNot, v_eAnd, v_eOr, v_eNot, v_eIf, v_aNil, v_aCons, v_Tup, v_Lst, v_Dct, v_Call, v_CallK, v_Bi, v_Isi, v_Cut, v_oNone, v_oSome, v_vO, v_End, v_Seq, v_If, v_Ret, v_Expr, v_Set, v_Par, v_Raise, v_For, v_Put, v_fnx, v_frt, v_fex, v_of, v_add, v_sub, v_neg, v_rel, v_abs, v_lenT, v_lenS, v_max, v_min, v_intB, v_intI, v_gcd, v_cutT, v_listT, v_backT, v_eqI, v_eqS, List.replicate, small, atI, ixN, f_law_told, b_law_told, fplus, bplus, fminus, bminus, nx', ny', ea, et, v_ixL lT li]
        · refine .inl ⟨[], ?_⟩
          simp only [resD, ex, ey]
          simp [c_bind, c_into, c_then, v_K, v_V, v_vR, v_Op, v_Un, v_bOf, v_isB, v_isBx, v_bAnd, v_bOr, v_bNot, v_eAnd, v_eOr, v_eNot, v_eIf, v_aNil, v_aCons, v_Tup, v_Lst, v_Dct, v_Call, v_CallK, v_Bi, v_Isi, v_Cut, v_oNone, v_oSome, v_vO, v_End, v_Seq, v_If, v_Ret, v_Expr, v_Set, v_Par, v_Raise, v_For, v_Put, v_fnx, v_frt, v_fex, v_of, v_add, v_sub, v_neg, v_rel, v_abs, v_lenT, v_lenS, v_max, v_min, v_intB, v_intI, v_gcd, v_cutT, v_listT, v_backT, v_eqI, v_eqS, List.replicate, small, atI, ixN, f_law_told, b_law_told, ftimes, btimes, nx', ny', ix0, ix1, v_mul (mk t.a t.c), v_mul (mk t.b t.d), hm, lowD]
        · by_cases hc : c = 0
          · subst hc
            refine .inr ⟨by simp [resD, ex, ey], ?_⟩
            simp [c_bind, c_into, c_then, v_K, v_V, v_vR, v_Op, v_Un, v_bOf, v_isB, v_isBx, v_bAnd, v_bOr, v_bNot, v_eAnd, v_eOr, v_eNot, v_eIf, v_aNil, v_aCons, v_Tup, v_Lst, v_Dct, v_Call, v_CallK, v_Bi, v_Isi, v_Cut, v_oNone, v_oSome, v_vO, v_End, v_Seq, v_If, v_Ret, v_Expr, v_Set, v_Par, v_Raise, v_For, v_Put, v_fnx, v_frt, v_fex, v_of, v_add, v_sub, v_neg, v_rel, v_abs, v_lenT, v_lenS, v_max, v_min, v_intB, v_intI, v_gcd, v_cutT, v_listT, v_backT, v_eqI, v_eqS, List.replicate, small, atI, ixN, f_law_told, b_law_told, fby, bby, nx', ny', ix0]
          · refine .inl ⟨[], ?_⟩
            have hbc := bm t.b t.c
            by_cases hp : 0 < c
            · have hq : 0 < b * c := Int.mul_pos (by omega) hp
              have hl := lowP_ok (h := h) (o := a * d) (u := b * c) hq (by omega)
              simp only [resD, ex, ey]
              simp [c_bind, c_into, c_then, v_K, v_V, v_vR, v_Op, v_Un, v_bOf, v_isB, v_isBx, v_bAnd, v_bOr, v_bNot, v_eAnd, v_eOr, v_eNot, v_eIf, v_aNil, v_aCons, v_Tup, v_Lst, v_Dct, v_Call, v_CallK, v_Bi, v_Isi, v_Cut, v_oNone, v_oSome, v_vO, v_End, v_Seq, v_If, v_Ret, v_Expr, v_Set, v_Par, v_Raise, v_For, v_Put, v_fnx, v_frt, v_fex, v_of, v_add, v_sub, v_neg, v_rel, v_abs, v_lenT, v_lenS, v_max, v_min, v_intB, v_intI, v_gcd, v_cutT, v_listT, v_backT, v_eqI, v_eqS, List.replicate, small, atI, ixN, f_law_told, b_law_told, fby, bby, nx', ny', ix0, ix1, hc, hp, v_mul (mk t.a t.d), v_mul (mk t.b t.c), hl, lowD]
            · have hq : b * c < 0 := Int.mul_neg_of_pos_of_neg (by omega) (by omega)
              have hl := lowN_ok (h := h) (o := a * d) (u := b * c) hq (by omega)
              simp only [resD, ex, ey]
              simp [c_bind, c_into, c_then, v_K, v_V, v_vR, v_Op, v_Un, v_bOf, v_isB, v_isBx, v_bAnd, v_bOr, v_bNot, v_eAnd, v_eOr, v_eNot, v_eIf, v_aNil, v_aCons, v_Tup, v_Lst, v_Dct, v_Call, v_CallK, v_Bi, v_Isi, v_Cut, v_oNone, v_oSome, v_vO, v_End, v_Seq, v_If, v_Ret, v_Expr, v_Set, v_Par, v_Raise, v_For, v_Put, v_fnx, v_frt, v_fex, v_of, v_add, v_sub, v_neg, v_rel, v_abs, v_lenT, v_lenS, v_max, v_min, v_intB, v_intI, v_gcd, v_cutT, v_listT, v_backT, v_eqI, v_eqS, List.replicate, small, atI, ixN, f_law_told, b_law_told, fby, bby, nx', ny', ix0, ix1, hc, hp, v_mul (mk t.a t.d), v_mul (mk t.b t.c), hl, lowD]
        · refine .inl ⟨[], ?_⟩
          simp only [resD, ex, ey]
          simp [c_bind, c_into, c_then, v_K, v_V, v_vR, v_Op, v_Un, v_bOf, v_isB, v_isBx, v_bAnd, v_bOr, v_bNot, v_eAnd, v_eOr, v_eNot, v_eIf, v_aNil, v_aCons, v_Tup, v_Lst, v_Dct, v_Call, v_CallK, v_Bi, v_Isi, v_Cut, v_oNone, v_oSome, v_vO, v_End, v_Seq, v_If, v_Ret, v_Expr, v_Set, v_Par, v_Raise, v_For, v_Put, v_fnx, v_frt, v_fex, v_of, v_add, v_sub, v_neg, v_rel, v_abs, v_lenT, v_lenS, v_max, v_min, v_intB, v_intI, v_gcd, v_cutT, v_listT, v_backT, v_eqI, v_eqS, List.replicate, small, atI, ixN, f_law_told, b_law_told, fis_less, bis_less, nx', fy', eb]
end K03
end

section
set_option Elab.async false
set_option linter.all false
set_option autoImplicit false
set_option maxRecDepth 100000
set_option maxHeartbeats 4000000
open PySem L2
namespace K03
open MI
noncomputable section
def D1 : Ss := sIf (bNot (bOf (eCall 1 f_law_is_fraction (aCons (eV 1) (aNil))))) (sSeq (sRet (eK (.str "none"))) (sEnd)) (sEnd)
def D2 : Ss := sIf (bOf (eOp (dEqs false) (eV 0) (eK (.int 5)))) (sSeq (sRet (eOp dDiv (eOp dIx (eV 1) (eK (.int 0))) (eOp dIx (eV 1) (eK (.int 1))))) (sEnd)) (sEnd)
def D3 : Ss := sIf (bNot (bOf (eCall 1 f_law_is_fraction (aCons (eV 2) (aNil))))) (sSeq (sRet (eIf (bOf (eOp dLt (eV 0) (eK (.int 4)))) (eK (.str "none")) (eK (.bl false)))) (sEnd)) (sEnd)
def D4 : Ss := sAsg (eOp dAdd (eV 1) (eV 2)) (tgT [3, 4, 5, 6])
def D5 : Ss := sIf (bOf (eOp (dEqs false) (eV 0) (eK (.int 4)))) (sSeq (sRet (eOp dLt (eOp dMul (eV 3) (eV 6)) (eOp dMul (eV 5) (eV 4)))) (sEnd)) (sEnd)
def D6 : Ss := sIf (bAnd (bOf (eOp (dEqs false) (eV 0) (eK (.int 3)))) (bOf (eOp (dEqs false) (eV 5) (eK (.int 0))))) (sSeq (sRet (eK (.str "none"))) (sEnd)) (sEnd)
def D7 : Ss := sIf (bAnd (bOf (eOp (dEqs false) (eV 0) (eK (.int 3)))) (bOf (eOp dLt (eV 5) (eK (.int 0))))) (sSeq (sPar 5 6 (aCons (eOp dSub (eK (.int 0)) (eV 5)) (aCons (eOp dSub (eK (.int 0)) (eV 6)) (aNil)))) (sEnd)) (sEnd)
def D8 : Ss := sAsg (eOp dIx (eLst (aCons (eOp dAdd (eOp dMul (eV 3) (eV 6)) (eOp dMul (eV 5) (eV 4))) (aCons (eOp dSub (eOp dMul (eV 3) (eV 6)) (eOp dMul (eV 5) (eV 4))) (aCons (eOp dMul (eV 3) (eV 5)) (aCons (eOp dMul (eV 3) (eV 6)) (aNil)))))) (eV 0)) (tgN 7)
def D9 : Ss := sRet (eCall 2 f_law_lowest (aCons (eV 7) (aCons (eOp dIx (eLst (aCons (eOp dMul (eV 4) (eV 6)) (aCons (eOp dMul (eV 4) (eV 6)) (aCons (eOp dMul (eV 4) (eV 6)) (aCons (eOp dMul (eV 4) (eV 5)) (aNil)))))) (eV 0)) (aNil))))
def D89 : Ss := sSeq D8 (sSeq D9 (sEnd))
theorem due_eq : b_law_due = sSeq D1 (sSeq D2 (sSeq D3 (sSeq D4 (sSeq D5 (sSeq D6 (sSeq D7 (D89))))))) := rfl
def L_src : Si := iRange (aCons (eBi gMax (aCons (eK (.int 1)) (aCons (eBi gMin (aCons (eK (.int 40)) (aCons (eBi gLen (aCons (eV 0) (aNil))) (aNil)))) (aNil)))) (aNil))
def L_pot : Ss := sAsg (eCall 2 f_law_pot (aCons (eV 0) (aCons (eV 1) (aNil)))) (tgN 2)
def L_pair : Ss := sPar 4 5 (aCons (eCall 1 f_law_fraction (aCons (eV 2) (aNil))) (aCons (eCall 1 f_law_fraction (aCons (eV 2) (aNil))) (aNil)))
def L_other : Ss := sAsg (eOp dIx (eLst (aCons (eV 5) (aCons (eV 5) (aCons (eV 5) (aCons (eV 4) (aCons (eTup (aCons (eOp dSub (eK (.int 0)) (eOp dIx (eV 4) (eK (.int 0)))) (aCons (eOp dIx (eV 4) (eK (.int 1))) (aNil)))) (aCons (eTup (aCons (eK (.int 0)) (aCons (eK (.int 1)) (aNil)))) (aNil)))))))) (eCall 2 f_law_take (aCons (eV 2) (aCons (eK (.int 6)) (aNil))))) (tgN 5)
def L_way : Ss := sAsg (eCall 2 f_law_take (aCons (eV 2) (aCons (eK (.int 8)) (aNil)))) (tgN 6)
def L_bend1 : Ss := sIf (bOr (bOf (eOp (dEqs false) (eV 6) (eK (.int 0)))) (bOf (eOp (dEqs false) (eV 6) (eK (.int 2))))) (sSeq (sAsg (eCall 3 (f_law_bent 4) (aCons (eV 2) (aCons (eV 4) (aCons (eK (.int 1)) (aNil))))) (tgN 4)) (sEnd)) (sEnd)
def L_bend2 : Ss := sIf (bOr (bOf (eOp (dEqs false) (eV 6) (eK (.int 1)))) (bOf (eOp (dEqs false) (eV 6) (eK (.int 2))))) (sSeq (sAsg (eCall 3 (f_law_bent 4) (aCons (eV 2) (aCons (eV 5) (aCons (eK (.int 1)) (aNil))))) (tgN 5)) (sEnd)) (sEnd)
def L_kept : Ss := sAsg (eBi gRepr (aCons (eTup (aCons (eV 4) (aCons (eV 5) (aNil)))) (aNil))) (tgN 7)
def L_door : Ss := sIf (bOf (eOp (dEqs true) (eBi gRepr (aCons (eCall 3 f_law_met (aCons (eV 8) (aCons (eV 4) (aCons (eV 5) (aNil))))) (aNil))) (eBi gRepr (aCons (eCall 3 f_law_due (aCons (eV 8) (aCons (eV 4) (aCons (eV 5) (aNil))))) (aNil))))) (sSeq (sRet (eK (.bl false))) (sEnd)) (sEnd)
def L_after : Ss := sIf (bOf (eOp (dEqs true) (eBi gRepr (aCons (eTup (aCons (eV 4) (aCons (eV 5) (aNil)))) (aNil))) (eV 7))) (sSeq (sRet (eK (.bl false))) (sEnd)) (sEnd)
def L_doors : Ss := sFor (tgN 8) (iRange (aCons (eK (.int 6)) (aNil))) (sSeq L_door (sEnd))
def L_three : Ss := sFor (tgN 3) (iRange (aCons (eK (.int 3)) (aNil))) (sSeq L_pair (sSeq L_other (sSeq L_way (sSeq L_bend1 (sSeq L_bend2 (sSeq L_kept (sSeq L_doors (sSeq L_after (sEnd)))))))))
def L_turn : Ss := sSeq L_pot (sSeq L_three (sEnd))
def L_told : Ss := sAsg (eLst (aCons (eCall 2 fplus (aCons (eTup (aCons (eK (.int 1)) (aCons (eK (.int 6)) (aNil)))) (aCons (eTup (aCons (eK (.int 1)) (aCons (eK (.int 3)) (aNil)))) (aNil)))) (aCons (eCall 2 fminus (aCons (eTup (aCons (eK (.int 1)) (aCons (eK (.int 2)) (aNil)))) (aCons (eTup (aCons (eK (.int 1)) (aCons (eK (.int 2)) (aNil)))) (aNil)))) (aCons (eCall 2 ftimes (aCons (eTup (aCons (eK (.int 2)) (aCons (eK (.int 3)) (aNil)))) (aCons (eTup (aCons (eUn dNeg (eK (.int 3))) (aCons (eK (.int 4)) (aNil)))) (aNil)))) (aCons (eCall 2 fby (aCons (eTup (aCons (eK (.int 1)) (aCons (eK (.int 2)) (aNil)))) (aCons (eTup (aCons (eUn dNeg (eK (.int 3))) (aCons (eK (.int 4)) (aNil)))) (aNil)))) (aNil)))))) (tgN 9)
def L_right : Ss := sIf (bOr (bOf (eOp (dEqs true) (eV 9) (eLst (aCons (eTup (aCons (eK (.int 1)) (aCons (eK (.int 2)) (aNil)))) (aCons (eTup (aCons (eK (.int 0)) (aCons (eK (.int 1)) (aNil)))) (aCons (eTup (aCons (eUn dNeg (eK (.int 1))) (aCons (eK (.int 2)) (aNil)))) (aCons (eTup (aCons (eUn dNeg (eK (.int 2))) (aCons (eK (.int 3)) (aNil)))) (aNil)))))))) (bOf (eOp (dEqs true) (eComp (iSeq (eTup (aCons (eUn dNeg (eK (.int 3))) (aCons (eK (.int 3)) (aNil))))) [10] (tgN 10) (cYes) (eCall 1 ffloor_of (aCons (eTup (aCons (eV 10) (aCons (eK (.int 2)) (aNil)))) (aNil)))) (eLst (aCons (eUn dNeg (eK (.int 2))) (aCons (eK (.int 1)) (aNil))))))) (sSeq (sRet (eK (.bl false))) (sEnd)) (sEnd)
def L_end : Ss := sRet (eOp (dEqs false) (eLst (aCons (eCall 2 fis_less (aCons (eTup (aCons (eK (.int 1)) (aCons (eK (.int 2)) (aNil)))) (aCons (eTup (aCons (eK (.int 2)) (aCons (eK (.int 3)) (aNil)))) (aNil)))) (aCons (eCall 2 fis_less (aCons (eTup (aCons (eUn dNeg (eK (.int 1))) (aCons (eK (.int 2)) (aNil)))) (aCons (eTup (aCons (eUn dNeg (eK (.int 2))) (aCons (eK (.int 3)) (aNil)))) (aNil)))) (aCons (eCall 2 fis_less (aCons (eTup (aCons (eK (.int 1)) (aCons (eK (.int 2)) (aNil)))) (aCons (eTup (aCons (eK (.int 1)) (aCons (eK (.int 2)) (aNil)))) (aNil)))) (aNil))))) (eLst (aCons (eK (.bl true)) (aCons (eK (.bl false)) (aCons (eK (.bl false)) (aNil))))))
theorem blaw_eq : blaw = sSeq (sFor (tgN 1) L_src L_turn) (sSeq L_told (sSeq L_right (sSeq L_end (sEnd)))) := rfl
end
end K03
end

section
set_option Elab.async false
set_option linter.all false
set_option autoImplicit false
set_option maxRecDepth 100000
set_option exponentiation.threshold 20000
set_option maxHeartbeats 4000000
open PySem L2
namespace K03
open MI
def tl (a b c d : Int) : List Cell := [.lst [.int (a * d + c * b), .int (a * d - c * b), .int (a * c), .int (a * d)], .lst [.int (b * d), .int (b * d), .int (b * d), .int (b * c)]]
/-- the last two statements -/
theorem tail_ok {h : Hq} {x y : Option D} {a b c d door over low : Int} (ha : -(2 ^ 300) < a ∧ a < 2 ^ 300) (hb : -(2 ^ 300) < b ∧ b < 2 ^ 300) (hc : -(2 ^ 300) < c ∧ c < 2 ^ 300) (hd : -(2 ^ 300) < d ∧ d < 2 ^ 300)
    (eo : atI [D.int (a * d + c * b), D.int (a * d - c * b), D.int (a * c), D.int (a * d)] door = some (.int over)) (el : atI [D.int (b * d), D.int (b * d), D.int (b * d), D.int (b * c)] door = some (.int low)) (l0 : 0 < low) (l1 : low < 2 ^ 8000) :
    D89 [some (.int door), x, y, some (.int a), some (.int b), some (.int c), some (.int d), none] h = .rt (lowD over low) (h ++ tl a b c d) := by
  unfold tl
  have f1 : lstAt (h ++ [.lst [.int (a * d + c * b), .int (a * d - c * b), .int (a * c), .int (a * d)]]) h.length = some [.int (a * d + c * b), .int (a * d - c * b), .int (a * c), .int (a * d)] := lst_new _ _
  have f2 : lstAt (h ++ [.lst [.int (a * d + c * b), .int (a * d - c * b), .int (a * c), .int (a * d)], .lst [.int (b * d), .int (b * d), .int (b * d), .int (b * c)]]) (h.length + 1) = some [.int (b * d), .int (b * d), .int (b * d), .int (b * c)] := by unfold lstAt; simp
  have hl := lowL_ok (h := h ++ [.lst [.int (a * d + c * b), .int (a * d - c * b), .int (a * c), .int (a * d)], .lst [.int (b * d), .int (b * d), .int (b * d), .int (b * c)]]) (o := over) l0 l1
  simp [c_bind, c_into, c_then, v_K, v_V, v_vR, v_Op, v_Un, v_bOf, v_isB, v_isBx, v_bAnd, v_bOr, v_bNot, v_eAnd, v_eOr, v_eNot, v_eIf, v_aNil, v_aCons, v_Tup, v_Lst, v_Dct, v_Call, v_CallK, v_Bi, v_Isi, v_Cut, v_oNone, v_oSome, v_vO, v_End, v_Seq, v_If, v_Ret, v_Expr, v_Set, v_Par, v_Raise, v_For, v_Put, v_fnx, v_frt, v_fex, v_of, v_add, v_sub, v_neg, v_rel, v_abs, v_lenT, v_lenS, v_max, v_min, v_intB, v_intI, v_gcd, v_cutT, v_listT, v_backT, v_eqI, v_eqS, List.replicate, small, atI, ixN, D89, D8, D9, v_mul (mk ha hd), v_mul (mk hc hb), v_mul (mk ha hc), v_mul (mk hb hd), v_mul (mk hb hc), v_ixL f1 eo, v_ixL f2 el, hl, lowD]
theorem due_ok {p : Nat} {h : Hq} {x y : D} (X : Thg p h x) (Y : Thg p h y) (door : Int) (hd : door = 0 ∨ door = 1 ∨ door = 2 ∨ door = 3 ∨ door = 4 ∨ door = 5) :
    ∃ T, f_law_due [.int door, x, y] h = .ok (resD door x y) (h ++ T) := by
  have kx := thg_kn X
  have ky := thg_kn Y
  have fx := (isfr_ok kx.1 kx.2).2
  have fy := (isfr_ok ky.1 ky.2).2
  rw [fr2_isF] at fx fy
  cases ex : fr2 x with
  | none =>
    rw [ex] at fx
    have fx' : f_law_is_fraction [x] h = .ok (.bl false) h := fx
    refine ⟨[], ?_⟩
    simp only [resD, ex]
    simp [c_bind, c_into, c_then, v_K, v_V, v_vR, v_Op, v_Un, v_bOf, v_isB, v_isBx, v_bAnd, v_bOr, v_bNot, v_eAnd, v_eOr, v_eNot, v_eIf, v_aNil, v_aCons, v_Tup, v_Lst, v_Dct, v_Call, v_CallK, v_Bi, v_Isi, v_Cut, v_oNone, v_oSome, v_vO, v_End, v_Seq, v_If, v_Ret, v_Expr, v_Set, v_Par, v_Raise, v_For, v_Put, v_fnx, v_frt, v_fex, v_of, v_add, v_sub, v_neg, v_rel, v_abs, v_lenT, v_lenS, v_max, v_min, v_intB, v_intI, v_gcd, v_cutT, v_listT, v_backT, v_eqI, v_eqS, List.replicate, small, atI, ixN, f_law_due, due_eq, D1, fx']
  | some ab =>
    obtain ⟨a, b⟩ := ab
    rw [ex] at fx
    have fx' : f_law_is_fraction [x] h = .ok (.bl true) h := fx
    obtain ⟨rfl, b1, bg⟩ := fr2_some ex
    have bx := thg_pair X
    have db : divOk b = true := divOk_of (by omega) (Int.lt_trans bx.2.2 (by decide))
    have s1 : ∀ z7 z3 z4 z5 z6 : Option D, D1 [some (.int door), some (.tup [.int a, .int b]), some y, z3, z4, z5, z6, z7] h = .nx [some (.int door), some (.tup [.int a, .int b]), some y, z3, z4, z5, z6, z7] h := fun _ _ _ _ _ => by simp [c_bind, c_into, c_then, v_K, v_V, v_vR, v_Op, v_Un, v_bOf, v_isB, v_isBx, v_bAnd, v_bOr, v_bNot, v_eAnd, v_eOr, v_eNot, v_eIf, v_aNil, v_aCons, v_Tup, v_Lst, v_Dct, v_Call, v_CallK, v_Bi, v_Isi, v_Cut, v_oNone, v_oSome, v_vO, v_End, v_Seq, v_If, v_Ret, v_Expr, v_Set, v_Par, v_Raise, v_For, v_Put, v_fnx, v_frt, v_fex, v_of, v_add, v_sub, v_neg, v_rel, v_abs, v_lenT, v_lenS, v_max, v_min, v_intB, v_intI, v_gcd, v_cutT, v_listT, v_backT, v_eqI, v_eqS, List.replicate, small, atI, ixN, D1, fx']
    by_cases h5 : door = 5
    · subst h5
      refine ⟨[], ?_⟩
      simp only [resD, ex]
      have s2 : D2 [some (.int 5), some (.tup [.int a, .int b]), some y, none, none, none, none, none] h = .rt (.int (a / b)) h := by simp [c_bind, c_into, c_then, v_K, v_V, v_vR, v_Op, v_Un, v_bOf, v_isB, v_isBx, v_bAnd, v_bOr, v_bNot, v_eAnd, v_eOr, v_eNot, v_eIf, v_aNil, v_aCons, v_Tup, v_Lst, v_Dct, v_Call, v_CallK, v_Bi, v_Isi, v_Cut, v_oNone, v_oSome, v_vO, v_End, v_Seq, v_If, v_Ret, v_Expr, v_Set, v_Par, v_Raise, v_For, v_Put, v_fnx, v_frt, v_fex, v_of, v_add, v_sub, v_neg, v_rel, v_abs, v_lenT, v_lenS, v_max, v_min, v_intB, v_intI, v_gcd, v_cutT, v_listT, v_backT, v_eqI, v_eqS, List.replicate, small, atI, ixN, D2, ix0, ix1, v_div db]
      show fin (b_law_due [some (.int 5), some (.tup [.int a, .int b]), some y, none, none, none, none, none] h) = _
      rw [due_eq, seq_nx (s1 _ _ _ _ _), seq_rt s2]
      simp [fin]
    · have s2 : D2 [some (.int door), some (.tup [.int a, .int b]), some y, none, none, none, none, none] h = .nx [some (.int door), some (.tup [.int a, .int b]), some y, none, none, none, none, none] h := by simp [c_bind, c_into, c_then, v_K, v_V, v_vR, v_Op, v_Un, v_bOf, v_isB, v_isBx, v_bAnd, v_bOr, v_bNot, v_eAnd, v_eOr, v_eNot, v_eIf, v_aNil, v_aCons, v_Tup, v_Lst, v_Dct, v_Call, v_CallK, v_Bi, v_Isi, v_Cut, v_oNone, v_oSome, v_vO, v_End, v_Seq, v_If, v_Ret, v_Expr, v_Set, v_Par, v_Raise, v_For, v_Put, v_fnx, v_frt, v_fex, v_of, v_add, v_sub, v_neg, v_rel, v_abs, v_lenT, v_lenS, v_max, v_min, v_intB, v_intI, v_gcd, v_cutT, v_listT, v_backT, v_eqI, v_eqS, List.replicate, small, atI, ixN, D2, h5]
      cases ey : fr2 y with
      | none =>
        rw [ey] at fy
        have fy' : f_law_is_fraction [y] h = .ok (.bl false) h := fy
        refine ⟨[], ?_⟩
        simp only [resD, ex, ey, if_neg h5]
        have s3 : D3 [some (.int door), some (.tup [.int a, .int b]), some y, none, none, none, none, none] h = .rt (if door < 4 then .str "none" else .bl false) h := by
          by_cases h4 : door < 4
          · rw [if_pos h4]; simp [c_bind, c_into, c_then, v_K, v_V, v_vR, v_Op, v_Un, v_bOf, v_isB, v_isBx, v_bAnd, v_bOr, v_bNot, v_eAnd, v_eOr, v_eNot, v_eIf, v_aNil, v_aCons, v_Tup, v_Lst, v_Dct, v_Call, v_CallK, v_Bi, v_Isi, v_Cut, v_oNone, v_oSome, v_vO, v_End, v_Seq, v_If, v_Ret, v_Expr, v_Set, v_Par, v_Raise, v_For, v_Put, v_fnx, v_frt, v_fex, v_of, v_add, v_sub, v_neg, v_rel, v_abs, v_lenT, v_lenS, v_max, v_min, v_intB, v_intI, v_gcd, v_cutT, v_listT, v_backT, v_eqI, v_eqS, List.replicate, small, atI, ixN, D3, fy', h4]
          · rw [if_neg h4]; simp [c_bind, c_into, c_then, v_K, v_V, v_vR, v_Op, v_Un, v_bOf, v_isB, v_isBx, v_bAnd, v_bOr, v_bNot, v_eAnd, v_eOr, v_eNot, v_eIf, v_aNil, v_aCons, v_Tup, v_Lst, v_Dct, v_Call, v_CallK, v_Bi, v_Isi, v_Cut, v_oNone, v_oSome, v_vO, v_End, v_Seq, v_If, v_Ret, v_Expr, v_Set, v_Par, v_Raise, v_For, v_Put, v_fnx, v_frt, v_fex, v_of, v_add, v_sub, v_neg, v_rel, v_abs, v_lenT, v_lenS, v_max, v_min, v_intB, v_intI, v_gcd, v_cutT, v_listT, v_backT, v_eqI, v_eqS, List.replicate, small, atI, ixN, D3, fy', h4]
        show fin (b_law_due [some (.int door), some (.tup [.int a, .int b]), some y, none, none, none, none, none] h) = _
        rw [due_eq, seq_nx (s1 _ _ _ _ _), seq_nx s2, seq_rt s3]
        simp [fin]
      | some cd =>
        obtain ⟨c, d⟩ := cd
        rw [ey] at fy
        have fy' : f_law_is_fraction [y] h = .ok (.bl true) h := fy
        obtain ⟨rfl, d1, dg⟩ := fr2_some ey
        have by_ := thg_pair Y
        have t : Two a b c d := ⟨bx.1, bx.2, by_.1, by_.2, b1, d1⟩
        have c0 : (2 : Int) ^ 600 < 2 ^ 8000 := by decide
        have s3 : D3 [some (.int door), some (.tup [.int a, .int b]), some (.tup [.int c, .int d]), none, none, none, none, none] h = .nx [some (.int door), some (.tup [.int a, .int b]), some (.tup [.int c, .int d]), none, none, none, none, none] h := by simp [c_bind, c_into, c_then, v_K, v_V, v_vR, v_Op, v_Un, v_bOf, v_isB, v_isBx, v_bAnd, v_bOr, v_bNot, v_eAnd, v_eOr, v_eNot, v_eIf, v_aNil, v_aCons, v_Tup, v_Lst, v_Dct, v_Call, v_CallK, v_Bi, v_Isi, v_Cut, v_oNone, v_oSome, v_vO, v_End, v_Seq, v_If, v_Ret, v_Expr, v_Set, v_Par, v_Raise, v_For, v_Put, v_fnx, v_frt, v_fex, v_of, v_add, v_sub, v_neg, v_rel, v_abs, v_lenT, v_lenS, v_max, v_min, v_intB, v_intI, v_gcd, v_cutT, v_listT, v_backT, v_eqI, v_eqS, List.replicate, small, atI, ixN, D3, fy']
        have s4 : D4 [some (.int door), some (.tup [.int a, .int b]), some (.tup [.int c, .int d]), none, none, none, none, none] h = .nx [some (.int door), some (.tup [.int a, .int b]), some (.tup [.int c, .int d]), some (.int a), some (.int b), some (.int c), some (.int d), none] h := by simp [c_bind, c_into, c_then, v_K, v_V, v_vR, v_Op, v_Un, v_bOf, v_isB, v_isBx, v_bAnd, v_bOr, v_bNot, v_eAnd, v_eOr, v_eNot, v_eIf, v_aNil, v_aCons, v_Tup, v_Lst, v_Dct, v_Call, v_CallK, v_Bi, v_Isi, v_Cut, v_oNone, v_oSome, v_vO, v_End, v_Seq, v_If, v_Ret, v_Expr, v_Set, v_Par, v_Raise, v_For, v_Put, v_fnx, v_frt, v_fex, v_of, v_add, v_sub, v_neg, v_rel, v_abs, v_lenT, v_lenS, v_max, v_min, v_intB, v_intI, v_gcd, v_cutT, v_listT, v_backT, v_eqI, v_eqS, List.replicate, small, atI, ixN, D4, v_SetT, v_addT, tgT, setAll]
        have go : ∀ r T, (sSeq D5 (sSeq D6 (sSeq D7 D89))) [some (.int door), some (.tup [.int a, .int b]), some (.tup [.int c, .int d]), some (.int a), some (.int b), some (.int c), some (.int d), none] h = .rt r (h ++ T) → f_law_due [.int door, .tup [.int a, .int b], .tup [.int c, .int d]] h = .ok r (h ++ T) := by
          intro r T e
          show fin (b_law_due [some (.int door), some (.tup [.int a, .int b]), some (.tup [.int c, .int d]), none, none, none, none, none] h) = _
          rw [due_eq, seq_nx (s1 _ _ _ _ _), seq_nx s2, seq_nx s3, seq_nx s4, e]
          rfl
        by_cases h4 : door = 4
        · subst h4
          refine ⟨[], go _ _ ?_⟩
          have s5 : D5 [some (.int 4), some (.tup [.int a, .int b]), some (.tup [.int c, .int d]), some (.int a), some (.int b), some (.int c), some (.int d), none] h = .rt (.bl (decide (a * d < c * b))) h := by simp [c_bind, c_into, c_then, v_K, v_V, v_vR, v_Op, v_Un, v_bOf, v_isB, v_isBx, v_bAnd, v_bOr, v_bNot, v_eAnd, v_eOr, v_eNot, v_eIf, v_aNil, v_aCons, v_Tup, v_Lst, v_Dct, v_Call, v_CallK, v_Bi, v_Isi, v_Cut, v_oNone, v_oSome, v_vO, v_End, v_Seq, v_If, v_Ret, v_Expr, v_Set, v_Par, v_Raise, v_For, v_Put, v_fnx, v_frt, v_fex, v_of, v_add, v_sub, v_neg, v_rel, v_abs, v_lenT, v_lenS, v_max, v_min, v_intB, v_intI, v_gcd, v_cutT, v_listT, v_backT, v_eqI, v_eqS, List.replicate, small, atI, ixN, D5, v_mul (mk t.a t.d), v_mul (mk t.c t.b)]
          rw [seq_rt s5]
          simp [resD, ex, ey]
        · have s5 : D5 [some (.int door), some (.tup [.int a, .int b]), some (.tup [.int c, .int d]), some (.int a), some (.int b), some (.int c), some (.int d), none] h = .nx [some (.int door), some (.tup [.int a, .int b]), some (.tup [.int c, .int d]), some (.int a), some (.int b), some (.int c), some (.int d), none] h := by simp [c_bind, c_into, c_then, v_K, v_V, v_vR, v_Op, v_Un, v_bOf, v_isB, v_isBx, v_bAnd, v_bOr, v_bNot, v_eAnd, v_eOr, v_eNot, v_eIf, v_aNil, v_aCons, v_Tup, v_Lst, v_Dct, v_Call, v_CallK, v_Bi, v_Isi, v_Cut, v_oNone, v_oSome, v_vO, v_End, v_Seq, v_If, v_Ret, v_Expr, v_Set, v_Par, v_Raise, v_For, v_Put, v_fnx, v_frt, v_fex, v_of, v_add, v_sub, v_neg, v_rel, v_abs, v_lenT, v_lenS, v_max, v_min, v_intB, v_intI, v_gcd, v_cutT, v_listT, v_backT, v_eqI, v_eqS, List.replicate, small, atI, ixN, D5, h4]
          by_cases h3 : door = 3
          · subst h3
            by_cases hc : c = 0
            · subst hc
              refine ⟨[], go _ _ ?_⟩
              have s6 : D6 [some (.int 3), some (.tup [.int a, .int b]), some (.tup [.int 0, .int d]), some (.int a), some (.int b), some (.int 0), some (.int d), none] h = .rt (.str "none") h := by simp [c_bind, c_into, c_then, v_K, v_V, v_vR, v_Op, v_Un, v_bOf, v_isB, v_isBx, v_bAnd, v_bOr, v_bNot, v_eAnd, v_eOr, v_eNot, v_eIf, v_aNil, v_aCons, v_Tup, v_Lst, v_Dct, v_Call, v_CallK, v_Bi, v_Isi, v_Cut, v_oNone, v_oSome, v_vO, v_End, v_Seq, v_If, v_Ret, v_Expr, v_Set, v_Par, v_Raise, v_For, v_Put, v_fnx, v_frt, v_fex, v_of, v_add, v_sub, v_neg, v_rel, v_abs, v_lenT, v_lenS, v_max, v_min, v_intB, v_intI, v_gcd, v_cutT, v_listT, v_backT, v_eqI, v_eqS, List.replicate, small, atI, ixN, D6]
              rw [seq_nx s5, seq_rt s6]
              simp [resD, ex, ey]
            · have s6 : D6 [some (.int 3), some (.tup [.int a, .int b]), some (.tup [.int c, .int d]), some (.int a), some (.int b), some (.int c), some (.int d), none] h = .nx [some (.int 3), some (.tup [.int a, .int b]), some (.tup [.int c, .int d]), some (.int a), some (.int b), some (.int c), some (.int d), none] h := by simp [c_bind, c_into, c_then, v_K, v_V, v_vR, v_Op, v_Un, v_bOf, v_isB, v_isBx, v_bAnd, v_bOr, v_bNot, v_eAnd, v_eOr, v_eNot, v_eIf, v_aNil, v_aCons, v_Tup, v_Lst, v_Dct, v_Call, v_CallK, v_Bi, v_Isi, v_Cut, v_oNone, v_oSome, v_vO, v_End, v_Seq, v_If, v_Ret, v_Expr, v_Set, v_Par, v_Raise, v_For, v_Put, v_fnx, v_frt, v_fex, v_of, v_add, v_sub, v_neg, v_rel, v_abs, v_lenT, v_lenS, v_max, v_min, v_intB, v_intI, v_gcd, v_cutT, v_listT, v_backT, v_eqI, v_eqS, List.replicate, small, atI, ixN, D6, hc]
              by_cases hp : 0 < c
              · have hq : 0 < b * c := Int.mul_pos (by omega) hp
                have hm := (bm t.b t.c).2
                have hn : ¬ c < 0 := by omega
                have s7 : D7 [some (.int 3), some (.tup [.int a, .int b]), some (.tup [.int c, .int d]), some (.int a), some (.int b), some (.int c), some (.int d), none] h = .nx [some (.int 3), some (.tup [.int a, .int b]), some (.tup [.int c, .int d]), some (.int a), some (.int b), some (.int c), some (.int d), none] h := by simp [c_bind, c_into, c_then, v_K, v_V, v_vR, v_Op, v_Un, v_bOf, v_isB, v_isBx, v_bAnd, v_bOr, v_bNot, v_eAnd, v_eOr, v_eNot, v_eIf, v_aNil, v_aCons, v_Tup, v_Lst, v_Dct, v_Call, v_CallK, v_Bi, v_Isi, v_Cut, v_oNone, v_oSome, v_vO, v_End, v_Seq, v_If, v_Ret, v_Expr, v_Set, v_Par, v_Raise, v_For, v_Put, v_fnx, v_frt, v_fex, v_of, v_add, v_sub, v_neg, v_rel, v_abs, v_lenT, v_lenS, v_max, v_min, v_intB, v_intI, v_gcd, v_cutT, v_listT, v_backT, v_eqI, v_eqS, List.replicate, small, atI, ixN, D7, hn]
                refine ⟨tl a b c d, go _ _ ?_⟩
                rw [seq_nx s5, seq_nx s6, seq_nx s7, tail_ok t.a t.b t.c t.d (over := a * d) (low := b * c) rfl rfl hq (by omega)]
                simp [resD, ex, ey, hc, hp]
              · have hq : 0 < b * -c := Int.mul_pos (by omega) (by omega)
                have tc : -(2 ^ 300) < -c ∧ -c < 2 ^ 300 := by have := t.c; omega
                have td : -(2 ^ 300) < -d ∧ -d < 2 ^ 300 := by have := t.d; omega
                have hm := (bm t.b tc).2
                have hn : c < 0 := by omega
                have s7 : D7 [some (.int 3), some (.tup [.int a, .int b]), some (.tup [.int c, .int d]), some (.int a), some (.int b), some (.int c), some (.int d), none] h = .nx [some (.int 3), some (.tup [.int a, .int b]), some (.tup [.int c, .int d]), some (.int a), some (.int b), some (.int (-c)), some (.int (-d)), none] h := by simp [c_bind, c_into, c_then, v_K, v_V, v_vR, v_Op, v_Un, v_bOf, v_isB, v_isBx, v_bAnd, v_bOr, v_bNot, v_eAnd, v_eOr, v_eNot, v_eIf, v_aNil, v_aCons, v_Tup, v_Lst, v_Dct, v_Call, v_CallK, v_Bi, v_Isi, v_Cut, v_oNone, v_oSome, v_vO, v_End, v_Seq, v_If, v_Ret, v_Expr, v_Set, v_Par, v_Raise, v_For, v_Put, v_fnx, v_frt, v_fex, v_of, v_add, v_sub, v_neg, v_rel, v_abs, v_lenT, v_lenS, v_max, v_min, v_intB, v_intI, v_gcd, v_cutT, v_listT, v_backT, v_eqI, v_eqS, List.replicate, small, atI, ixN, D7, hn]
                refine ⟨tl a b (-c) (-d), go _ _ ?_⟩
                rw [seq_nx s5, seq_nx s6, seq_nx s7, tail_ok t.a t.b tc td (over := a * -d) (low := b * -c) rfl rfl hq (by omega)]
                simp [resD, ex, ey, hc, hp, Int.mul_neg]
          · have s6 : D6 [some (.int door), some (.tup [.int a, .int b]), some (.tup [.int c, .int d]), some (.int a), some (.int b), some (.int c), some (.int d), none] h = .nx [some (.int door), some (.tup [.int a, .int b]), some (.tup [.int c, .int d]), some (.int a), some (.int b), some (.int c), some (.int d), none] h := by simp [c_bind, c_into, c_then, v_K, v_V, v_vR, v_Op, v_Un, v_bOf, v_isB, v_isBx, v_bAnd, v_bOr, v_bNot, v_eAnd, v_eOr, v_eNot, v_eIf, v_aNil, v_aCons, v_Tup, v_Lst, v_Dct, v_Call, v_CallK, v_Bi, v_Isi, v_Cut, v_oNone, v_oSome, v_vO, v_End, v_Seq, v_If, v_Ret, v_Expr, v_Set, v_Par, v_Raise, v_For, v_Put, v_fnx, v_frt, v_fex, v_of, v_add, v_sub, v_neg, v_rel, v_abs, v_lenT, v_lenS, v_max, v_min, v_intB, v_intI, v_gcd, v_cutT, v_listT, v_backT, v_eqI, v_eqS, List.replicate, small, atI, ixN, D6, h3]
            have s7 : D7 [some (.int door), some (.tup [.int a, .int b]), some (.tup [.int c, .int d]), some (.int a), some (.int b), some (.int c), some (.int d), none] h = .nx [some (.int door), some (.tup [.int a, .int b]), some (.tup [.int c, .int d]), some (.int a), some (.int b), some (.int c), some (.int d), none] h := by simp [c_bind, c_into, c_then, v_K, v_V, v_vR, v_Op, v_Un, v_bOf, v_isB, v_isBx, v_bAnd, v_bOr, v_bNot, v_eAnd, v_eOr, v_eNot, v_eIf, v_aNil, v_aCons, v_Tup, v_Lst, v_Dct, v_Call, v_CallK, v_Bi, v_Isi, v_Cut, v_oNone, v_oSome, v_vO, v_End, v_Seq, v_If, v_Ret, v_Expr, v_Set, v_Par, v_Raise, v_For, v_Put, v_fnx, v_frt, v_fex, v_of, v_add, v_sub, v_neg, v_rel, v_abs, v_lenT, v_lenS, v_max, v_min, v_intB, v_intI, v_gcd, v_cutT, v_listT, v_backT, v_eqI, v_eqS, List.replicate, small, atI, ixN, D7, h3]
            have tp := t.pos
            rcases (by omega : door = 0 ∨ door = 1 ∨ door = 2) with rfl | rfl | rfl
            · refine ⟨tl a b c d, go _ _ ?_⟩
              rw [seq_nx s5, seq_nx s6, seq_nx s7, tail_ok t.a t.b t.c t.d (over := a * d + c * b) (low := b * d) rfl rfl tp.1 tp.2]
              simp [resD, ex, ey]
            · refine ⟨tl a b c d, go _ _ ?_⟩
              rw [seq_nx s5, seq_nx s6, seq_nx s7, tail_ok t.a t.b t.c t.d (over := a * d - c * b) (low := b * d) rfl rfl tp.1 tp.2]
              simp [resD, ex, ey]
            · refine ⟨tl a b c d, go _ _ ?_⟩
              rw [seq_nx s5, seq_nx s6, seq_nx s7, tail_ok t.a t.b t.c t.d (over := a * c) (low := b * d) rfl rfl tp.1 tp.2]
              simp [resD, ex, ey]
end K03
end

section
set_option Elab.async false
set_option linter.all false
set_option autoImplicit false
set_option maxRecDepth 100000
set_option exponentiation.threshold 20000
set_option maxHeartbeats 4000000
open PySem L2
namespace K03
open MI
/-! ### what is shown -/
structure Shw (q : PyData) : Prop where
  sh : q.showable = true
  hd : q.hasDict = false ∨ noLst q = true
  dp : q.depth ≤ 4
  ls : q.leavesShort 2000 = true
  wt : q.weight ≤ 3900
theorem Shw.of {q : PyData} {k w : Nat} (s : Sh q k w) (hk : k ≤ 4 := by decide) (hw : w ≤ 3900 := by decide) : Shw q := ⟨s.sh, .inl s.hd, Nat.le_trans s.dp hk, s.ls, Nat.le_trans s.wt hw⟩
theorem bent_pyS {p : Nat} {h : Hq} {d : D} (B : Bent1 p h d) : ∃ q, (∀ h', Step p h h' → ∀ n, toPyR h' (n + 3) d = some q) ∧ (Sh q 1 1921 ∨ q = .dict []) := by
  cases B with
  | int i a b => exact ⟨.int i, fun _ _ _ => rfl, .inl ((Sh.int a b).more (by decide) (by decide))⟩
  | non => exact ⟨.none, fun _ _ _ => rfl, .inl ⟨rfl, rfl, by decide, rfl, by decide⟩⟩
  | tru => exact ⟨.bool true, fun _ _ _ => rfl, .inl ⟨rfl, rfl, by decide, rfl, by decide⟩⟩
  | str i a b => exact ⟨.str (toString i), fun _ _ _ => rfl, .inl ((Sh.text a b).more (by decide) (by decide))⟩
  | tup i a b => exact ⟨.tuple [.int i], fun _ _ n => rfl, .inl ((Sh.tup (ps := [.int i]) (k := 0) (w := 301) (by simp; exact Sh.int a b)).more (by decide) (by simp))⟩
  | dct m a b => exact ⟨.dict [], fun h' S n => by simp [toPyR, S.get a b, opts], .inr rfl⟩
theorem thg_py {p : Nat} {h : Hq} {d : D} (T : Thg p h d) : ∃ q, (∀ h', Step p h h' → ∀ n, toPyR h' (n + 4) d = some q) ∧ Shw q := by
  cases T with
  | int i a b => exact ⟨.int i, fun _ _ _ => rfl, .of (Sh.int a b)⟩
  | tup l a b =>
    refine ⟨.tuple (l.map .int), fun h' _ n => ?_, .of (Sh.tup (ints_sh b)) (by decide) (by rw [List.length_map]; omega)⟩
    show (opts (toPyR h' (n + 2 + 1)) (l.map D.int)).map PyData.tuple = _
    rw [opts_int]; rfl
  | lst m l a b c e =>
    refine ⟨.list (l.map .int), fun h' S n => ?_, .of (Sh.lst (ints_sh e)) (by decide) (by rw [List.length_map]; omega)⟩
    have b' := lstAt_some (S.lst a b)
    have o1 := opts_int (h := h') (n := n + 2) l
    simp only [toPyR, b', o1]
    rfl
  | left d u B a b =>
    obtain ⟨q, e, s⟩ := bent_pyS B
    refine ⟨.tuple [q, .int u], fun h' S n => ?_, ?_⟩
    · show (opts (toPyR h' (n + 3)) [d, .int u]).map PyData.tuple = _
      simp only [opts, e h' S n]
      rfl
    · rcases s with s | rfl
      · refine .of (Sh.tup (k := 1) (w := 1921) (ps := [q, .int u]) ?_) (by decide) (by simp)
        intro r hr
        simp only [List.mem_cons, List.not_mem_nil, or_false] at hr
        rcases hr with rfl | rfl
        · exact s
        · exact (Sh.int a b).more (by decide) (by decide)
      · obtain ⟨a1, a2, a3, a4, a5⟩ := Sh.int a b
        refine ⟨?_, .inr ?_, ?_, ?_, ?_⟩
        · simp [PyData.showable, PyData.showableAll, PyData.showableKv]; exact of_decide_eq_true a1
        · simp [noLst, noLsts, noLstK]
        · simp [PyData.depth, PyData.depthAll, PyData.depthKv]
        · simp only [PyData.leavesShort, PyData.leavesShortAll, PyData.leavesShortKv, Bool.true_and, Bool.and_true]; exact a4
        · simp only [PyData.weight, PyData.weightAll, PyData.weightKv] at a5 ⊢; omega
  | right o d B a b =>
    obtain ⟨q, e, s⟩ := bent_pyS B
    refine ⟨.tuple [.int o, q], fun h' S n => ?_, ?_⟩
    · show (opts (toPyR h' (n + 3)) [.int o, d]).map PyData.tuple = _
      simp only [opts, e h' S n]
      rfl
    · rcases s with s | rfl
      · refine .of (Sh.tup (k := 1) (w := 1921) (ps := [.int o, q]) ?_) (by decide) (by simp)
        intro r hr
        simp only [List.mem_cons, List.not_mem_nil, or_false] at hr
        rcases hr with rfl | rfl
        · exact (Sh.int a b).more (by decide) (by decide)
        · exact s
      · obtain ⟨a1, a2, a3, a4, a5⟩ := Sh.int a b
        refine ⟨?_, .inr ?_, ?_, ?_, ?_⟩
        · simp [PyData.showable, PyData.showableAll, PyData.showableKv]; exact of_decide_eq_true a1
        · simp [noLst, noLsts, noLstK]
        · simp [PyData.depth, PyData.depthAll, PyData.depthKv]
        · simp only [PyData.leavesShort, PyData.leavesShortAll, PyData.leavesShortKv, Bool.true_and, Bool.and_true]; exact a4
        · simp only [PyData.weight, PyData.weightAll, PyData.weightKv] at a5 ⊢; omega
/-- two things side by side -/
theorem pair_repr {p : Nat} {h : Hq} {x y : D} (X : Thg p h x) (Y : Thg p h y) : ∃ t, ∀ h', Step p h h' → gRepr [.tup [x, y]] h' = .ok (.str t) h' := by
  obtain ⟨q, e1, s1⟩ := thg_py X
  obtain ⟨r, e2, s2⟩ := thg_py Y
  refine ⟨(PyData.tuple [q, r]).shown, fun h' S => ?_⟩
  have e : toPyR h' 60 (.tup [x, y]) = some (.tuple [q, r]) := by
    show (opts (toPyR h' (55 + 4)) [x, y]).map PyData.tuple = _
    simp only [opts, e1 h' S 55, e2 h' S 55]
    rfl
  have ls : (PyData.tuple [q, r]).leavesShort 2000 = true := by simp [PyData.leavesShort, PyData.leavesShortAll, s1.ls, s2.ls]
  have wt : (PyData.tuple [q, r]).weight ≤ 8000 := by
    have := s1.wt
    have := s2.wt
    simp only [PyData.weight, PyData.weightAll]
    omega
  have len : (PyData.tuple [q, r]).shown.length ≤ 16777216 := by
    have h6 := PyData.shown_le 2000 (by decide) _ ls
    have : (2000 + 2) * (PyData.tuple [q, r]).weight ≤ (2000 + 2) * 8000 := Nat.mul_le_mul_left _ wt
    omega
  have dp : (PyData.tuple [q, r]).depth ≤ 60 := by
    have := s1.dp
    have := s2.dp
    simp only [PyData.depth, PyData.depthAll]
    omega
  have c1 : (!q.hasDict || noLst q) = true := by rcases s1.hd with z | z <;> simp [z]
  have c2 : (!r.hasDict || noLst r) = true := by rcases s2.hd with z | z <;> simp [z]
  have sT : showsT (.tuple [q, r]) = true := by
    have hs : (PyData.tuple [q, r]).showable = true := by simp [PyData.showable, PyData.showableAll, s1.sh, s2.sh]
    have hl : small (PyData.tuple [q, r]).shown.length = true := decide_eq_true len
    unfold showsT
    simp only [hs, List.all_cons, List.all_nil, c1, c2, Bool.and_true, Bool.true_and, decide_eq_true dp, hl]
  unfold gRepr
  simp only [e, sT, if_true]
  split <;> rfl
/-- what a door tells is shown -/
theorem big_sh {i : Int} (a : -(2 ^ 700) < i) (b : i < 2 ^ 700) : Sh (.int i) 0 701 := by
  have h1 : i.natAbs.log2 < 700 := lgI (k := 700) a b (by decide)
  refine ⟨decide_eq_true (by omega), rfl, Nat.le_refl _, decide_eq_true ?_, ?_⟩
  · exact Nat.le_trans (PyProof.Rows.int_text_len_1921 (by omega)) (by decide)
  · show (if i == 0 then 0 else i.natAbs.log2 + 1) ≤ 701
    split <;> omega
theorem low_sh {x y : Int} (hy : y ≠ 0) (a : -(2 ^ 700) < x ∧ x < 2 ^ 700) (b : -(2 ^ 700) < y ∧ y < 2 ^ 700) : ∃ q, (∀ h, toPyR h 60 (lowD x y) = some q) ∧ shows q = true := by
  have b1 := div_in (gI_pos (o := x) hy) a.1 a.2
  have b2 := div_in (gI_pos (o := x) hy) b.1 b.2
  refine ⟨.tuple [.int (x / gI x y), .int (y / gI x y)], fun _ => rfl, (Sh.tup (ps := [.int (x / gI x y), .int (y / gI x y)]) (k := 0) (w := 701) ?_).fits (by decide) (by simp)⟩
  intro r hr
  simp only [List.mem_cons, List.not_mem_nil, or_false] at hr
  rcases hr with rfl | rfl
  · exact big_sh b1.1 b1.2
  · exact big_sh b2.1 b2.2
theorem res_sh {p : Nat} {h : Hq} {x y : D} (X : Thg p h x) (Y : Thg p h y) (door : Int) : ∃ q, (∀ h, toPyR h 60 (resD door x y) = some q) ∧ shows q = true := by
  have tx : ∃ q, (∀ h, toPyR h 60 (.str "none") = some q) ∧ shows q = true := ⟨.str "none", fun _ => rfl, by decide +kernel⟩
  have tb : ∀ b : Bool, ∃ q, (∀ h, toPyR h 60 (.bl b) = some q) ∧ shows q = true := fun b => ⟨.bool b, fun _ => rfl, by cases b <;> decide +kernel⟩
  cases ex : fr2 x with
  | none => simp only [resD, ex]; exact tx
  | some ab =>
    obtain ⟨a, b⟩ := ab
    obtain ⟨rfl, b1, bg⟩ := fr2_some ex
    have bx := thg_pair X
    simp only [resD, ex]
    by_cases h5 : door = 5
    · simp only [if_pos h5]
      have := div_in (o := a) (g := b) (B := 2 ^ 300) (by omega) bx.1.1 bx.1.2
      exact ⟨.int (a / b), fun _ => rfl, (Sh.int this.1 this.2).fits (by decide) (by decide)⟩
    · simp only [if_neg h5]
      cases ey : fr2 y with
      | none =>
        dsimp only
        split
        · exact tx
        · exact tb _
      | some cd =>
        obtain ⟨c, d⟩ := cd
        obtain ⟨rfl, d1, dg⟩ := fr2_some ey
        have by_ := thg_pair Y
        have k : (2 : Int) ^ 600 * 2 < 2 ^ 700 := by decide
        have m1 := bm bx.1 by_.2
        have m2 := bm by_.1 bx.2
        have m3 := bm bx.2 by_.2
        have m4 := bm bx.1 by_.1
        have m5 := bm bx.2 by_.1
        have pbd : b * d ≠ 0 := by have := Int.mul_pos (show 0 < b by omega) (show 0 < d by omega); omega
        dsimp only
        by_cases h4 : door = 4
        · simp only [if_pos h4]; exact tb _
        · simp only [if_neg h4]
          by_cases h3 : door = 3
          · simp only [if_pos h3]
            by_cases hc : c = 0
            · simp only [if_pos hc]; exact tx
            · simp only [if_neg hc]
              have pbc : b * c ≠ 0 := Int.mul_ne_zero (by omega) hc
              split
              · exact low_sh pbc ⟨by omega, by omega⟩ ⟨by omega, by omega⟩
              · exact low_sh (by omega) ⟨by omega, by omega⟩ ⟨by omega, by omega⟩
          · simp only [if_neg h3]
            split
            · exact low_sh pbd ⟨by omega, by omega⟩ ⟨by omega, by omega⟩
            · split
              · exact low_sh pbd ⟨by omega, by omega⟩ ⟨by omega, by omega⟩
              · exact low_sh pbd ⟨by omega, by omega⟩ ⟨by omega, by omega⟩
theorem met_ok {p : Nat} {h : Hq} {x y : D} (X : Thg p h x) (Y : Thg p h y) (door : Int) (hd : door = 0 ∨ door = 1 ∨ door = 2 ∨ door = 3 ∨ door = 4 ∨ door = 5) :
    ∃ T, f_law_met [.int door, x, y] h = .ok (resD door x y) (h ++ T) := by
  rcases told_ok X Y door hd with ⟨T, e⟩ | ⟨e1, e⟩
  · refine ⟨T, ?_⟩
    show fin (b_law_met [some (.int door), some x, some y, none] h) = _
    unfold b_law_met
    have e2 : (sTry cat_met hd_met (sSeq (sRet (eCall 3 f_law_told (aCons (eV 0) (aCons (eV 1) (aCons (eV 2) (aNil)))))) (sEnd))) [some (.int door), some x, some y, none] h = .rt (resD door x y) (h ++ T) := by
      have e3 : (sSeq (sRet (eCall 3 f_law_told (aCons (eV 0) (aCons (eV 1) (aCons (eV 2) (aNil)))))) (sEnd)) [some (.int door), some x, some y, none] h = .rt (resD door x y) (h ++ T) := by simp [c_bind, c_into, c_then, v_K, v_V, v_vR, v_Op, v_Un, v_bOf, v_isB, v_isBx, v_bAnd, v_bOr, v_bNot, v_eAnd, v_eOr, v_eNot, v_eIf, v_aNil, v_aCons, v_Tup, v_Lst, v_Dct, v_Call, v_CallK, v_Bi, v_Isi, v_Cut, v_oNone, v_oSome, v_vO, v_End, v_Seq, v_If, v_Ret, v_Expr, v_Set, v_Par, v_Raise, v_For, v_Put, v_fnx, v_frt, v_fex, v_of, v_add, v_sub, v_neg, v_rel, v_abs, v_lenT, v_lenS, v_max, v_min, v_intB, v_intI, v_gcd, v_cutT, v_listT, v_backT, v_eqI, v_eqS, List.replicate, small, atI, ixN, e]
      unfold sTry
      rw [e3]
    rw [seq_rt e2]
    rfl
  · refine ⟨[], ?_⟩
    show fin (b_law_met [some (.int door), some x, some y, none] h) = _
    unfold b_law_met
    have e2 : (sTry cat_met hd_met (sSeq (sRet (eCall 3 f_law_told (aCons (eV 0) (aCons (eV 1) (aCons (eV 2) (aNil)))))) (sEnd))) [some (.int door), some x, some y, none] h = .rt (.str "none") h := by
      have e3 : (sSeq (sRet (eCall 3 f_law_told (aCons (eV 0) (aCons (eV 1) (aCons (eV 2) (aNil)))))) (sEnd)) [some (.int door), some x, some y, none] h = .exc { cls := "NoFraction" } h := by simp [c_bind, c_into, c_then, v_K, v_V, v_vR, v_Op, v_Un, v_bOf, v_isB, v_isBx, v_bAnd, v_bOr, v_bNot, v_eAnd, v_eOr, v_eNot, v_eIf, v_aNil, v_aCons, v_Tup, v_Lst, v_Dct, v_Call, v_CallK, v_Bi, v_Isi, v_Cut, v_oNone, v_oSome, v_vO, v_End, v_Seq, v_If, v_Ret, v_Expr, v_Set, v_Par, v_Raise, v_For, v_Put, v_fnx, v_frt, v_fex, v_of, v_add, v_sub, v_neg, v_rel, v_abs, v_lenT, v_lenS, v_max, v_min, v_intB, v_intI, v_gcd, v_cutT, v_listT, v_backT, v_eqI, v_eqS, List.replicate, small, atI, ixN, e]
      unfold sTry
      rw [e3]
      rfl
    rw [seq_rt e2, e1, List.append_nil]
    rfl
end K03
end

section
set_option Elab.async false
set_option linter.all false
set_option autoImplicit false
set_option maxRecDepth 100000
set_option exponentiation.threshold 20000
set_option maxHeartbeats 4000000
open PySem L2
namespace K03
open MI
theorem doors_ok {h : Hq} {p : Nat} {n : Int} {x y : D} {a0 a1 a2 a3 a6 a7 a9 a10 : Option D} (P : PotAt h p n) (X : Thg p h x) (Y : Thg p h y) (x8 : Option D) :
    ∃ y8 h', L_doors [a0, a1, a2, a3, some x, some y, a6, a7, x8, a9, a10] h = .nx [a0, a1, a2, a3, some x, some y, a6, a7, y8, a9, a10] h' ∧ Step p h h' ∧ PotAt h' p n := by
  have key := turns_range (n := 6) (j := 8) (b := sSeq L_door sEnd) (get := fun i _ => if i < ((6 : Int) - 0).toNat then some (.int (0 + (i : Int))) else none) (fin := fun i _ => decide (((6 : Int) - 0).toNat ≤ i))
    (I := fun i fr g => Step p h g ∧ PotAt g p n ∧ ∃ y8, fr = [a0, a1, a2, a3, some x, some y, a6, a7, y8, a9, a10])
    (fun i h hi => by simp; exact hi) (fun h => by simp) (fun i fr g hi hI => ?_) 6 0 [a0, a1, a2, a3, some x, some y, a6, a7, x8, a9, a10] h (by omega) ⟨Step.refl p h, P, x8, rfl⟩
  · obtain ⟨fr', h', e, S, P', y8, rfl⟩ := key
    refine ⟨y8, h', ?_, S, P'⟩
    unfold L_doors
    have es : iRange (aCons (eK (.int 6)) (aNil)) [a0, a1, a2, a3, some x, some y, a6, a7, x8, a9, a10] h = .ok ⟨6, fun i _ => if i < ((6 : Int) - 0).toNat then some (.int (0 + (i : Int))) else none, fun i _ => decide (((6 : Int) - 0).toNat ≤ i)⟩ h := rfl
    rw [v_For, es]
    exact e
  · obtain ⟨S, P', y8, rfl⟩ := hI
    have X' := X.step S
    have Y' := Y.step S
    have hd : (i : Int) = 0 ∨ (i : Int) = 1 ∨ (i : Int) = 2 ∨ (i : Int) = 3 ∨ (i : Int) = 4 ∨ (i : Int) = 5 := by omega
    obtain ⟨T1, em⟩ := met_ok X' Y' i hd
    obtain ⟨T2, ed⟩ := due_ok (X'.step (Step.app p g T1)) (Y'.step (Step.app p g T1)) i hd
    obtain ⟨q, e1, s1⟩ := res_sh X Y i
    have r1 : ∀ h, gRepr [resD i x y] h = .ok (.str q.shown) h := fun h => repr_ok (e1 h) s1
    refine ⟨[a0, a1, a2, a3, some x, some y, a6, a7, some (.int i), a9, a10], g ++ (T1 ++ T2), ?_, S.trans (Step.app p g _), P'.app _, _, rfl⟩
    have d1 : L_door [a0, a1, a2, a3, some x, some y, a6, a7, some (.int i), a9, a10] g = .nx [a0, a1, a2, a3, some x, some y, a6, a7, some (.int i), a9, a10] (g ++ (T1 ++ T2)) := by
      simp [c_bind, c_into, c_then, v_K, v_V, v_vR, v_Op, v_Un, v_bOf, v_isB, v_isBx, v_bAnd, v_bOr, v_bNot, v_eAnd, v_eOr, v_eNot, v_eIf, v_aNil, v_aCons, v_Tup, v_Lst, v_Dct, v_Call, v_CallK, v_Bi, v_Isi, v_Cut, v_oNone, v_oSome, v_vO, v_End, v_Seq, v_If, v_Ret, v_Expr, v_Set, v_Par, v_Raise, v_For, v_Put, v_fnx, v_frt, v_fex, v_of, v_add, v_sub, v_neg, v_rel, v_abs, v_lenT, v_lenS, v_max, v_min, v_intB, v_intI, v_gcd, v_cutT, v_listT, v_backT, v_eqI, v_eqS, List.replicate, small, atI, ixN, L_door, em, ed, r1]
    show sSeq L_door sEnd [a0, a1, a2, a3, some x, some y, a6, a7, some (.int i), a9, a10] g = _
    rw [seq_nx d1]
    rfl
theorem bend1_ok {h : Hq} {p : Nat} {n o u w : Int} {a0 a1 a3 a5 a7 a8 a9 a10 : Option D} (P : PotAt h p n) (hn : n < 990000) (o0 : -(2 ^ 150) < o) (o1 : o < 2 ^ 150) (u0 : -(2 ^ 150) < u) (u1 : u < 2 ^ 150) :
    ∃ x h', L_bend1 [a0, a1, some (.ref p), a3, some (.tup [.int o, .int u]), a5, some (.int w), a7, a8, a9, a10] h = .nx [a0, a1, some (.ref p), a3, some x, a5, some (.int w), a7, a8, a9, a10] h' ∧ Thg p h' x ∧ PotAt h' p (n + 10) ∧ Step p h h' := by
  by_cases hw : w = 0 ∨ w = 2
  · obtain ⟨x, h', e, X, P', S⟩ := bent_tup (k := 2) (deep := 1) P (by omega) (by decide) o0 o1 u0 u1
    refine ⟨x, h', ?_, X, P', S⟩
    rcases hw with rfl | rfl <;> simp [c_bind, c_into, c_then, v_K, v_V, v_vR, v_Op, v_Un, v_bOf, v_isB, v_isBx, v_bAnd, v_bOr, v_bNot, v_eAnd, v_eOr, v_eNot, v_eIf, v_aNil, v_aCons, v_Tup, v_Lst, v_Dct, v_Call, v_CallK, v_Bi, v_Isi, v_Cut, v_oNone, v_oSome, v_vO, v_End, v_Seq, v_If, v_Ret, v_Expr, v_Set, v_Par, v_Raise, v_For, v_Put, v_fnx, v_frt, v_fex, v_of, v_add, v_sub, v_neg, v_rel, v_abs, v_lenT, v_lenS, v_max, v_min, v_intB, v_intI, v_gcd, v_cutT, v_listT, v_backT, v_eqI, v_eqS, List.replicate, small, atI, ixN, L_bend1, e]
  · have h0 : ¬ w = 0 := fun z => hw (.inl z)
    have h2 : ¬ w = 2 := fun z => hw (.inr z)
    have k : (2 : Int) ^ 150 < 2 ^ 300 := by decide
    refine ⟨.tup [.int o, .int u], h, by simp [c_bind, c_into, c_then, v_K, v_V, v_vR, v_Op, v_Un, v_bOf, v_isB, v_isBx, v_bAnd, v_bOr, v_bNot, v_eAnd, v_eOr, v_eNot, v_eIf, v_aNil, v_aCons, v_Tup, v_Lst, v_Dct, v_Call, v_CallK, v_Bi, v_Isi, v_Cut, v_oNone, v_oSome, v_vO, v_End, v_Seq, v_If, v_Ret, v_Expr, v_Set, v_Par, v_Raise, v_For, v_Put, v_fnx, v_frt, v_fex, v_of, v_add, v_sub, v_neg, v_rel, v_abs, v_lenT, v_lenS, v_max, v_min, v_intB, v_intI, v_gcd, v_cutT, v_listT, v_backT, v_eqI, v_eqS, List.replicate, small, atI, ixN, L_bend1, h0, h2], .tup [o, u] (by simp) (by simp; omega), P.mono (by omega), Step.refl p h⟩
theorem bend2_ok {h : Hq} {p : Nat} {n o u w : Int} {a0 a1 a3 a4 a7 a8 a9 a10 : Option D} (P : PotAt h p n) (hn : n < 990000) (o0 : -(2 ^ 150) < o) (o1 : o < 2 ^ 150) (u0 : -(2 ^ 150) < u) (u1 : u < 2 ^ 150) :
    ∃ x h', L_bend2 [a0, a1, some (.ref p), a3, a4, some (.tup [.int o, .int u]), some (.int w), a7, a8, a9, a10] h = .nx [a0, a1, some (.ref p), a3, a4, some x, some (.int w), a7, a8, a9, a10] h' ∧ Thg p h' x ∧ PotAt h' p (n + 10) ∧ Step p h h' := by
  by_cases hw : w = 1 ∨ w = 2
  · obtain ⟨x, h', e, X, P', S⟩ := bent_tup (k := 2) (deep := 1) P (by omega) (by decide) o0 o1 u0 u1
    refine ⟨x, h', ?_, X, P', S⟩
    rcases hw with rfl | rfl <;> simp [c_bind, c_into, c_then, v_K, v_V, v_vR, v_Op, v_Un, v_bOf, v_isB, v_isBx, v_bAnd, v_bOr, v_bNot, v_eAnd, v_eOr, v_eNot, v_eIf, v_aNil, v_aCons, v_Tup, v_Lst, v_Dct, v_Call, v_CallK, v_Bi, v_Isi, v_Cut, v_oNone, v_oSome, v_vO, v_End, v_Seq, v_If, v_Ret, v_Expr, v_Set, v_Par, v_Raise, v_For, v_Put, v_fnx, v_frt, v_fex, v_of, v_add, v_sub, v_neg, v_rel, v_abs, v_lenT, v_lenS, v_max, v_min, v_intB, v_intI, v_gcd, v_cutT, v_listT, v_backT, v_eqI, v_eqS, List.replicate, small, atI, ixN, L_bend2, e]
  · have h0 : ¬ w = 1 := fun z => hw (.inl z)
    have h2 : ¬ w = 2 := fun z => hw (.inr z)
    have k : (2 : Int) ^ 150 < 2 ^ 300 := by decide
    refine ⟨.tup [.int o, .int u], h, by simp [c_bind, c_into, c_then, v_K, v_V, v_vR, v_Op, v_Un, v_bOf, v_isB, v_isBx, v_bAnd, v_bOr, v_bNot, v_eAnd, v_eOr, v_eNot, v_eIf, v_aNil, v_aCons, v_Tup, v_Lst, v_Dct, v_Call, v_CallK, v_Bi, v_Isi, v_Cut, v_oNone, v_oSome, v_vO, v_End, v_Seq, v_If, v_Ret, v_Expr, v_Set, v_Par, v_Raise, v_For, v_Put, v_fnx, v_frt, v_fex, v_of, v_add, v_sub, v_neg, v_rel, v_abs, v_lenT, v_lenS, v_max, v_min, v_intB, v_intI, v_gcd, v_cutT, v_listT, v_backT, v_eqI, v_eqS, List.replicate, small, atI, ixN, L_bend2, h0, h2], .tup [o, u] (by simp) (by simp; omega), P.mono (by omega), Step.refl p h⟩
theorem one_ok {h : Hq} {p : Nat} {n : Int} {a0 a1 a3 a9 a10 : Option D} (P : PotAt h p n) (hn : n < 900000) (x4 x5 x6 x7 x8 : Option D) :
    ∃ y4 y5 y6 y7 y8 h', sSeq L_pair (sSeq L_other (sSeq L_way (sSeq L_bend1 (sSeq L_bend2 (sSeq L_kept (sSeq L_doors (sSeq L_after (sEnd)))))))) [a0, a1, some (.ref p), a3, x4, x5, x6, x7, x8, a9, a10] h = .nx [a0, a1, some (.ref p), a3, y4, y5, y6, y7, y8, a9, a10] h' ∧ PotAt h' p (n + 60) := by
  obtain ⟨o, u, h1, e1, o0, o1, u0, u1, P1, S1⟩ := fraction_ok P (by omega)
  obtain ⟨c, d, h2, e2, c0, c1, d0, d1, P2, S2⟩ := fraction_ok P1 (by omega)
  have s1 : L_pair [a0, a1, some (.ref p), a3, x4, x5, x6, x7, x8, a9, a10] h = .nx [a0, a1, some (.ref p), a3, some (.tup [.int o, .int u]), some (.tup [.int c, .int d]), x6, x7, x8, a9, a10] h2 := by simp [c_bind, c_into, c_then, v_K, v_V, v_vR, v_Op, v_Un, v_bOf, v_isB, v_isBx, v_bAnd, v_bOr, v_bNot, v_eAnd, v_eOr, v_eNot, v_eIf, v_aNil, v_aCons, v_Tup, v_Lst, v_Dct, v_Call, v_CallK, v_Bi, v_Isi, v_Cut, v_oNone, v_oSome, v_vO, v_End, v_Seq, v_If, v_Ret, v_Expr, v_Set, v_Par, v_Raise, v_For, v_Put, v_fnx, v_frt, v_fex, v_of, v_add, v_sub, v_neg, v_rel, v_abs, v_lenT, v_lenS, v_max, v_min, v_intB, v_intI, v_gcd, v_cutT, v_listT, v_backT, v_eqI, v_eqS, List.replicate, small, atI, ixN, L_pair, e1, e2]
  obtain ⟨L, hL⟩ : ∃ L : List D, L = [.tup [.int c, .int d], .tup [.int c, .int d], .tup [.int c, .int d], .tup [.int o, .int u], .tup [.int (0 - o), .int u], .tup [.int 0, .int 1]] := ⟨_, rfl⟩
  have hp2 := P2.lt
  obtain ⟨j, h3, e3, j0, j1, P3, S3⟩ := take_ok (many := 6) (P2.app [.lst L]) (by omega) (by decide) (by decide)
  have lL : lstAt h3 h2.length = some L := S3.lst (by omega) (lst_new _ _)
  obtain ⟨c', d', ec, c0', c1', d0', d1'⟩ : ∃ c' d' : Int, atI L j = some (.tup [.int c', .int d']) ∧ -(2 ^ 150) < c' ∧ c' < 2 ^ 150 ∧ -(2 ^ 150) < d' ∧ d' < 2 ^ 150 := by
    rcases (by omega : j = 0 ∨ j = 1 ∨ j = 2 ∨ j = 3 ∨ j = 4 ∨ j = 5) with rfl | rfl | rfl | rfl | rfl | rfl
    · exact ⟨c, d, by subst hL; rfl, c0, c1, by omega, d1⟩
    · exact ⟨c, d, by subst hL; rfl, c0, c1, by omega, d1⟩
    · exact ⟨c, d, by subst hL; rfl, c0, c1, by omega, d1⟩
    · exact ⟨o, u, by subst hL; rfl, o0, o1, by omega, u1⟩
    · exact ⟨0 - o, u, by subst hL; rfl, by omega, by omega, by omega, u1⟩
    · exact ⟨0, 1, by subst hL; rfl, by decide, by decide, by decide, by decide⟩
  have g0 : ∀ h, dIx (.tup [.int o, .int u]) (.int 0) h = .ok (.int o) h := fun h => v_ixT rfl
  have g1 : ∀ h, dIx (.tup [.int o, .int u]) (.int 1) h = .ok (.int u) h := fun h => v_ixT rfl
  have s2 : L_other [a0, a1, some (.ref p), a3, some (.tup [.int o, .int u]), some (.tup [.int c, .int d]), x6, x7, x8, a9, a10] h2 = .nx [a0, a1, some (.ref p), a3, some (.tup [.int o, .int u]), some (.tup [.int c', .int d']), x6, x7, x8, a9, a10] h3 := by
    subst hL
    simp at e3 lL ec
    simp [c_bind, c_into, c_then, v_K, v_V, v_vR, v_Op, v_Un, v_bOf, v_isB, v_isBx, v_bAnd, v_bOr, v_bNot, v_eAnd, v_eOr, v_eNot, v_eIf, v_aNil, v_aCons, v_Tup, v_Lst, v_Dct, v_Call, v_CallK, v_Bi, v_Isi, v_Cut, v_oNone, v_oSome, v_vO, v_End, v_Seq, v_If, v_Ret, v_Expr, v_Set, v_Par, v_Raise, v_For, v_Put, v_fnx, v_frt, v_fex, v_of, v_add, v_sub, v_neg, v_rel, v_abs, v_lenT, v_lenS, v_max, v_min, v_intB, v_intI, v_gcd, v_cutT, v_listT, v_backT, v_eqI, v_eqS, List.replicate, small, atI, ixN, L_other, g0, g1, e3, v_ixL lL ec]
  obtain ⟨w, h4, e4, w0, w1, P4, S4⟩ := take_ok (many := 8) P3 (by omega) (by decide) (by decide)
  have s3 : L_way [a0, a1, some (.ref p), a3, some (.tup [.int o, .int u]), some (.tup [.int c', .int d']), x6, x7, x8, a9, a10] h3 = .nx [a0, a1, some (.ref p), a3, some (.tup [.int o, .int u]), some (.tup [.int c', .int d']), some (.int w), x7, x8, a9, a10] h4 := by simp [c_bind, c_into, c_then, v_K, v_V, v_vR, v_Op, v_Un, v_bOf, v_isB, v_isBx, v_bAnd, v_bOr, v_bNot, v_eAnd, v_eOr, v_eNot, v_eIf, v_aNil, v_aCons, v_Tup, v_Lst, v_Dct, v_Call, v_CallK, v_Bi, v_Isi, v_Cut, v_oNone, v_oSome, v_vO, v_End, v_Seq, v_If, v_Ret, v_Expr, v_Set, v_Par, v_Raise, v_For, v_Put, v_fnx, v_frt, v_fex, v_of, v_add, v_sub, v_neg, v_rel, v_abs, v_lenT, v_lenS, v_max, v_min, v_intB, v_intI, v_gcd, v_cutT, v_listT, v_backT, v_eqI, v_eqS, List.replicate, small, atI, ixN, L_way, e4]
  obtain ⟨x, h5, s4, X5, P5, S5⟩ := bend1_ok (a0 := a0) (a1 := a1) (a3 := a3) (a5 := some (.tup [.int c', .int d'])) (a7 := x7) (a8 := x8) (a9 := a9) (a10 := a10) (w := w) P4 (by omega) o0 o1 (by omega) u1
  obtain ⟨y, h6, s5, Y6, P6, S6⟩ := bend2_ok (a0 := a0) (a1 := a1) (a3 := a3) (a4 := some x) (a7 := x7) (a8 := x8) (a9 := a9) (a10 := a10) (w := w) P5 (by omega) c0' c1' d0' d1'
  have X6 := X5.step S6
  obtain ⟨t, rt⟩ := pair_repr X6 Y6
  have s6 : L_kept [a0, a1, some (.ref p), a3, some x, some y, some (.int w), x7, x8, a9, a10] h6 = .nx [a0, a1, some (.ref p), a3, some x, some y, some (.int w), some (.str t), x8, a9, a10] h6 := by simp [c_bind, c_into, c_then, v_K, v_V, v_vR, v_Op, v_Un, v_bOf, v_isB, v_isBx, v_bAnd, v_bOr, v_bNot, v_eAnd, v_eOr, v_eNot, v_eIf, v_aNil, v_aCons, v_Tup, v_Lst, v_Dct, v_Call, v_CallK, v_Bi, v_Isi, v_Cut, v_oNone, v_oSome, v_vO, v_End, v_Seq, v_If, v_Ret, v_Expr, v_Set, v_Par, v_Raise, v_For, v_Put, v_fnx, v_frt, v_fex, v_of, v_add, v_sub, v_neg, v_rel, v_abs, v_lenT, v_lenS, v_max, v_min, v_intB, v_intI, v_gcd, v_cutT, v_listT, v_backT, v_eqI, v_eqS, List.replicate, small, atI, ixN, L_kept, rt h6 (Step.refl p h6)]
  obtain ⟨y8, h7, s7, S7, P7⟩ := doors_ok (a0 := a0) (a1 := a1) (a2 := some (.ref p)) (a3 := a3) (a6 := some (.int w)) (a7 := some (.str t)) (a9 := a9) (a10 := a10) P6 X6 Y6 x8
  have s8 : L_after [a0, a1, some (.ref p), a3, some x, some y, some (.int w), some (.str t), y8, a9, a10] h7 = .nx [a0, a1, some (.ref p), a3, some x, some y, some (.int w), some (.str t), y8, a9, a10] h7 := by simp [c_bind, c_into, c_then, v_K, v_V, v_vR, v_Op, v_Un, v_bOf, v_isB, v_isBx, v_bAnd, v_bOr, v_bNot, v_eAnd, v_eOr, v_eNot, v_eIf, v_aNil, v_aCons, v_Tup, v_Lst, v_Dct, v_Call, v_CallK, v_Bi, v_Isi, v_Cut, v_oNone, v_oSome, v_vO, v_End, v_Seq, v_If, v_Ret, v_Expr, v_Set, v_Par, v_Raise, v_For, v_Put, v_fnx, v_frt, v_fex, v_of, v_add, v_sub, v_neg, v_rel, v_abs, v_lenT, v_lenS, v_max, v_min, v_intB, v_intI, v_gcd, v_cutT, v_listT, v_backT, v_eqI, v_eqS, List.replicate, small, atI, ixN, L_after, rt h7 S7]
  refine ⟨some x, some y, some (.int w), some (.str t), y8, h7, ?_, P7.mono (by omega)⟩
  rw [seq_nx s1, seq_nx s2, seq_nx s3, seq_nx s4, seq_nx s5, seq_nx s6, seq_nx s7, seq_nx s8]
  rfl
theorem turn_ok {ns : List Int} {i : Nat} (hi : i < 100) (h : Hq) (x2 x3 x4 x5 x6 x7 x8 x9 x10 : Option D) :
    ∃ y2 y3 y4 y5 y6 y7 y8 h', L_turn [some (.scr ns), some (.int i), x2, x3, x4, x5, x6, x7, x8, x9, x10] h = .nx [some (.scr ns), some (.int i), y2, y3, y4, y5, y6, y7, y8, x9, x10] h' := by
  obtain ⟨pl, e0, P0⟩ := pot_ok (h := h) (ns := ns) hi
  obtain ⟨p, hp⟩ : ∃ p, p = h.length := ⟨_, rfl⟩
  rw [← hp] at e0 P0
  have s0 : L_pot [some (.scr ns), some (.int i), x2, x3, x4, x5, x6, x7, x8, x9, x10] h = .nx [some (.scr ns), some (.int i), some (.ref p), x3, x4, x5, x6, x7, x8, x9, x10] (h ++ [.lst pl]) := by simp [c_bind, c_into, c_then, v_K, v_V, v_vR, v_Op, v_Un, v_bOf, v_isB, v_isBx, v_bAnd, v_bOr, v_bNot, v_eAnd, v_eOr, v_eNot, v_eIf, v_aNil, v_aCons, v_Tup, v_Lst, v_Dct, v_Call, v_CallK, v_Bi, v_Isi, v_Cut, v_oNone, v_oSome, v_vO, v_End, v_Seq, v_If, v_Ret, v_Expr, v_Set, v_Par, v_Raise, v_For, v_Put, v_fnx, v_frt, v_fex, v_of, v_add, v_sub, v_neg, v_rel, v_abs, v_lenT, v_lenS, v_max, v_min, v_intB, v_intI, v_gcd, v_cutT, v_listT, v_backT, v_eqI, v_eqS, List.replicate, small, atI, ixN, L_pot, e0]
  have key := turns_range (n := 3) (j := 3) (b := sSeq L_pair (sSeq L_other (sSeq L_way (sSeq L_bend1 (sSeq L_bend2 (sSeq L_kept (sSeq L_doors (sSeq L_after (sEnd))))))))) (get := fun i _ => if i < ((3 : Int) - 0).toNat then some (.int (0 + (i : Int))) else none) (fin := fun i _ => decide (((3 : Int) - 0).toNat ≤ i))
    (I := fun k fr g => PotAt g p (60 * k) ∧ ∃ y3 y4 y5 y6 y7 y8, fr = [some (.scr ns), some (.int i), some (.ref p), y3, y4, y5, y6, y7, y8, x9, x10])
    (fun i h hi => by simp; exact hi) (fun h => by simp) (fun k fr g hk hI => ?_) 3 0 [some (.scr ns), some (.int i), some (.ref p), x3, x4, x5, x6, x7, x8, x9, x10] (h ++ [.lst pl]) (by omega) ⟨by simpa using P0, x3, x4, x5, x6, x7, x8, rfl⟩
  · obtain ⟨fr', h', e, _, y3, y4, y5, y6, y7, y8, rfl⟩ := key
    refine ⟨some (.ref p), y3, y4, y5, y6, y7, y8, h', ?_⟩
    have s1 : L_three [some (.scr ns), some (.int i), some (.ref p), x3, x4, x5, x6, x7, x8, x9, x10] (h ++ [.lst pl]) = .nx [some (.scr ns), some (.int i), some (.ref p), y3, y4, y5, y6, y7, y8, x9, x10] h' := by
      unfold L_three
      have es : iRange (aCons (eK (.int 3)) (aNil)) [some (.scr ns), some (.int i), some (.ref p), x3, x4, x5, x6, x7, x8, x9, x10] (h ++ [.lst pl]) = .ok ⟨3, fun i _ => if i < ((3 : Int) - 0).toNat then some (.int (0 + (i : Int))) else none, fun i _ => decide (((3 : Int) - 0).toNat ≤ i)⟩ (h ++ [.lst pl]) := rfl
      rw [v_For, es]
      exact e
    unfold L_turn
    rw [seq_nx s0, seq_nx s1]
    rfl
  · obtain ⟨P', y3, y4, y5, y6, y7, y8, rfl⟩ := hI
    obtain ⟨z4, z5, z6, z7, z8, h', e, P2⟩ := one_ok (a0 := some (.scr ns)) (a1 := some (.int i)) (a3 := some (.int k)) (a9 := x9) (a10 := x10) P' (by omega) y4 y5 y6 y7 y8
    exact ⟨_, h', e, P2.mono (by push_cast; omega), _, _, _, _, _, _, rfl⟩
end K03
end

section
set_option Elab.async false
set_option linter.all false
set_option autoImplicit false
set_option maxRecDepth 100000
set_option exponentiation.threshold 20000
set_option maxHeartbeats 4000000
open PySem L2
namespace K03
open MI
theorem picks_tup {h1 : Hq} {j : Nat} {l : List D} {f : D → D} {e : Sx} {fr : Fr} (he : ∀ d ∈ l, ∀ h, e (fr.set j (some d)) h = .ok (f d) h) (hs : l.length ≤ 1000) :
    ∀ (k i : Nat) (acc : List D), i + k = l.length → acc.length = i → picks h1.length (srcT l).get (srcT l).fin (tgN j) cYes e fr k i (h1 ++ [.lst acc]) = .ok (.ref h1.length) (h1 ++ [.lst (acc ++ (l.drop i).map f)])
  | 0, i, acc, hk, ha => by
    have hi : i = l.length := by omega
    subst hi
    unfold picks
    have : (srcT l).fin l.length (h1 ++ [.lst acc]) = true := by simp [srcT]
    rw [if_pos this]
    simp
  | k + 1, i, acc, hk, ha => by
    have hi : i < l.length := by omega
    unfold picks
    have g : (srcT l).get i (h1 ++ [.lst acc]) = some l[i] := by simp [srcT, hi]
    have s : small (acc.length + 1) = true := decide_eq_true (by omega)
    rw [g]
    simp only [tgN, cYes, he l[i] (List.getElem_mem hi), lst_new, s, if_true]
    have st : (h1 ++ [Cell.lst acc]).set h1.length (.lst (acc ++ [f l[i]])) = h1 ++ [.lst (acc ++ [f l[i]])] := by simp [List.set_append]
    rw [st]
    have ih := picks_tup (h1 := h1) he hs k (i + 1) (acc ++ [f l[i]]) (by omega) (by simp [ha])
    try simp only [tgN] at ih
    rw [ih]
    congr 4
    rw [List.append_assoc]
    congr 1
    rw [List.drop_eq_getElem_cons hi]
    rfl
theorem need_at {h : Hq} {o u : Int} (hu : 1 ≤ u) (hg : gI o u = 1) (hb : u < 2 ^ 8000) : fneed_fraction [.tup [.int o, .int u]] h = .ok .non h := by
  have e : fr2 (.tup [.int o, .int u]) = some (o, u) := by simp only [fr2]; rw [if_pos ⟨hu, hg⟩]
  have := need_ok (h := h) (d := .tup [.int o, .int u]) ⟨⟨_, rfl⟩, fun l e x hx => by
    cases e
    simp only [List.mem_cons, List.not_mem_nil, or_false] at hx
    rcases hx with rfl | rfl <;> exact ⟨_, rfl⟩⟩ (fun o' u' e => by cases e; exact hb)
  rw [e] at this
  exact this
theorem isf_at {h : Hq} {o u : Int} (hu : 1 ≤ u) (hg : gI o u = 1) (hb : u < 2 ^ 8000) : fis_fraction [.tup [.int o, .int u]] h = .ok (.bl true) h := by
  have := (isfr_ok (h := h) (d := .tup [.int o, .int u]) ⟨⟨_, rfl⟩, fun l e x hx => by
    cases e
    simp only [List.mem_cons, List.not_mem_nil, or_false] at hx
    rcases hx with rfl | rfl <;> exact ⟨_, rfl⟩⟩ (fun o' u' e => by cases e; exact hb)).1
  have e : isF (.tup [.int o, .int u]) = true := by simp only [isF, hu, hg, decide_true, Bool.and_self]
  rw [e] at this
  exact this
theorem law_ok (ns : List Int) (hns : ns.length ≤ 63) : ∃ h', flaw [.scr ns] [] = .ok (.bl true) h' := by
  obtain ⟨N, hN⟩ : ∃ N : Int, N = (if (if (ns.length : Int) < 40 then (ns.length : Int) else 40) > 1 then (if (ns.length : Int) < 40 then (ns.length : Int) else 40) else 1) := ⟨_, rfl⟩
  have N0 : 1 ≤ N := by rw [hN]; split <;> split <;> omega
  have N1 : N ≤ 40 := by rw [hN]; split <;> split <;> omega
  obtain ⟨n, hn⟩ : ∃ n : Nat, N = n := ⟨N.toNat, by omega⟩
  have key := turns_range (n := n) (j := 1) (b := L_turn) (get := fun i _ => if i < (N - 0).toNat then some (.int (0 + (i : Int))) else none) (fin := fun i _ => decide ((N - 0).toNat ≤ i))
    (I := fun i fr h => ∃ x1 x2 x3 x4 x5 x6 x7 x8, fr = [some (.scr ns), x1, x2, x3, x4, x5, x6, x7, x8, none, none])
    (fun i h hi => by have : i < (N - 0).toNat := by omega
                      simp only [this, if_true, Int.zero_add]) (fun h => by simp; omega) (fun i fr h hi hI => ?_) n 0 [some (.scr ns), none, none, none, none, none, none, none, none, none, none] [] (by omega) ⟨_, _, _, _, _, _, _, _, rfl⟩
  · obtain ⟨fr', h, e, x1, x2, x3, x4, x5, x6, x7, x8, rfl⟩ := key
    have es : L_src [some (.scr ns), none, none, none, none, none, none, none, none, none, none] [] = .ok ⟨(N - 0).toNat, fun i _ => if i < (N - 0).toNat then some (.int (0 + (i : Int))) else none, fun i _ => decide ((N - 0).toNat ≤ i)⟩ [] := by
      unfold L_src iRange
      have e1 : (aCons (eBi gMax (aCons (eK (.int 1)) (aCons (eBi gMin (aCons (eK (.int 40)) (aCons (eBi gLen (aCons (eV 0) (aNil))) (aNil)))) (aNil)))) (aNil)) [some (.scr ns), none, none, none, none, none, none, none, none, none, none] [] = .ok [.int N] [] := by
        rw [hN]
        simp [c_bind, c_into, c_then, v_K, v_V, v_vR, v_Op, v_Un, v_bOf, v_isB, v_isBx, v_bAnd, v_bOr, v_bNot, v_eAnd, v_eOr, v_eNot, v_eIf, v_aNil, v_aCons, v_Tup, v_Lst, v_Dct, v_Call, v_CallK, v_Bi, v_Isi, v_Cut, v_oNone, v_oSome, v_vO, v_End, v_Seq, v_If, v_Ret, v_Expr, v_Set, v_Par, v_Raise, v_For, v_Put, v_fnx, v_frt, v_fex, v_of, v_add, v_sub, v_neg, v_rel, v_abs, v_lenT, v_lenS, v_max, v_min, v_intB, v_intI, v_gcd, v_cutT, v_listT, v_backT, v_eqI, v_eqS, List.replicate, small, atI, ixN]
      rw [e1]
      show iR 0 N [] = _
      unfold iR
      rw [if_pos (by omega)]
    have s1 : (sFor (tgN 1) L_src L_turn) [some (.scr ns), none, none, none, none, none, none, none, none, none, none] [] = .nx [some (.scr ns), x1, x2, x3, x4, x5, x6, x7, x8, none, none] h := by
      rw [v_For, es]
      have hn2 : (N - 0).toNat = n := by omega
      show turns _ _ _ _ (N - 0).toNat 0 _ _ = _
      rw [hn2]
      rw [hn2] at e
      exact e
    -- what the doors tell of written ones
    have t1 : Two 1 6 1 3 := ⟨by decide, by decide, by decide, by decide, by decide, by decide⟩
    have t2 : Two 1 2 1 2 := ⟨by decide, by decide, by decide, by decide, by decide, by decide⟩
    have t3 : Two 1 2 2 3 := ⟨by decide, by decide, by decide, by decide, by decide, by decide⟩
    have t4 : Two (-1) 2 (-2) 3 := ⟨by decide, by decide, by decide, by decide, by decide, by decide⟩
    have n16 : ∀ h, fneed_fraction [.tup [.int 1, .int 6]] h = .ok .non h := fun h => need_at (by decide) (by simp [gI]) (by decide)
    have n13 : ∀ h, fneed_fraction [.tup [.int 1, .int 3]] h = .ok .non h := fun h => need_at (by decide) (by simp [gI]) (by decide)
    have n12 : ∀ h, fneed_fraction [.tup [.int 1, .int 2]] h = .ok .non h := fun h => need_at (by decide) (by simp [gI]) (by decide)
    have n23 : ∀ h, fneed_fraction [.tup [.int 2, .int 3]] h = .ok .non h := fun h => need_at (by decide) (by simp [gI]) (by decide)
    have n34 : ∀ h, fneed_fraction [.tup [.int (-3), .int 4]] h = .ok .non h := fun h => need_at (by decide) (by simp [gI]) (by decide)
    have n32 : ∀ h, fneed_fraction [.tup [.int 3, .int 2]] h = .ok .non h := fun h => need_at (by decide) (by simp [gI]) (by decide)
    have m32 : ∀ h, fneed_fraction [.tup [.int (-3), .int 2]] h = .ok .non h := fun h => need_at (by decide) (by simp [gI]) (by decide)
    have m12 : ∀ h, fneed_fraction [.tup [.int (-1), .int 2]] h = .ok .non h := fun h => need_at (by decide) (by simp [gI]) (by decide)
    have i23 : ∀ h, fis_fraction [.tup [.int 2, .int 3]] h = .ok (.bl true) h := fun h => isf_at (by decide) (by simp [gI]) (by decide)
    have j23 : ∀ h, fis_fraction [.tup [.int (-2), .int 3]] h = .ok (.bl true) h := fun h => isf_at (by decide) (by simp [gI]) (by decide)
    have i12 : ∀ h, fis_fraction [.tup [.int 1, .int 2]] h = .ok (.bl true) h := fun h => isf_at (by decide) (by simp [gI]) (by decide)
    have a1 : ∀ h, fadded [.tup [.int 1, .int 6], .tup [.int 1, .int 3]] h = .ok (.tup [.int 1, .int 2]) h := fun h => by rw [added_ok t1]; simp [lowD, gI]
    have a2 : ∀ h, ftaken [.tup [.int 1, .int 2], .tup [.int 1, .int 2]] h = .ok (.tup [.int 0, .int 1]) h := fun h => by rw [taken_ok t2]; simp [lowD, gI]
    have a3 : ∀ h, flowest [.int (-6), .int 12] h = .ok (.tup [.int (-1), .int 2]) h := fun h => by rw [lowP_ok (by decide) (by decide)]; simp [gI]
    have a4 : ∀ h, flowest [.int 4, .int (-6)] h = .ok (.tup [.int (-2), .int 3]) h := fun h => by rw [lowN_ok (by decide) (by decide)]; simp [gI]
    have k1 : mulOk 2 (-3) = true := by decide
    have k2 : mulOk 3 4 = true := by decide
    have k3 : mulOk 1 4 = true := by decide
    obtain ⟨A, hA⟩ : ∃ A : List D, A = [.tup [.int 1, .int 2], .tup [.int 0, .int 1], .tup [.int (-1), .int 2], .tup [.int (-2), .int 3]] := ⟨_, rfl⟩
    have p1 : ∀ h, fplus [.tup [.int 1, .int 6], .tup [.int 1, .int 3]] h = .ok (.tup [.int 1, .int 2]) h := fun h => by simp [c_bind, c_into, c_then, v_K, v_V, v_vR, v_Op, v_Un, v_bOf, v_isB, v_isBx, v_bAnd, v_bOr, v_bNot, v_eAnd, v_eOr, v_eNot, v_eIf, v_aNil, v_aCons, v_Tup, v_Lst, v_Dct, v_Call, v_CallK, v_Bi, v_Isi, v_Cut, v_oNone, v_oSome, v_vO, v_End, v_Seq, v_If, v_Ret, v_Expr, v_Set, v_Par, v_Raise, v_For, v_Put, v_fnx, v_frt, v_fex, v_of, v_add, v_sub, v_neg, v_rel, v_abs, v_lenT, v_lenS, v_max, v_min, v_intB, v_intI, v_gcd, v_cutT, v_listT, v_backT, v_eqI, v_eqS, List.replicate, small, atI, ixN, fplus, bplus, n16, n13, a1]
    have p2 : ∀ h, fminus [.tup [.int 1, .int 2], .tup [.int 1, .int 2]] h = .ok (.tup [.int 0, .int 1]) h := fun h => by simp [c_bind, c_into, c_then, v_K, v_V, v_vR, v_Op, v_Un, v_bOf, v_isB, v_isBx, v_bAnd, v_bOr, v_bNot, v_eAnd, v_eOr, v_eNot, v_eIf, v_aNil, v_aCons, v_Tup, v_Lst, v_Dct, v_Call, v_CallK, v_Bi, v_Isi, v_Cut, v_oNone, v_oSome, v_vO, v_End, v_Seq, v_If, v_Ret, v_Expr, v_Set, v_Par, v_Raise, v_For, v_Put, v_fnx, v_frt, v_fex, v_of, v_add, v_sub, v_neg, v_rel, v_abs, v_lenT, v_lenS, v_max, v_min, v_intB, v_intI, v_gcd, v_cutT, v_listT, v_backT, v_eqI, v_eqS, List.replicate, small, atI, ixN, fminus, bminus, n12, a2]
    have p3 : ∀ h, ftimes [.tup [.int 2, .int 3], .tup [.int (-3), .int 4]] h = .ok (.tup [.int (-1), .int 2]) h := fun h => by simp [c_bind, c_into, c_then, v_K, v_V, v_vR, v_Op, v_Un, v_bOf, v_isB, v_isBx, v_bAnd, v_bOr, v_bNot, v_eAnd, v_eOr, v_eNot, v_eIf, v_aNil, v_aCons, v_Tup, v_Lst, v_Dct, v_Call, v_CallK, v_Bi, v_Isi, v_Cut, v_oNone, v_oSome, v_vO, v_End, v_Seq, v_If, v_Ret, v_Expr, v_Set, v_Par, v_Raise, v_For, v_Put, v_fnx, v_frt, v_fex, v_of, v_add, v_sub, v_neg, v_rel, v_abs, v_lenT, v_lenS, v_max, v_min, v_intB, v_intI, v_gcd, v_cutT, v_listT, v_backT, v_eqI, v_eqS, List.replicate, small, atI, ixN, ftimes, btimes, n23, n34, ix0, ix1, v_mul k1, v_mul k2, a3]
    have p4 : ∀ h, fby [.tup [.int 1, .int 2], .tup [.int (-3), .int 4]] h = .ok (.tup [.int (-2), .int 3]) h := fun h => by simp [c_bind, c_into, c_then, v_K, v_V, v_vR, v_Op, v_Un, v_bOf, v_isB, v_isBx, v_bAnd, v_bOr, v_bNot, v_eAnd, v_eOr, v_eNot, v_eIf, v_aNil, v_aCons, v_Tup, v_Lst, v_Dct, v_Call, v_CallK, v_Bi, v_Isi, v_Cut, v_oNone, v_oSome, v_vO, v_End, v_Seq, v_If, v_Ret, v_Expr, v_Set, v_Par, v_Raise, v_For, v_Put, v_fnx, v_frt, v_fex, v_of, v_add, v_sub, v_neg, v_rel, v_abs, v_lenT, v_lenS, v_max, v_min, v_intB, v_intI, v_gcd, v_cutT, v_listT, v_backT, v_eqI, v_eqS, List.replicate, small, atI, ixN, fby, bby, n12, n34, ix0, ix1, v_mul k1, v_mul k3, a4]
    have s2 : L_told [some (.scr ns), x1, x2, x3, x4, x5, x6, x7, x8, none, none] h = .nx [some (.scr ns), x1, x2, x3, x4, x5, x6, x7, x8, some (.ref h.length), none] (h ++ [.lst A]) := by
      subst hA
      simp [c_bind, c_into, c_then, v_K, v_V, v_vR, v_Op, v_Un, v_bOf, v_isB, v_isBx, v_bAnd, v_bOr, v_bNot, v_eAnd, v_eOr, v_eNot, v_eIf, v_aNil, v_aCons, v_Tup, v_Lst, v_Dct, v_Call, v_CallK, v_Bi, v_Isi, v_Cut, v_oNone, v_oSome, v_vO, v_End, v_Seq, v_If, v_Ret, v_Expr, v_Set, v_Par, v_Raise, v_For, v_Put, v_fnx, v_frt, v_fex, v_of, v_add, v_sub, v_neg, v_rel, v_abs, v_lenT, v_lenS, v_max, v_min, v_intB, v_intI, v_gcd, v_cutT, v_listT, v_backT, v_eqI, v_eqS, List.replicate, small, atI, ixN, L_told, p1, p2, p3, p4]
    have lA : lstAt (h ++ [.lst A, .lst A]) h.length = some A := by unfold lstAt; simp
    have lA2 : lstAt (h ++ [.lst A, .lst A]) (h.length + 1) = some A := by unfold lstAt; simp
    have q1 : dEqs true (.ref h.length) (.ref (h.length + 1)) (h ++ [.lst A, .lst A]) = .ok (.bl false) (h ++ [.lst A, .lst A]) := by
      subst hA
      simp [dEqs, eqQ, dEqP, toPy, lA, lA2, opts, SeqAt.shaped, PyData.eqv, PyData.eqvAll, PyData.canLay0, PyData.canLayAll0, PyData.depth, PyData.depthAll]
    have d2 : divOk 2 = true := by decide
    have fl : ∀ h, (eCall 1 ffloor_of (aCons (eTup (aCons (eV 10) (aCons (eK (.int 2)) (aNil)))) (aNil))) [some (.scr ns), x1, x2, x3, x4, x5, x6, x7, x8, some (.ref h.length), some (.int (-3))] h = .ok (.int (-2)) h := fun h => by simp [c_bind, c_into, c_then, v_K, v_V, v_vR, v_Op, v_Un, v_bOf, v_isB, v_isBx, v_bAnd, v_bOr, v_bNot, v_eAnd, v_eOr, v_eNot, v_eIf, v_aNil, v_aCons, v_Tup, v_Lst, v_Dct, v_Call, v_CallK, v_Bi, v_Isi, v_Cut, v_oNone, v_oSome, v_vO, v_End, v_Seq, v_If, v_Ret, v_Expr, v_Set, v_Par, v_Raise, v_For, v_Put, v_fnx, v_frt, v_fex, v_of, v_add, v_sub, v_neg, v_rel, v_abs, v_lenT, v_lenS, v_max, v_min, v_intB, v_intI, v_gcd, v_cutT, v_listT, v_backT, v_eqI, v_eqS, List.replicate, small, atI, ixN, ffloor_of, bfloor_of, m32, ix0, ix1, v_div d2]
    have pk := picks_tup (h1 := h ++ [.lst A, .lst A]) (j := 10) (l := [.int (-3), .int 3]) (f := fun d => match d with | .int i => .int (i / 2) | d => d) (e := eCall 1 ffloor_of (aCons (eTup (aCons (eV 10) (aCons (eK (.int 2)) (aNil)))) (aNil))) (fr := [some (.scr ns), x1, x2, x3, x4, x5, x6, x7, x8, some (.ref h.length), none]) (fun d hd h => by
      simp only [List.mem_cons, List.not_mem_nil, or_false] at hd
      rcases hd with rfl | rfl
      · simp [c_bind, c_into, c_then, v_K, v_V, v_vR, v_Op, v_Un, v_bOf, v_isB, v_isBx, v_bAnd, v_bOr, v_bNot, v_eAnd, v_eOr, v_eNot, v_eIf, v_aNil, v_aCons, v_Tup, v_Lst, v_Dct, v_Call, v_CallK, v_Bi, v_Isi, v_Cut, v_oNone, v_oSome, v_vO, v_End, v_Seq, v_If, v_Ret, v_Expr, v_Set, v_Par, v_Raise, v_For, v_Put, v_fnx, v_frt, v_fex, v_of, v_add, v_sub, v_neg, v_rel, v_abs, v_lenT, v_lenS, v_max, v_min, v_intB, v_intI, v_gcd, v_cutT, v_listT, v_backT, v_eqI, v_eqS, List.replicate, small, atI, ixN, ffloor_of, bfloor_of, m32, ix0, ix1, v_div d2]
      · simp [c_bind, c_into, c_then, v_K, v_V, v_vR, v_Op, v_Un, v_bOf, v_isB, v_isBx, v_bAnd, v_bOr, v_bNot, v_eAnd, v_eOr, v_eNot, v_eIf, v_aNil, v_aCons, v_Tup, v_Lst, v_Dct, v_Call, v_CallK, v_Bi, v_Isi, v_Cut, v_oNone, v_oSome, v_vO, v_End, v_Seq, v_If, v_Ret, v_Expr, v_Set, v_Par, v_Raise, v_For, v_Put, v_fnx, v_frt, v_fex, v_of, v_add, v_sub, v_neg, v_rel, v_abs, v_lenT, v_lenS, v_max, v_min, v_intB, v_intI, v_gcd, v_cutT, v_listT, v_backT, v_eqI, v_eqS, List.replicate, small, atI, ixN, ffloor_of, bfloor_of, n32, ix0, ix1, v_div d2]) (by decide) 2 0 [] rfl rfl
    have cmp : eComp (iSeq (eTup (aCons (eUn dNeg (eK (.int 3))) (aCons (eK (.int 3)) (aNil))))) [10] (tgN 10) (cYes) (eCall 1 ffloor_of (aCons (eTup (aCons (eV 10) (aCons (eK (.int 2)) (aNil)))) (aNil))) [some (.scr ns), x1, x2, x3, x4, x5, x6, x7, x8, some (.ref h.length), none] (h ++ [.lst A, .lst A]) = .ok (.ref (h.length + 2)) (h ++ [.lst A, .lst A, .lst [.int (-2), .int 1]]) := by
      have es2 : (iSeq (eTup (aCons (eUn dNeg (eK (.int 3))) (aCons (eK (.int 3)) (aNil))))) [some (.scr ns), x1, x2, x3, x4, x5, x6, x7, x8, some (.ref h.length), none] (h ++ [.lst A, .lst A]) = .ok (srcT [.int (-3), .int 3]) (h ++ [.lst A, .lst A]) := by
        unfold iSeq
        simp [c_bind, c_into, c_then, v_K, v_V, v_vR, v_Op, v_Un, v_bOf, v_isB, v_isBx, v_bAnd, v_bOr, v_bNot, v_eAnd, v_eOr, v_eNot, v_eIf, v_aNil, v_aCons, v_Tup, v_Lst, v_Dct, v_Call, v_CallK, v_Bi, v_Isi, v_Cut, v_oNone, v_oSome, v_vO, v_End, v_Seq, v_If, v_Ret, v_Expr, v_Set, v_Par, v_Raise, v_For, v_Put, v_fnx, v_frt, v_fex, v_of, v_add, v_sub, v_neg, v_rel, v_abs, v_lenT, v_lenS, v_max, v_min, v_intB, v_intI, v_gcd, v_cutT, v_listT, v_backT, v_eqI, v_eqS, List.replicate, small, atI, ixN]
      unfold eComp
      rw [es2]
      show picks (h ++ [Cell.lst A, Cell.lst A]).length (srcT [.int (-3), .int 3]).get (srcT [.int (-3), .int 3]).fin (tgN 10) cYes (eCall 1 ffloor_of (aCons (eTup (aCons (eV 10) (aCons (eK (.int 2)) (aNil)))) (aNil))) [some (.scr ns), x1, x2, x3, x4, x5, x6, x7, x8, some (.ref h.length), none] 2 0 ((h ++ [Cell.lst A, Cell.lst A]) ++ [.lst []]) = _
      rw [pk]
      simp
    have lB : lstAt (h ++ [.lst A, .lst A, .lst [.int (-2), .int 1], .lst [.int (-2), .int 1]]) (h.length + 2) = some [.int (-2), .int 1] := by unfold lstAt; simp
    have lB2 : lstAt (h ++ [.lst A, .lst A, .lst [.int (-2), .int 1], .lst [.int (-2), .int 1]]) (h.length + 3) = some [.int (-2), .int 1] := by unfold lstAt; simp
    have q2 : dEqs true (.ref (h.length + 2)) (.ref (h.length + 3)) (h ++ [.lst A, .lst A, .lst [.int (-2), .int 1], .lst [.int (-2), .int 1]]) = .ok (.bl false) (h ++ [.lst A, .lst A, .lst [.int (-2), .int 1], .lst [.int (-2), .int 1]]) := by
      simp [dEqs, eqQ, dEqP, toPy, lB, lB2, opts, SeqAt.shaped, PyData.eqv, PyData.eqvAll, PyData.canLay0, PyData.canLayAll0, PyData.depth, PyData.depthAll]
    have s3 : L_right [some (.scr ns), x1, x2, x3, x4, x5, x6, x7, x8, some (.ref h.length), none] (h ++ [.lst A]) = .nx [some (.scr ns), x1, x2, x3, x4, x5, x6, x7, x8, some (.ref h.length), none] (h ++ [.lst A, .lst A, .lst [.int (-2), .int 1], .lst [.int (-2), .int 1]]) := by
      subst hA
      simp [c_bind, c_into, c_then, v_K, v_V, v_vR, v_Op, v_Un, v_bOf, v_isB, v_isBx, v_bAnd, v_bOr, v_bNot, v_eAnd, v_eOr, v_eNot, v_eIf, v_aNil, v_aCons, v_Tup, v_Lst, v_Dct, v_Call, v_CallK, v_Bi, v_Isi, v_Cut, v_oNone, v_oSome, v_vO, v_End, v_Seq, v_If, v_Ret, v_Expr, v_Set, v_Par, v_Raise, v_For, v_Put, v_fnx, v_frt, v_fex, v_of, v_add, v_sub, v_neg, v_rel, v_abs, v_lenT, v_lenS, v_max, v_min, v_intB, v_intI, v_gcd, v_cutT, v_listT, v_backT, v_eqI, v_eqS, List.replicate, small, atI, ixN, L_right, q1, cmp, q2]
    have b3 : ∀ h, fis_less [.tup [.int 1, .int 2], .tup [.int 2, .int 3]] h = .ok (.bl true) h := fun h => by simp [c_bind, c_into, c_then, v_K, v_V, v_vR, v_Op, v_Un, v_bOf, v_isB, v_isBx, v_bAnd, v_bOr, v_bNot, v_eAnd, v_eOr, v_eNot, v_eIf, v_aNil, v_aCons, v_Tup, v_Lst, v_Dct, v_Call, v_CallK, v_Bi, v_Isi, v_Cut, v_oNone, v_oSome, v_vO, v_End, v_Seq, v_If, v_Ret, v_Expr, v_Set, v_Par, v_Raise, v_For, v_Put, v_fnx, v_frt, v_fex, v_of, v_add, v_sub, v_neg, v_rel, v_abs, v_lenT, v_lenS, v_max, v_min, v_intB, v_intI, v_gcd, v_cutT, v_listT, v_backT, v_eqI, v_eqS, List.replicate, small, atI, ixN, fis_less, bis_less, n12, i23, below_ok t3]
    have b4 : ∀ h, fis_less [.tup [.int (-1), .int 2], .tup [.int (-2), .int 3]] h = .ok (.bl false) h := fun h => by simp [c_bind, c_into, c_then, v_K, v_V, v_vR, v_Op, v_Un, v_bOf, v_isB, v_isBx, v_bAnd, v_bOr, v_bNot, v_eAnd, v_eOr, v_eNot, v_eIf, v_aNil, v_aCons, v_Tup, v_Lst, v_Dct, v_Call, v_CallK, v_Bi, v_Isi, v_Cut, v_oNone, v_oSome, v_vO, v_End, v_Seq, v_If, v_Ret, v_Expr, v_Set, v_Par, v_Raise, v_For, v_Put, v_fnx, v_frt, v_fex, v_of, v_add, v_sub, v_neg, v_rel, v_abs, v_lenT, v_lenS, v_max, v_min, v_intB, v_intI, v_gcd, v_cutT, v_listT, v_backT, v_eqI, v_eqS, List.replicate, small, atI, ixN, fis_less, bis_less, m12, j23, below_ok t4]
    have b2 : ∀ h, fis_less [.tup [.int 1, .int 2], .tup [.int 1, .int 2]] h = .ok (.bl false) h := fun h => by simp [c_bind, c_into, c_then, v_K, v_V, v_vR, v_Op, v_Un, v_bOf, v_isB, v_isBx, v_bAnd, v_bOr, v_bNot, v_eAnd, v_eOr, v_eNot, v_eIf, v_aNil, v_aCons, v_Tup, v_Lst, v_Dct, v_Call, v_CallK, v_Bi, v_Isi, v_Cut, v_oNone, v_oSome, v_vO, v_End, v_Seq, v_If, v_Ret, v_Expr, v_Set, v_Par, v_Raise, v_For, v_Put, v_fnx, v_frt, v_fex, v_of, v_add, v_sub, v_neg, v_rel, v_abs, v_lenT, v_lenS, v_max, v_min, v_intB, v_intI, v_gcd, v_cutT, v_listT, v_backT, v_eqI, v_eqS, List.replicate, small, atI, ixN, fis_less, bis_less, n12, i12, below_ok t2]
    obtain ⟨T, hT⟩ : ∃ T : List Cell, T = [.lst A, .lst A, .lst [.int (-2), .int 1], .lst [.int (-2), .int 1]] := ⟨_, rfl⟩
    rw [← hT] at s3
    have hT4 : (h ++ T).length = h.length + 4 := by rw [hT]; simp
    have lC : lstAt (h ++ (T ++ [.lst [.bl true, .bl false, .bl false], .lst [.bl true, .bl false, .bl false]])) (h.length + 4) = some [.bl true, .bl false, .bl false] := by rw [hT]; unfold lstAt; simp
    have lC2 : lstAt (h ++ (T ++ [.lst [.bl true, .bl false, .bl false], .lst [.bl true, .bl false, .bl false]])) (h.length + 5) = some [.bl true, .bl false, .bl false] := by rw [hT]; unfold lstAt; simp
    have q3 : dEqs false (.ref (h.length + 4)) (.ref (h.length + 5)) (h ++ (T ++ [.lst [.bl true, .bl false, .bl false], .lst [.bl true, .bl false, .bl false]])) = .ok (.bl true) (h ++ (T ++ [.lst [.bl true, .bl false, .bl false], .lst [.bl true, .bl false, .bl false]])) := by
      simp [dEqs, eqQ, dEqP, toPy, lC, lC2, opts, SeqAt.shaped, PyData.eqv, PyData.eqvAll, PyData.canLay0, PyData.canLayAll0, PyData.depth, PyData.depthAll]
    have s4 : L_end [some (.scr ns), x1, x2, x3, x4, x5, x6, x7, x8, some (.ref h.length), none] (h ++ T) = .rt (.bl true) (h ++ (T ++ [.lst [.bl true, .bl false, .bl false], .lst [.bl true, .bl false, .bl false]])) := by
      have hTl : T.length = 4 := by rw [hT]; rfl
      simp [c_bind, c_into, c_then, v_K, v_V, v_vR, v_Op, v_Un, v_bOf, v_isB, v_isBx, v_bAnd, v_bOr, v_bNot, v_eAnd, v_eOr, v_eNot, v_eIf, v_aNil, v_aCons, v_Tup, v_Lst, v_Dct, v_Call, v_CallK, v_Bi, v_Isi, v_Cut, v_oNone, v_oSome, v_vO, v_End, v_Seq, v_If, v_Ret, v_Expr, v_Set, v_Par, v_Raise, v_For, v_Put, v_fnx, v_frt, v_fex, v_of, v_add, v_sub, v_neg, v_rel, v_abs, v_lenT, v_lenS, v_max, v_min, v_intB, v_intI, v_gcd, v_cutT, v_listT, v_backT, v_eqI, v_eqS, List.replicate, small, atI, ixN, L_end, b3, b4, b2, hTl, q3]
    refine ⟨h ++ (T ++ [.lst [.bl true, .bl false, .bl false], .lst [.bl true, .bl false, .bl false]]), ?_⟩
    show fin (blaw [some (.scr ns), none, none, none, none, none, none, none, none, none, none] []) = _
    rw [blaw_eq, seq_nx s1, seq_nx s2, seq_nx s3, seq_rt s4]
    rfl
  · obtain ⟨x1, x2, x3, x4, x5, x6, x7, x8, rfl⟩ := hI
    obtain ⟨y2, y3, y4, y5, y6, y7, y8, h', e⟩ := turn_ok (ns := ns) (i := i) (by omega) h x2 x3 x4 x5 x6 x7 x8 none none
    exact ⟨_, h', e, _, _, _, _, _, _, _, _, rfl⟩
end K03
end

section
set_option Elab.async false
set_option linter.all false
set_option autoImplicit false
set_option maxRecDepth 100000
set_option maxHeartbeats 4000000
namespace K03
open PySem PySem.Spec PyProof.Rows L2 MI
theorem done {P : Program} {w : World} {K : PySem.W.Frag} {h : Heap} {mg : Str → Option Value} {f : Addr} (X : K.In h) (G : h.Ns mainGlobals mg) (hfa : mg ("law" : Str) = some (.ref f)) (c : He.SaysD fa fn K) (m : ex K = true) :
    ∃ fd : FuncData, (∀ (s : Shared) (v : Value), BindsTo s fd ⟨[v], []⟩ [("script", v)]) ∧ ∀ base : Heap, K.In base → base.Ns mainGlobals mg → FnG P w K mg base 7 f fd ["script"] flaw := by
  have T := txt_of X G c m
  have e := hfa.symm.trans T.g_law
  cases e
  obtain ⟨fd, F⟩ := T.F_law
  have b := FunD.bindsA (ps := ["script"]) F fun _ _ _ _ _ _ us hl => match us, hl with | [_], _ => rfl
  exact ⟨fd, fun s v => b s [v] rfl, fun base _ _ => glaw T F⟩
end K03
open PySem PySem.W PyProof.Rows
set_option maxHeartbeats 0 in
theorem PySem.Challenge.cw_wherewhen_k03_fractions_reckoned_holds : PySem.Challenge.rw_wherewhen_k03_fractions_reckoned.Holds := by
  w_on; o_law; k_head; (case hw => w_witness2)
  k_fill
  refine MI.walkG (l := PySem.Challenge.rw_wherewhen_k03_fractions_reckoned) (n := 63) (k := 7) (x := "script") (sem := K03.flaw) rfl (by decide) rfl ⟨rfl, by decide, by decide⟩ (fun w h Y => PySem.W.kIn_of Y) ?F (fun ns hn => K03.law_ok ns hn)
  case F =>
    intro w mg fa h KX G hmg
    refine K03.done KX G hmg ?c ?m
    case c => show He.obsD _ _ _ = He.valD _; kernel_rfl
    case m => kernel_rfl
end
